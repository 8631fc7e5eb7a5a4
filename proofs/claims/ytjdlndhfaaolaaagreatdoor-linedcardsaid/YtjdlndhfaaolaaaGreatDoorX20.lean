import Derived.Test.YtjdlndhfaaolaaaGreatDoorX19
set_option maxHeartbeats 20000000
namespace Go.Proofs.YtjdlndhfaaolaaaGreatDoor
section
open Go.RowKit
open Go.Deep (BT)
def opens(k:Nat):Bool:=k==18||k==20||k==22
def P6(k:Nat):Bool:=k==19||k==21||k==23
theorem Af9(ts:List Tk)(i:Nat)(h:i<ts.length)(o:Int):nest (ts.drop i) o=if opens ts[i].k then(if 30<=o then ts[i].line else nest (ts.drop (i+1)) (o+1)) else if P6 ts[i].k then nest (ts.drop (i+1)) (o-1) else nest (ts.drop (i+1)) o:=by
 rw[List.drop_eq_getElem_cons h,nest];have e1:(ts[i].k=18\/ts[i].k=20\/ts[i].k=22)↔opens ts[i].k=true:=by simp[opens,or_assoc]
 have e2:(ts[i].k=19\/ts[i].k=21\/ts[i].k=23)↔P6 ts[i].k=true:=by simp[P6,or_assoc]
 simp only[e1,e2]
theorem Af7(ts:List Tk)(i:Nat)(h:ts.length<=i)(o:Int):nest (ts.drop i) o=0:=by
 rw[List.drop_eq_nil_of_le h,nest]
def Ns(s:Nm):Value:=.string ⟨s.toArray⟩
def P4(n:Nat):Value:=.int .i64 (n:Nat)
structure A2 (D : Nat -> Prop) (w w' : World) : Prop where
 os:w'.os=w.os
 tape:w'.tape=w.tape
 output:w'.output=w.output
 size:w.heap.size<=w'.heap.size
 block:∀k,D k->w'.heap[k]?=w.heap[k]?
theorem A2.refl(D:Nat->Prop)(w:World):A2 D w w:=⟨rfl,rfl,rfl,Nat.le_refl _,fun _ _=>rfl⟩
theorem A2.trans{D:Nat->Prop}{w w1 w2:World}(h:A2 D w w1)(h2:A2 D w1 w2):A2 D w w2:=⟨h2.os.trans h.os,h2.tape.trans h.tape,h2.output.trans h.output,Nat.le_trans h.size h2.size,fun k hk=>(h2.block k hk).trans (h.block k hk)⟩
theorem A2.set{D:Nat->Prop}{x w:World}(h:A2 D x w){p:Addr}(hp:¬D p.block)(u:Value):A2 D x (w.setCell p u):=⟨h.os,h.tape,h.output,by simp[World.setCell];exact h.size,fun k hk=>(Below.heap_setCell _ _ _ _ (fun e=>hp z5da)).trans (h.block k hk)⟩
theorem A2.alloc{D:Nat->Prop}{x w:World}(h:A2 D x w)(hn:∀g,D g->g<x.heap.size)(o:Obj):A2 D x (w.alloc o):=⟨h.os,h.tape,h.output,by simp;have:=h.size;omega,fun k hk=>(Below.heap_alloc _ _ _ (Nat.lt_of_lt_of_le (hn k hk) h.size)).trans (h.block k hk)⟩
theorem A2.weak{D E:Nat->Prop}{w w':World}(h:A2 D w w')(he:∀g,E g->D g):A2 E w w':=⟨h.os,h.tape,h.output,h.size,fun k hk=>h.block k (he k hk)⟩
theorem Nk{w:World}{g:Nat}{a0 a1 a2 a3 a4 a5 a6 a7:Value}{t:TypeId}(h:w.heap[g]?=some (.cells #[a0,a1,a2,a3,a4,a5,a6,a7] t (0,0))) :
  w.cell? ⟨g,0,none⟩=some a0/\w.cell? ⟨g,1,none⟩=some a1/\w.cell? ⟨g,2,none⟩=some a2/\w.cell? ⟨g,3,none⟩=some a3/\w.cell? ⟨g,4,none⟩=some a4/\w.cell? ⟨g,5,none⟩=some a5/\w.cell? ⟨g,6,none⟩=some a6/\w.cell? ⟨g,7,none⟩=some a7/\(∀o,w.frozen? ⟨g,o,none⟩=false)/\g<w.heap.size:=
 ⟨A7 h 0 _ rfl,A7 h 1 _ rfl,A7 h 2 _ rfl,A7 h 3 _ rfl,A7 h 4 _ rfl,A7 h 5 _ rfl,A7 h 6 _ rfl,A7 h 7 _ rfl,Ci h,A6 h⟩
theorem Ol{w:World}{base:Nat}{e:TypeId}{va:Option Addr}{vn vc n:Nat}{xs:List Value}(h:w.ownsRow base e 1 (.slice va vn vc) n xs)(i:Nat)(hi:i<n) :
  ∃g,va=some ⟨g,0,none⟩/\vn=n/\n<=vc/\g<w.heap.size/\(∀o,w.frozen? ⟨g,o,none⟩=false)/\∃hh:i<xs.length,w.cell? ⟨g,i,none⟩=some (xs[i]'hh):=by
 obtain⟨hl,⟨h2,h3⟩|⟨g,cap,cur,hv,_,hg,hcap,_,_,ht⟩⟩:=h
 ·omega
 ·injection hv with e1 e2 e3;subst e1 e2 e3;refine⟨g,rfl,rfl,hcap,A6 hg,Ci hg,by omega,?_⟩;have hi':i<xs.length:=by omega
  have hx:xs[i]?=some xs[i]:=List.getElem?_eq_getElem hi';have h2:xs[i]?=cur[i]?:=by
   rw[show xs[i]?=(List.take (vn*1) cur.toList)[i]? by rw[ht],List.getElem?_take,if_pos z4sa,Array.getElem?_toList]
  rw[cell_of_row w g i cur _ _ hg,←h2];exact hx
theorem Xq:(Tryz.prog.info? 9).map (fun i=>(i.zero,i.size,i.bytes))=some (some (.string ⟨#[]⟩),1,16):=by kernel_rfl
theorem Xo:(Tryz.prog.info? 3).map (fun i=>(i.zero,i.size,i.bytes))=some (some (.int .i64 0),1,8):=by kernel_rfl
theorem Acn:∀(fns:List (Nm×Nat)) (s:Nm) (i:Nat) (h:i<fns.length),fns[i].1=s->(∀j,j<i->∀h':j<fns.length,fns[j].1≠s)->M0 fns s=some fns[i].2:=by
 intro fns;induction fns with
 | nil=>intro s i h;simp at h
 | cons f r ih=>
  intro s i h e hno;cases i with
  | zero=>rw[M0,if_pos (by simpa using e)];rfl
  | succ i=>
   have h0:f.1≠s:=by have:=hno 0 z4sa z4wa;simpa using this
   rw[M0,if_neg h0,ih s i z5ta (by simpa using e) (fun j hj h'=>by have:=hno (j+1) z4sa (by simpa using h');simpa using this)];rfl
theorem Aco:∀(fns:List (Nm×Nat)) (s:Nm),(∀j,∀h:j<fns.length,fns[j].1≠s)->M0 fns s=none:=by
 intro fns;induction fns with
 | nil=>intro s _;rfl
 | cons f r ih=>
  intro s hno;have h0:f.1≠s:=by have:=hno 0 z4wa;simpa using this
  rw[M0,if_neg h0];exact ih s (fun j h=>by have:=hno (j+1) z5ta;simpa using this)
theorem Nv(a:Option Addr)(n m c:Nat):(Value.slice a n c).ownBlock=(Value.slice a m c).ownBlock:=by cases a <;> rfl
end
section
open Go.RowKit
open Go.Deep (BT)
variable {w:World}{base:Nat}{e:TypeId}{size:Nat}{va:Option Addr}{vn vc n:Nat}{xs:List Value}
theorem Hg(h:w.ownsRow base e size (.slice va vn vc) n xs)(hn:0<n) :
  ∃g,va=some ⟨g,0,none⟩/\vn=n/\n<=vc/\g<w.heap.size/\∀j u,xs[j]?=some u->w.cell? ⟨g,j,none⟩=some u:=by
 obtain⟨hl,⟨h2,h3⟩|⟨g,cap,cur,hv,_,hg,hcap,_,_,ht⟩⟩:=h
 ·omega
 ·injection hv with e1 e2 e3;subst e1 e2 e3;refine⟨g,rfl,rfl,hcap,A6 hg,fun j u hu=>?_⟩;rw[←ht,List.getElem?_take]at hu;split at hu
  ·rw[cell_of_row w g j cur _ _ hg,←Array.getElem?_toList];exact hu
  ·cases hu
theorem Afm(h:w.ownsRow base e size (.slice va vn vc) n xs):n<=vc:=by
 obtain⟨hl,⟨h2,h3⟩|⟨g,cap,cur,hv,_,hg,hcap,_⟩⟩:=h
 ·injection h2 with e1 e2 e3;omega
 ·injection hv with e1 e2 e3;omega
theorem Ni:∀f:BT A3,Ak f<=bsize f:=by
 intro f;induction f with
 | nil=>exact Nat.le_refl _
 | node x y l c r _ ih=>rw[Ak,bsize];omega
theorem A30(ps:List (Nat×Nm))(i:Nat)(h:i<ps.length)(cur:List Nm)(f:C4):Gw (ps.drop i) cur f=Gw (ps.drop (i+1)) (cur++[ps[i].2]) (Cy (decide (ps[i].2∈cur)) 3 ps[i].1 f):=by
 rw[List.drop_eq_getElem_cons h,Gw]
theorem A2z(ps:List (Nat×Nm))(i:Nat)(h:ps.length<=i)(cur:List Nm)(f:C4):Gw (ps.drop i) cur f=(cur,f):=by
 rw[List.drop_eq_nil_of_le h,Gw]
end
section
open Go.RowKit
open Go.Deep (BT)
def C2:Nat->BT A3->BT A3
 | 0,f=>f
 | _+1,.nil=>.nil
 | n+1,.node _ _ _ _ r=>C2 n r
theorem P8:∀n f,Ak (C2 n f)=Ak f-n:=by
 intro n;induction n with
 | zero=>intro f;rw[C2];rfl
 | succ n ih=>
  intro f;cases f with
  | nil=>rw[C2];simp[Ak]
  | node x y l c r=>rw[C2,ih,Ak];omega
theorem O8:∀n f x y l c r,C2 n f=.node x y l c r->C2 (n+1) f=r:=by
 intro n;induction n with
 | zero=>intro f x y l c r h;rw[C2]at h;subst h;rfl
 | succ n ih=>
  intro f x y l c r h;cases f with
  | nil=>rw[C2]at h;cases h
  | node x' y' l' c' r'=>rw[C2]at h ⊢;exact ih r' x y l c r h
theorem Wb:∀n f,bsize (C2 n f)<=bsize f:=by
 intro n;induction n with
 | zero=>intro f;exact Nat.le_refl _
 | succ n ih=>
  intro f;cases f with
  | nil=>exact Nat.le_refl _
  | node x y l c r=>rw[C2,bsize];have:=ih r;omega
end
section
set_option maxRecDepth 100000
open Go.RowKit
open Go.Deep (BT)
theorem An8{k:Nat}{s:PS}(h:(Aw k s).bad≠0)(hs:s.bad≠0->s.ts=[J0]):(Aw k s).ts=[J0]:=by
 unfold Aw at h ⊢;split
 ·rename_i hk;rw[if_pos hk,Qv]at h;unfold Aj;rw[if_pos (by unfold kT An;rw[hs h];rfl)];exact hs h
 ·unfold Dh;split
  ·rfl
  ·rename_i h0;exact hs h0
def A5u(b tb cap te:Nat)(ts:List Tk)(w:World)(p:List (Nat×List UInt8)×PS)(e:Ending)(w':World):Prop:=
 ∃va vn vc m cs,e=.returned (.slice va vn vc)/\Cr (fun g=>w.heap.size<=g) w' 148 2 (.slice va vn vc) m cs/\PR b tb cap te ts w' p.2/\A5 b w w'/\(p.2.bad=0->m=p.1.length/\cs=Kq p.1)
def Zx(b tb cap te:Nat)(ts:List Tk)(n:Nat)(p:List (Nat×List UInt8)×PS)(w:World)(k:Nat)(v:Value)(wr:World):Prop:=
 ∃(acc:List (Nat×List UInt8)) (st:PS) (va:Option Addr) (vn vc m:Nat) (cs:List Value),v=.slice va vn vc/\k<=n/\Gn (k+1) acc st=some p/\PR b tb cap te ts wr (Aw 1 st)/\A5 b w wr/\m+k<=n+1/\
  Cr (fun g=>w.heap.size<=g) wr 148 2 (.slice va vn vc) m cs/\((Aw 1 st).bad=0->m=acc.length+1/\cs=Kq (acc++[((An st).line,(An st).s)]))
theorem Agr(a b:List (Nat×List UInt8)):Kq (a++b)=Kq a++Kq b:=by simp[Kq]
theorem Agj{b tb cap te:Nat}{ts:List Tk}{n:Nat}(hn:n<=500000)(w:World)(s:PS)(p:List (Nat×List UInt8)×PS)(hs:PR b tb cap te ts w s)(hp:params n (Aw 18 s)=some p) :
  Calls Tryz.prog 184 #[.pointer (some ⟨b,0,none⟩)] w (A5u b tb cap te ts w p):=by
 have HS:=A0 hs;obtain⟨lb,lt,lne⟩:=hs.lt;by_cases c19:kT (Aw 18 s)=19
 ·have HR:Hid (p=([],Aj (Aw 18 s))):=by
   unfold params at hp;rw[if_pos c19]at hp;exact(Option.some.inj hp).symm
  have HW:Hid (Aw 19 (Aw 18 s)=Aj (Aw 18 s)):=by show _=_;rw[Aw,if_pos c19]
  have tk:((kT (Aw 18 s):Int) !=19)=false:=by rw[c19];rfl
  clear c19 hp hs;go_enter Tryz.func184,Tryz.ntmps184;go_wp2_with fail
  refine(J8 HS.o 18).mono ?_;rintro e w1 ⟨kk1,Is,nn1,S1,rfl,Fj,h1,Bt⟩;have Bo:=A0 Bt;have Av:Hid (A5 b w w1):=(A5.refl b w).trans Bo.o;have Df:=Av.o.size;have Jk:=A0 Fj;have H1:=A0 h1;clear h1 Bt Fj;go_wp2_with fail
  refine(De H1.o).mono ?_;rintro e w2 ⟨rfl,h2,A9⟩;have B4:=A0 (Below.only (b:=b) A9);have B7:Hid (A5 b w w2):=Av.o.trans B4.o;have F2:=B7.o.size;have H2:=A0 h2;clear h2 A9;go_wp2_with fail
  refine(J8 H2.o 19).mono ?_;rintro e w3 ⟨kk3,ln3,nn3,S3,rfl,htk3,h3,Cj⟩;have Bc:=A0 Cj;have Cd:Hid (A5 b w w3):=B7.o.trans Bc.o;have lw3:=Cd.o.size;have HTk3:=A0 htk3;rw[HW.o]at h3;have H3:=A0 h3;clear h3 Cj htk3;go_wp2;go_ret;rw[HR.o];exact⟨none,0,0,0,[],rfl,Om _ _ _ _,H3.o,Cd.o,fun _=>⟨rfl,rfl⟩⟩
 ·have hq:Gn n [] (Aw 18 s)=some p:=by
   unfold params at hp;rw[if_neg c19]at hp;exact hp
  obtain⟨n,rfl⟩:∃n',n=n'+1:=by
   cases n with
   | zero=>rw[Gn]at hq;cases hq
   | succ n=>exact⟨n,rfl⟩
  have HQ:=A0 hq;have tk:((kT (Aw 18 s):Int) !=19)=true:=by simp;omega
  clear c19 hp hs hq;go_enter Tryz.func184,Tryz.ntmps184;go_wp2_with fail
  refine(J8 HS.o 18).mono ?_;rintro e w1 ⟨kk1,Is,nn1,S1,rfl,Fj,h1,Bt⟩;have Bo:=A0 Bt;have Av:Hid (A5 b w w1):=(A5.refl b w).trans Bo.o;have Df:=Av.o.size;have Jk:=A0 Fj;have H1:=A0 h1;clear h1 Bt Fj;go_wp2_with fail
  refine(De H1.o).mono ?_;rintro e w2 ⟨rfl,h2,A9⟩;have B4:=A0 (Below.only (b:=b) A9);have B7:Hid (A5 b w w2):=Av.o.trans B4.o;have F2:=B7.o.size;have H2:=A0 h2;clear h2 A9;go_wp2_with fail
  refine(Tm H2.o).mono ?_;rintro e w3 ⟨ln3,S3,rfl,htk3,h3,Cj⟩;have Bc:=A0 Cj;have Cd:Hid (A5 b w w3):=B7.o.trans Bc.o;have lw3:=Cd.o.size;have HTk3:=A0 htk3;have H3:=A0 h3;clear h3 Cj htk3;go_wp2_with (at_builtin;refine Ju w3 #[.int .i64 ln3,.string ⟨S3.toArray⟩] 148 rfl (.tmp 9) (.tmp 12) 216 rfl 0 2 24 (.agg #[.int .i64 0,.string ⟨#[]⟩]) Tryz.underlying216 A1b rfl z4sa (.slice none 0 0) 0 [] rfl rfl (World.ownsRow_nil _ _ _ _) rfl (fun u hu=>by simp at hu;rcases hu with rfl|rfl <;> rfl) z4sa z4sa (Nat.zero_le _) ?_;intro g cap1 w4 hown4 hgrow hat hg)
  replace hgrow:w3.grownBy w4 (Value.slice none 0 0).ownBlock:=hgrow;have hat:(Value.slice none 0 0).ownBlock=some g\/g=w3.heap.size+1:=hat;have HGg:Hid (g=w3.heap.size+1):=by rcases hat with h|h;simp[Value.ownBlock]at h;exact h
  have HRel:Hid (Zx b tb cap te ts n p w n (.slice (some ⟨g,0,none⟩) 1 cap1) w4):=by
   refine⟨[],Aw 18 s,some ⟨g,0,none⟩,1,cap1,1,_,rfl,Nat.le_refl _,HQ.o,PR.grown H3.o hgrow z5ia z5ia,Cd.o.grown hgrow z5ia,by omega,⟨hown4,fun k hk=>?_⟩,fun hb=>⟨rfl,?_⟩⟩
   ·simp only[Value.ownBlock,Option.some.injEq]at hk;have:=HGg.o;show w.heap.size<=k;omega
   ·rw[(HTk3.o hb).1,(HTk3.o hb).2];rfl
  clear hgrow hat hown4 hg;go_wp2;go_loopg [3] n (fun k v wr=>Zx b tb cap te ts n p w k v wr)
  case atStart=>exact HRel.o
  case round=>
   clear HRel HQ H1 H2 H3 Av B7 Cd Bo B4 Bc Jk HTk3 HS HGg;obtain⟨acc,st,va,vn,vc,m,cs,rfl,hkn,hpk,hrs,hO,hcn,hown,hrep⟩:=hrel;have HRS:=A0 hrs;have HOr:=A0 hO;have HOwn:=A0 hown;have HRep:=A0 hrep;have lwr:=hO.size;have hne:(Value.slice va vn vc).ownBlock≠some b:=fun e=>by have h:w.heap.size<=b:=hown.2 b e;omega
   by_cases c24:kT (Aw 1 st)=24
   ·have hz:=Agw c24 hpk;cases gk with
    | zero=>rw[Gn]at hz;cases hz
    | succ q=>
    have HZ:=A0 hz;have tk:(kT (Aw 1 st)==24)=true:=by simpa using c24
    have HM:Hid (I5 24 (Aw 1 st)=Aj (Aw 1 st)):=by show _=_;unfold I5;rw[if_pos c24]
    have Ae:Hid ((Aw 1 st).bad=0):=hrs.Gv z4sa;clear hz c24 hpk hrs hO hown hrep;go_wp2_with fail
    refine(Mq HRS.o 24).mono ?_;rintro e w5 ⟨rfl,h5,En⟩;have Ep:=A0 En;have C6:Hid (A5 b wr w5):=(A5.refl b wr).trans Ep.o;have lw5:=C6.o.size;rw[tk];rw[HM.o]at h5;have H5:=A0 h5;clear h5 En;go_wp2_with fail
    refine(Tm H5.o).mono ?_;rintro e w6 ⟨ln6,S6,rfl,htk6,h6,Jn⟩;have HP6:=A0 Jn;have D9:Hid (A5 b wr w6):=C6.o.trans HP6.o;have lw6:=D9.o.size;have HTk6:=A0 htk6;have H6:=A0 h6;clear h6 Jn htk6;have hown6:w6.ownsRow 0 148 2 (.slice va vn vc) m cs:=B2 HOwn.o.1 (fun k hk hl=>D9.o.block k hl (fun e=>hne z5da));go_wp2_with (at_builtin;refine Ju w6 #[.int .i64 ln6,.string ⟨S6.toArray⟩] 148 rfl (.tmp 16) (.tmp 19) 216 rfl 0 2 24 (.agg #[.int .i64 0,.string ⟨#[]⟩]) Tryz.underlying216 A1b rfl z4sa _ _ _ rfl rfl hown6 rfl (fun u hu=>by simp at hu;rcases hu with rfl|rfl <;> rfl) z4sa z4sa (Nat.zero_le _) ?_;intro g7 cap7 w7 hown7 hgrow7 hat7 hg7)
    replace hgrow7:w6.grownBy w7 (Value.slice va vn vc).ownBlock:=hgrow7;replace hat7:(Value.slice va vn vc).ownBlock=some g7\/g7=w6.heap.size+1:=hat7;have hrow:∀k,(Value.slice va vn vc).ownBlock=some k->k≠b/\k≠tb/\w.heap.size<=k:=fun k e=>by have h:w.heap.size<=k:=HOwn.o.2 k e;omega
    go_roundg q
    case measure=>omega
    case rel=>
     refine⟨acc++[((An st).line,(An st).s)],Aj (Aw 1 st),some ⟨g7,0,none⟩,m+1,cap7,m+1,_,rfl,by omega,HZ.o,PR.grown H6.o hgrow7 (fun e=>(hrow b e).1 rfl) (fun e=>(hrow tb e).2.1 rfl),(HOr.o.trans D9.o).grown hgrow7 (fun k e=>.inr (hrow k e).2.2),by omega,⟨hown7,fun k hk=>?_⟩,fun hb=>?_⟩
     ·exact z2xa
     ·have h1:=HRep.o Ae.o;refine⟨by rw[h1.1];simp,?_⟩;rw[h1.2,(HTk6.o hb).1,(HTk6.o hb).2,Agr (acc++_)];rfl
   ·have HE:=A0 (Agu c24 hpk);have tk:(kT (Aw 1 st)==24)=false:=by simpa using c24
    have HM:Hid (I5 24 (Aw 1 st)=Aw 1 st):=by show _=_;unfold I5;rw[if_neg c24]
    clear c24 hpk hrs hO hown hrep;go_wp2_with fail
    refine(Mq HRS.o 24).mono ?_;rintro e w5 ⟨rfl,h5,En⟩;have Ep:=A0 En;have C6:Hid (A5 b wr w5):=(A5.refl b wr).trans Ep.o;have lw5:=C6.o.size;rw[tk];rw[HM.o]at h5;have H5:=A0 h5;clear h5 En;go_wp2_with fail
    refine(J8 H5.o 19).mono ?_;rintro e w6 ⟨kk6,ln6,nn6,S6,rfl,htk6,h6,Jn⟩;have HP6:=A0 Jn;have D9:Hid (A5 b wr w6):=C6.o.trans HP6.o;have lw6:=D9.o.size;have HTk6:=A0 htk6;have H6:=A0 h6;clear h6 Jn htk6;go_wp2;go_ret;rw[HE.o];refine⟨va,vn,vc,m,cs,rfl,⟨B2 HOwn.o.1 (fun k hk hl=>D9.o.block k hl (fun e=>hne z5da)),HOwn.o.2⟩,H6.o,HOr.o.trans D9.o,fun hb=>?_⟩;have h1:=HRep.o (Ll hb);exact⟨by rw[h1.1];simp,h1.2⟩
theorem Afu{n:Nat}{s:PS}{p:List (Nat×List UInt8)×PS}(hs:s.bad≠0->s.ts=[J0])(h:params n s=some p)(hb:p.2.bad=0):s.bad=0:=by
 by_cases h0:s.bad=0
 ·exact h0
 ·rw[A2a (hs h0) h0 n p h]at hb;exact absurd hb h0
theorem Ag8{b tb cap te:Nat}{ts:List Tk}{n:Nat}(ih:Iw b tb cap te ts n)(hn:n<=500000)(w:World)(s:PS)(r:BT A3×PS)(hk:kT s=4)(hs:PR b tb cap te ts w s)(hp:Ab (n+1) 11 0 .nil s=some r) :
  Calls Tryz.prog 131 #[.pointer (some ⟨b,0,none⟩)] w (Hr b tb cap te ts w r):=by
 obtain⟨p,bl,hpm,hbl,hr⟩:=U5 hp;have HS:=A0 hs;have lb:=hs.lt;have HR:=A0 hr;have HBp:=A0 hbl;have HPp:=A0 hpm;have HW:Hid (Aw 4 s=Aj s):=by show _=_;unfold Aw;rw[if_pos hk]
 have HPm:=A0 (fun(W:World) (h:PR b tb cap te ts W (Aw 1 (Aj s)))=>Agj hn W (Aw 1 (Aj s)) p h hpm);have HBl:=A0 (fun(W:World) (h:PR b tb cap te ts W p.2)=>ih.block W p.2 bl h hbl);clear hp hs hk hpm hbl hr;go_enter Tryz.func131,Tryz.ntmps131;go_wp2_with fail
 refine(J8 HS.o 4).mono ?_;rintro e w1 ⟨kk1,Is,nn1,S1,rfl,Fj,h1,Bt⟩;have Bo:=A0 Bt;have Av:Hid (A5 b w w1):=(A5.refl b w).trans Bo.o;have Df:=Av.o.size;have Jk:=A0 Fj;rw[HW.o]at h1;have H1:=A0 h1;clear h1 Bt Fj;go_wp2_with fail
 refine(Tm H1.o).mono ?_;rintro e w2 ⟨Gc,S2,rfl,Ey,h2,B1⟩;have B4:=A0 B1;have B7:Hid (A5 b w w2):=Av.o.trans B4.o;have F2:=B7.o.size;have Ee:=A0 Ey;have H2:=A0 h2;clear h2 B1 Ey;go_wp2_with fail
 refine(HPm.o _ H2.o).mono ?_;rintro e w3 ⟨va3,vn3,vc3,m3,cs3,rfl,J3,h3,Cj,Du⟩;have Bc:=A0 Cj;have Cd:Hid (A5 b w w3):=B7.o.trans Bc.o;have lw3:=Cd.o.size;have Eu:=A0 Du;have HOwn3:=A0 J3;have H3:=A0 h3;clear h3 Cj Du J3;go_wp2_with fail
 refine(HBl.o _ H3.o).mono ?_;rintro e w4 ⟨va4,vn4,vc4,cs4,rfl,hown4,h4,Ck,hr4⟩;have Cl:=A0 Ck;have C8:Hid (A5 b w w4):=Cd.o.trans Cl.o;have lw4:=C8.o.size;have Iz:=A0 hr4;have HOwn4:=A0 hown4;have H4:=A0 h4;clear h4 Ck hr4 hown4;go_wp2;go_ret;rw[HR.o];refine Hz (l:=⟨20,(An (Aj s)).line,(An (Aj s)).s,0,p.1⟩) (ch:=bl.1) (ks:=cs4) (cs:=#[.int .i64 Gc,.string ⟨S2.toArray⟩,.slice va3 vn3 vc3,.slice va4 vn4 vc4]) H4.o C8.o rfl z4wa rfl rfl (fun hb=>?_);have Ar:=Ph H3.o.Mi HBp.o hb;have A9:(Aw 1 (Aj s)).bad=0:=Ll (Afu (fun h=>?_) HPp.o Ar)
 ·have h3:=Eu.o Ar;refine⟨⟨.slice va3 vn3 vc3,.slice va4 vn4 vc4,?_,HOwn4.o.keep (fun k hk _=>⟨rfl,by have h:w3.heap.size<=k:=hk;omega⟩),?_⟩,Al.weak z4sa (Iz.o hb)⟩
  ·rw[(Ee.o A9).1,(Ee.o A9).2];rfl
  ·show Cr _ _ _ _ _ p.1.length (Kq p.1);rw[←h3.1,←h3.2];exact HOwn3.o.keep (fun k hk hl=>⟨Cl.o.block k hl (by have h:w2.heap.size<=k:=hk;omega),by have h:w2.heap.size<=k:=hk;omega⟩)
 ·exact An8 h H2.o.Mi
end
end Go.Proofs.YtjdlndhfaaolaaaGreatDoor
