import Derived.Test.YtjdlndhfaaolaaaGreatDoorY20
set_option maxHeartbeats 20000000
set_option linter.defProp false
namespace Go.Proofs.YtjdlndhfaaolaaaGreatDoor
section
open Go.RowKit
open Go.Deep (BT)
def Ql(s:Nm):Value:=.s s
def Sm(n:Nat):Value:=.n n
structure A3 (D : Nat -> Prop) (w w' : World) : Prop where
 os:w'.os=w.os
 tape:w'.tape=w.tape
 output:w'.output=w.output
 size:w.heap.size<=w'.heap.size
 block:∀k,D k->w'.heap[k]?=w.heap[k]?
def A3.refl(D:Nat->Prop)(w:World):A3 D w w:=⟨rfl,rfl,rfl,Af _,fun _ _=>rfl⟩
def A3.trans{D:Nat->Prop}{w w1 w2:World}(h:A3 D w w1)(h2:A3 D w1 w2):A3 D w w2:=⟨h2.os.trans h.os,h2.tape.trans h.tape,h2.output.trans h.output,Fu h.size h2.size,fun k hk=>(h2.block k hk).trans (h.block k hk)⟩
def A3.set{D:Nat->Prop}{x w:World}(h:A3 D x w){p:Addr}(hp:¬D p.block)(u:Value):A3 D x (w.setCell p u):=⟨h.os,h.tape,h.output,by simp[World.setCell];exact h.size,fun k hk=>(Bh _ _ _ _ (fun e=>hp z59a)).trans (h.block k hk)⟩
def A3.alloc{D:Nat->Prop}{x w:World}(h:A3 D x w)(hn:∀g,D g->g<x.heap.size)(o:Obj):A3 D x (w.alloc o):=⟨h.os,h.tape,h.output,by simp;have:=h.size;omega,fun k hk=>(Ck _ _ _ (Cb (hn k hk) h.size)).trans (h.block k hk)⟩
def A3.weak{D E:Nat->Prop}{w w':World}(h:A3 D w w')(he:∀g,E g->D g):A3 E w w':=⟨h.os,h.tape,h.output,h.size,fun k hk=>h.block k (he k hk)⟩
def Qc{w:World}{g:Nat}{a0 a1 a2 a3 a4 a5 a6 a7:Value}{t:TypeId}(h:w.heap[g]?=some (.cells #[a0,a1,a2,a3,a4,a5,a6,a7] t (0,0))) :
  w.cell? ⟨g,0,none⟩=some a0/\w.cell? ⟨g,1,none⟩=some a1/\w.cell? ⟨g,2,none⟩=some a2/\w.cell? ⟨g,3,none⟩=some a3/\w.cell? ⟨g,4,none⟩=some a4/\w.cell? ⟨g,5,none⟩=some a5/\w.cell? ⟨g,6,none⟩=some a6/\w.cell? ⟨g,7,none⟩=some a7/\(∀o,w.frozen? ⟨g,o,none⟩=false)/\g<w.heap.size:=
 ⟨A4 h 0 _ rfl,A4 h 1 _ rfl,A4 h 2 _ rfl,A4 h 3 _ rfl,A4 h 4 _ rfl,A4 h 5 _ rfl,A4 h 6 _ rfl,A4 h 7 _ rfl,By h,A6 h⟩
def Rq{w:World}{base:Nat}{e:TypeId}{va:Option Addr}{vn vc n:Nat}{xs:List Value}(h:w.ownsRow base e 1 (.slice va vn vc) n xs)(i:Nat)(hi:i<n) :
  ∃g,va=some ⟨g,0,none⟩/\vn=n/\n<=vc/\g<w.heap.size/\(∀o,w.frozen? ⟨g,o,none⟩=false)/\∃hh:i<xs.length,w.cell? ⟨g,i,none⟩=some (xs[i]'hh):=by
 obtain⟨hl,⟨h2,h3⟩|⟨g,cap,cur,hv,_,hg,hcap,_,_,ht⟩⟩:=h
 ·omega
 ·injection hv with e1 e2 e3;subst e1 e2 e3;refine⟨g,rfl,rfl,hcap,A6 hg,By hg,by omega,?_⟩;have hi':i<xs.length:=by omega
  have hx:xs[i]?=some xs[i]:=Eh hi';have h2:xs[i]?=cur[i]?:=by
   rw[show xs[i]?=(List.take (vn*1) cur.toList)[i]? by rw[ht],Te,Mn,S9]
  rw[K2 w g i cur _ _ hg,←h2];exact hx
def Y9:(Tryz.prog.info? 9).map (fun i=>(i.zero,i.size,i.bytes))=some (some (.string ⟨#[]⟩),1,16):=by kernel_rfl
def A1f:(Tryz.prog.info? 3).map (fun i=>(i.zero,i.size,i.bytes))=some (some (.i 0),1,8):=by kernel_rfl
def Aje:∀(fns:List (Nm×Nat)) (s:Nm) (i:Nat) (h:i<fns.length),fns[i].1=s->(∀j,j<i->∀h':j<fns.length,fns[j].1≠s)->M4 fns s=some fns[i].2:=by
 intro fns;induction fns with
 | nil=>intro s i h;simp at h
 | cons f r ih=>
  intro s i h e hno;cases i with
  | zero=>rw[M4,A7 (by simpa using e)];rfl
  | succ i=>
   have h0:f.1≠s:=by have:=hno 0 z4ma z4ra;simpa using this
   rw[M4,A1 h0,ih s i z5qa (by simpa using e) (fun j hj h'=>by have:=hno (j+1) z4ma (by simpa using h');simpa using this)];rfl
def Ajg:∀(fns:List (Nm×Nat)) (s:Nm),(∀j,∀h:j<fns.length,fns[j].1≠s)->M4 fns s=none:=by
 intro fns;induction fns with
 | nil=>intro s _;rfl
 | cons f r ih=>
  intro s hno;have h0:f.1≠s:=by have:=hno 0 z4ra;simpa using this
  rw[M4,A1 h0];exact ih s (fun j h=>by have:=hno (j+1) z5qa;simpa using this)
def P2(a:Option Addr)(n m c:Nat):(Value.slice a n c).ownBlock=(Value.slice a m c).ownBlock:=by cases a <;> rfl
end
section
open Go.RowKit
open Go.Deep (BT)
variable {w:World}{base:Nat}{e:TypeId}{size:Nat}{va:Option Addr}{vn vc n:Nat}{xs:List Value}
def G1(h:w.ownsRow base e size (.slice va vn vc) n xs)(hn:0<n) :
  ∃g,va=some ⟨g,0,none⟩/\vn=n/\n<=vc/\g<w.heap.size/\∀j u,xs[j]?=some u->w.cell? ⟨g,j,none⟩=some u:=by
 obtain⟨hl,⟨h2,h3⟩|⟨g,cap,cur,hv,_,hg,hcap,_,_,ht⟩⟩:=h
 ·omega
 ·injection hv with e1 e2 e3;subst e1 e2 e3;refine⟨g,rfl,rfl,hcap,A6 hg,fun j u hu=>?_⟩;rw[←ht,Te]at hu;split at hu
  ·rw[K2 w g j cur _ _ hg,←S9];exact hu
  ·cases hu
def Amz(h:w.ownsRow base e size (.slice va vn vc) n xs):n<=vc:=by
 obtain⟨hl,⟨h2,h3⟩|⟨g,cap,cur,hv,_,hg,hcap,_⟩⟩:=h
 ·injection h2 with e1 e2 e3;omega
 ·injection hv with e1 e2 e3;omega
def Qb:∀f:BT A5,Aj f<=bsize f:=by
 intro f;induction f with
 | nil=>exact Af _
 | node x y l c r _ ih=>rw[Aj,bsize];omega
def A8f(ps:List (Nat×Nm))(i:Nat)(h:i<ps.length)(cur:List Nm)(f:Da):Jl (ps.drop i) cur f=Jl (ps.drop (i+1)) (cur++[ps[i].2]) (F0 (decide (ps[i].2∈cur)) 3 ps[i].1 f):=by
 rw[Gk h,Jl]
def A8e(ps:List (Nat×Nm))(i:Nat)(h:ps.length<=i)(cur:List Nm)(f:Da):Jl (ps.drop i) cur f=(cur,f):=by
 rw[Pz h,Jl]
end
section
open Go.RowKit
open Go.Deep (BT)
def Cp:Nat->BT A5->BT A5
 | 0,f=>f
 | _+1,.nil=>.nil
 | n+1,.node _ _ _ _ r=>Cp n r
def Sq:∀n f,Aj (Cp n f)=Aj f-n:=by
 intro n;induction n with
 | zero=>intro f;rw[Cp];rfl
 | succ n ih=>
  intro f;cases f with
  | nil=>rw[Cp];simp[Aj]
  | node x y l c r=>rw[Cp,ih,Aj];omega
def Ra:∀n f x y l c r,Cp n f=.node x y l c r->Cp (n+1) f=r:=by
 intro n;induction n with
 | zero=>intro f x y l c r h;rw[Cp]at h;subst h;rfl
 | succ n ih=>
  intro f x y l c r h;cases f with
  | nil=>rw[Cp]at h;cases h
  | node x' y' l' c' r'=>rw[Cp]at h ⊢;exact ih r' x y l c r h
def A03:∀n f,bsize (Cp n f)<=bsize f:=by
 intro n;induction n with
 | zero=>intro f;exact Af _
 | succ n ih=>
  intro f;cases f with
  | nil=>exact Af _
  | node x y l c r=>rw[Cp,bsize];have:=ih r;omega
end
section
set_option maxRecDepth 100000
open Go.RowKit
open Go.Deep (BT)
def Avx{k:Nat}{s:PS}(h:(Be k s).bad≠0)(hs:s.bad≠0->s.ts=[Kx]):(Be k s).ts=[Kx]:=by
 unfold Be at h ⊢;split
 ·rename_i hk;rw[A7 hk,Us]at h;unfold At;rw[A7 (by unfold kT B6;rw[hs h];rfl)];exact hs h
 ·unfold Et;split
  ·rfl
  ·rename_i h0;exact hs h0
def Abb(b tb cap te:Nat)(ts:List Tk)(w:World)(p:List (Nat×List UInt8)×PS)(e:Ending)(w':World):Prop:=
 ∃va vn vc m cs,e=.returned (.slice va vn vc)/\Dj (fun g=>w.heap.size<=g) w' 148 2 (.slice va vn vc) m cs/\PR b tb cap te ts w' p.2/\A8 b w w'/\(p.2.bad=0->m=p.1.length/\cs=My p.1)
def A41(b tb cap te:Nat)(ts:List Tk)(n:Nat)(p:List (Nat×List UInt8)×PS)(w:World)(k:Nat)(v:Value)(wr:World):Prop:=
 ∃(acc:List (Nat×List UInt8)) (st:PS) (va:Option Addr) (vn vc m:Nat) (cs:List Value),v=.slice va vn vc/\k<=n/\Mj (k+1) acc st=some p/\PR b tb cap te ts wr (Be 1 st)/\A8 b w wr/\m+k<=n+1/\
  Dj (fun g=>w.heap.size<=g) wr 148 2 (.slice va vn vc) m cs/\((Be 1 st).bad=0->m=acc.length+1/\cs=My (acc++[((B6 st).line,(B6 st).s)]))
def Aoz(a b:List (Nat×List UInt8)):My (a++b)=My a++My b:=by simp[My]
def Aop{b tb cap te:Nat}{ts:List Tk}{n:Nat}(hn:n<=500000)(w:World)(s:PS)(p:List (Nat×List UInt8)×PS)(hs:PR b tb cap te ts w s)(hp:params n (Be 18 s)=some p) :
  Calls Tryz.prog 184 #[.p b] w (Abb b tb cap te ts w p):=by
 have HS:=A0 hs;obtain⟨lb,lt,lne⟩:=hs.lt;by_cases c19:kT (Be 18 s)=19
 ·have HR:Hid (p=([],At (Be 18 s))):=by
   unfold params at hp;rw[A7 c19]at hp;exact(Dl hp).symm
  have HW:Hid (Be 19 (Be 18 s)=At (Be 18 s)):=by show _=_;rw[Be,A7 c19]
  have tk:((kT (Be 18 s):Int) !=19)=false:=by rw[c19];rfl
  go_in;go_wp2_with fail
  refine(Kc HS.o 18).mono ?_;rintro e w1 ⟨kk1,Jy,nn1,S1,rfl,L5,h1,Cy⟩;have Cn:=A0 Cy;have Bd:Hid (A8 b w w1):=(A8.refl b w).trans Cn.o;have Ef:=Bd.o.size;have HTk1:=A0 L5;have H1:=A0 h1;go_wp2_with fail
  refine(E9 H1.o).mono ?_;rintro e w2 ⟨rfl,h2,Ad⟩;have Bk:=A0 (Below.only (b:=b) Ad);have Bo:Hid (A8 b w w2):=Bd.o.trans Bk.o;have G0:=Bo.o.size;have H2:=A0 h2;go_wp2_with fail
  refine(Kc H2.o 19).mono ?_;rintro e w3 ⟨kk3,ln3,nn3,S3,rfl,htk3,h3,E8⟩;have C2:=A0 E8;have D1:Hid (A8 b w w3):=Bo.o.trans C2.o;have lw3:=D1.o.size;have HTk3:=A0 htk3;rw[HW.o]at h3;have H3:=A0 h3;go_wp2;go_ret;rw[HR.o];exact⟨none,0,0,0,[],rfl,Rr _ _ _ _,H3.o,D1.o,fun _=>⟨rfl,rfl⟩⟩
 ·have hq:Mj n [] (Be 18 s)=some p:=by
   unfold params at hp;rw[A1 c19]at hp;exact hp
  obtain⟨n,rfl⟩:∃n',n=n'+1:=by
   cases n with
   | zero=>rw[Mj]at hq;cases hq
   | succ n=>exact⟨n,rfl⟩
  have HQ:=A0 hq;have tk:((kT (Be 18 s):Int) !=19)=true:=by simp;omega
  go_in;go_wp2_with fail
  refine(Kc HS.o 18).mono ?_;rintro e w1 ⟨kk1,Jy,nn1,S1,rfl,L5,h1,Cy⟩;have Cn:=A0 Cy;have Bd:Hid (A8 b w w1):=(A8.refl b w).trans Cn.o;have Ef:=Bd.o.size;have HTk1:=A0 L5;have H1:=A0 h1;go_wp2_with fail
  refine(E9 H1.o).mono ?_;rintro e w2 ⟨rfl,h2,Ad⟩;have Bk:=A0 (Below.only (b:=b) Ad);have Bo:Hid (A8 b w w2):=Bd.o.trans Bk.o;have G0:=Bo.o.size;have H2:=A0 h2;go_wp2_with fail
  refine(Y8 H2.o).mono ?_;rintro e w3 ⟨ln3,S3,rfl,htk3,h3,E8⟩;have C2:=A0 E8;have D1:Hid (A8 b w w3):=Bo.o.trans C2.o;have lw3:=D1.o.size;have HTk3:=A0 htk3;have H3:=A0 h3;go_wp2_with (at_builtin;refine Lh w3 #[.i ln3,.s S3] 148 rfl (.tmp 9) (.tmp 12) 216 rfl 0 2 24 (.agg #[.i 0,.string ⟨#[]⟩]) Tryz.underlying216 A6q rfl z4ma (.slice none 0 0) 0 [] rfl rfl (M9 _ _ _ _) rfl (fun u hu=>by simp at hu;rcases hu with rfl|rfl <;> rfl) z4ma z4ma (De _) ?_;intro g cap1 w4 hown4 hgrow hat hg)
  replace hgrow:w3.grownBy w4 (Value.slice none 0 0).ownBlock:=hgrow;have hat:(Value.slice none 0 0).ownBlock=some g\/g=w3.heap.size+1:=hat;have HGg:Hid (g=w3.heap.size+1):=by rcases hat with h|h;simp[Value.ownBlock]at h;exact h
  have HRel:Hid (A41 b tb cap te ts n p w n (.slice (some ⟨g,0,none⟩) 1 cap1) w4):=by
   refine⟨[],Be 18 s,some ⟨g,0,none⟩,1,cap1,1,_,rfl,Af _,HQ.o,PR.grown H3.o hgrow z5ea z5ea,D1.o.grown hgrow z5ea,by omega,⟨hown4,fun k hk=>?_⟩,fun hb=>⟨rfl,?_⟩⟩
   ·simp only[Value.ownBlock,Cg]at hk;have:=HGg.o;show w.heap.size<=k;omega
   ·rw[(HTk3.o hb).1,(HTk3.o hb).2];rfl
  go_wp2;go_loopg [3] n (fun k v wr=>A41 b tb cap te ts n p w k v wr)
  case atStart=>exact HRel.o
  case round=>
   obtain⟨acc,st,va,vn,vc,m,cs,rfl,hkn,hpk,hrs,hO,hcn,hown,hrep⟩:=hrel;have HRS:=A0 hrs;have HOr:=A0 hO;have HOwn:=A0 hown;have HRep:=A0 hrep;have lwr:=hO.size;have hne:(Value.slice va vn vc).ownBlock≠some b:=fun e=>by have h:w.heap.size<=b:=hown.2 b e;omega
   by_cases c24:kT (Be 1 st)=24
   ·have hz:=Ap3 c24 hpk;cases gk with
    | zero=>rw[Mj]at hz;cases hz
    | succ q=>
    have HZ:=A0 hz;have tk:(kT (Be 1 st)==24)=true:=by simpa using c24
    have HM:Hid (Jb 24 (Be 1 st)=At (Be 1 st)):=by show _=_;unfold Jb;rw[A7 c24]
    have Ag:Hid ((Be 1 st).bad=0):=hrs.Ij z4ma;go_wp2_with fail
    refine(Pb HRS.o 24).mono ?_;rintro e w5 ⟨rfl,h5,Fc⟩;have Kf:=A0 Fc;have Cq:Hid (A8 b wr w5):=(A8.refl b wr).trans Kf.o;have lw5:=Cq.o.size;rw[tk];rw[HM.o]at h5;have H5:=A0 h5;go_wp2_with fail
    refine(Y8 H5.o).mono ?_;rintro e w6 ⟨ln6,S6,rfl,htk6,h6,ho6⟩;have HP6:=A0 ho6;have Dz:Hid (A8 b wr w6):=Cq.o.trans HP6.o;have lw6:=Dz.o.size;have HTk6:=A0 htk6;have H6:=A0 h6;have hown6:w6.ownsRow 0 148 2 (.slice va vn vc) m cs:=Bc HOwn.o.1 (fun k hk hl=>Dz.o.block k hl (fun e=>hne z59a));go_wp2_with (at_builtin;refine Lh w6 #[.i ln6,.s S6] 148 rfl (.tmp 16) (.tmp 19) 216 rfl 0 2 24 (.agg #[.i 0,.string ⟨#[]⟩]) Tryz.underlying216 A6q rfl z4ma _ _ _ rfl rfl hown6 rfl (fun u hu=>by simp at hu;rcases hu with rfl|rfl <;> rfl) z4ma z4ma (De _) ?_;intro g7 cap7 w7 hown7 hgrow7 hat7 hg7)
    replace hgrow7:w6.grownBy w7 (Value.slice va vn vc).ownBlock:=hgrow7;replace hat7:(Value.slice va vn vc).ownBlock=some g7\/g7=w6.heap.size+1:=hat7;have hrow:∀k,(Value.slice va vn vc).ownBlock=some k->k≠b/\k≠tb/\w.heap.size<=k:=fun k e=>by have h:w.heap.size<=k:=HOwn.o.2 k e;omega
    go_roundg q
    case measure=>omega
    case rel=>
     refine⟨acc++[((B6 st).line,(B6 st).s)],At (Be 1 st),some ⟨g7,0,none⟩,m+1,cap7,m+1,_,rfl,by omega,HZ.o,PR.grown H6.o hgrow7 (fun e=>(hrow b e).1 rfl) (fun e=>(hrow tb e).2.1 rfl),(HOr.o.trans Dz.o).grown hgrow7 (fun k e=>.inr (hrow k e).2.2),by omega,⟨hown7,fun k hk=>?_⟩,fun hb=>?_⟩
     ·exact z2wa
     ·have h1:=HRep.o Ag.o;refine⟨by rw[h1.1];simp,?_⟩;rw[h1.2,(HTk6.o hb).1,(HTk6.o hb).2,Aoz (acc++_)];rfl
   ·have HE:=A0 (Ap2 c24 hpk);have tk:(kT (Be 1 st)==24)=false:=by simpa using c24
    have HM:Hid (Jb 24 (Be 1 st)=Be 1 st):=by show _=_;unfold Jb;rw[A1 c24]
    go_wp2_with fail
    refine(Pb HRS.o 24).mono ?_;rintro e w5 ⟨rfl,h5,Fc⟩;have Kf:=A0 Fc;have Cq:Hid (A8 b wr w5):=(A8.refl b wr).trans Kf.o;have lw5:=Cq.o.size;rw[tk];rw[HM.o]at h5;have H5:=A0 h5;go_wp2_with fail
    refine(Kc H5.o 19).mono ?_;rintro e w6 ⟨kk6,ln6,nn6,S6,rfl,htk6,h6,ho6⟩;have HP6:=A0 ho6;have Dz:Hid (A8 b wr w6):=Cq.o.trans HP6.o;have lw6:=Dz.o.size;have HTk6:=A0 htk6;have H6:=A0 h6;go_wp2;go_ret;rw[HE.o];refine⟨va,vn,vc,m,cs,rfl,⟨Bc HOwn.o.1 (fun k hk hl=>Dz.o.block k hl (fun e=>hne z59a)),HOwn.o.2⟩,H6.o,HOr.o.trans Dz.o,fun hb=>?_⟩;have h1:=HRep.o (Nz hb);exact⟨by rw[h1.1];simp,h1.2⟩
def An9{n:Nat}{s:PS}{p:List (Nat×List UInt8)×PS}(hs:s.bad≠0->s.ts=[Kx])(h:params n s=some p)(hb:p.2.bad=0):s.bad=0:=by
 by_cases h0:s.bad=0
 ·exact h0
 ·rw[A81 (hs h0) h0 n p h]at hb;exact absurd hb h0
def Aof{b tb cap te:Nat}{ts:List Tk}{n:Nat}(ih:K5 b tb cap te ts n)(hn:n<=500000)(w:World)(s:PS)(r:BT A5×PS)(hk:kT s=4)(hs:PR b tb cap te ts w s)(hp:Ak (n+1) 11 0 .nil s=some r) :
  Calls Tryz.prog 131 #[.p b] w (J4 b tb cap te ts w r):=by
 obtain⟨p,bl,hpm,hbl,hr⟩:=Anh hp;have lb:=hs.lt;have HW:Be 4 s=At s:=by show _=_;unfold Be;rw[A7 hk]
 have HPm:=fun(W:World) (h:PR b tb cap te ts W (Be 1 (At s)))=>Aop hn W (Be 1 (At s)) p h hpm;have HBl:=fun(W:World) (h:PR b tb cap te ts W p.2)=>ih.block W p.2 bl h hbl;go_in;go_wp2_with fail
 refine(Kc hs 4).mono ?_;rintro e w1 ⟨kk1,Jy,nn1,S1,rfl,L5,h1,Cy⟩;have Bd:A8 b w w1:=(A8.refl b w).trans Cy;have Ef:=Bd.size;rw[HW]at h1;go_wp2_with fail
 refine(Y8 h1).mono ?_;rintro e w2 ⟨Hv,S2,rfl,Iu,h2,C4⟩;have Bo:A8 b w w2:=Bd.trans C4;have G0:=Bo.size;go_wp2_with fail
 refine(HPm _ h2).mono ?_;rintro e w3 ⟨va3,vn3,vc3,m3,cs3,rfl,hown3,h3,E8,Gg⟩;have D1:A8 b w w3:=Bo.trans E8;have lw3:=D1.size;have H3:=A0 h3;go_wp2_with fail
 refine(HBl _ H3.o).mono ?_;rintro e w4 ⟨va4,vn4,vc4,cs4,rfl,hown4,h4,Cx,hr4⟩;have Ce:A8 b w w4:=D1.trans Cx;have lw4:=Ce.size;go_wp2;go_ret;rw[hr];refine J7 (l:=⟨20,(B6 (At s)).line,(B6 (At s)).s,0,p.1⟩) (ch:=bl.1) (ks:=cs4) (cs:=#[.i Hv,.s S2,.slice va3 vn3 vc3,.slice va4 vn4 vc4]) h4 Ce rfl z4ra rfl rfl (fun hb=>?_);have Ay:=T5 H3.o.P4 hbl hb;have Ad:(Be 1 (At s)).bad=0:=Nz (An9 (fun h=>?_) hpm Ay)
 ·have h3:=Gg Ay;refine⟨⟨.slice va3 vn3 vc3,.slice va4 vn4 vc4,?_,hown4.keep (fun k hk _=>⟨rfl,by have h:w3.heap.size<=k:=hk;omega⟩),?_⟩,Ar.weak z4ma (hr4 hb)⟩
  ·rw[(Iu Ad).1,(Iu Ad).2];rfl
  ·show Dj _ _ _ _ _ p.1.length (My p.1);rw[←h3.1,←h3.2];exact hown3.keep (fun k hk hl=>⟨Cx.block k hl (by have h:w2.heap.size<=k:=hk;omega),by have h:w2.heap.size<=k:=hk;omega⟩)
 ·exact Avx h h2.P4
def Ab9(b tb cap te:Nat)(ts:List Tk)(n:Nat)(r:BT A5×PS)(w:World)(k:Nat)(wr:World):Prop:=
 ∃(acc:BT A5) (st:PS) (va:Option Addr) (vn vc:Nat) (cs:List Value),k<=n/\Ak k 10 0 acc st=some r/\PR b tb cap te ts wr st/\A8 b w wr/\cs.length+k<=n+1/\
  wr.heap[w.heap.size]?=some (.cells #[.slice va vn vc] 140 (0,0))/\
  Dj (fun g=>w.heap.size<g) wr 142 1 (.slice va vn vc) cs.length cs/\(st.bad=0->Ar (fun g=>w.heap.size<g/\(Value.slice va vn vc).ownBlock≠some g) wr acc cs)
def Ab8(b tb cap te:Nat)(ts:List Tk)(w:World)(r:BT A5×PS)(e:Ending)(w':World):Prop:=
 ∃va vn vc cs,e=.returned (.p w.heap.size)/\w'.heap[w.heap.size]?=some (.cells #[.slice va vn vc] 140 (0,0))/\
  Dj (fun g=>w.heap.size<g) w' 142 1 (.slice va vn vc) cs.length cs/\PR b tb cap te ts w' r.2/\A8 b w w'/\(r.2.bad=0->Ar (fun g=>w.heap.size<g) w' r.1 cs)
def Ty{w:World}{g:Nat}{a0:Value}{t:TypeId}(h:w.heap[g]?=some (.cells #[a0] t (0,0))):w.cell? ⟨g,0,none⟩=some a0/\(∀o,w.frozen? ⟨g,o,none⟩=false)/\g<w.heap.size:=⟨A4 h 0 _ rfl,By h,A6 h⟩
def A4h{b n g X:Nat}{wr w4 w5:World}{T:TypeId}{v val:Value}{m:Nat}{cs cs0:List Value}{acc x:BT A5}(hb:b<=n)(hn:n<wr.heap.size)(hr:Ar (fun g=>n<g/\v.ownBlock≠some g) wr acc cs)(ho:A8 b wr w4)(hx:Ar (fun g=>wr.heap.size<=g) w4 x [val])(hown:wr.ownsRow 0 T 1 v m cs0)
  (hgrow:w4.grownBy w5 v.ownBlock) (hX:X<=n) (hat:v.ownBlock=some g\/g=w4.heap.size+1) (u:Value):Ar (fun k=>n<k/\(some g:Option Nat)≠some k) (w5.setCell ⟨X,0,none⟩ u) (Dw acc x) (cs++[val]):=by
 have hlt:=Bs hown;have hs:=ho.size;have hset:∀k,n<k->(w5.setCell ⟨X,0,none⟩ u).heap[k]?=w5.heap[k]?:=fun k hk=>Bh _ _ _ _ (by show k≠X;omega);refine Ar.app _ _ _ _ (Ar.keep ?_ _ _ hr) (Ar.keep ?_ _ _ hx)
 ·intro k ⟨h1,h2⟩ hk;refine⟨(hset k h1).trans ((hgrow.block k z4ma (fun e=>h2 e.symm)).trans (ho.block k hk z4ma)),h1,fun e=>?_⟩;have e:=Dl e;subst e;rcases hat with h|h
  ·exact h2 h
  ·omega
 ·intro k h1 hk;refine⟨(hset k z4ma).trans (hgrow.block k hk (fun e=>?_)),by omega,fun e=>?_⟩
  ·have:=hlt k e.symm;omega
  ·have e:=Dl e;subst e;rcases hat with h|h
   ·have:=hlt g h;omega
   ·omega
def z0ga {P:Prop} (h:P:=by
  have lw5:=Fc.size;replace lw5:w2.heap.size<=w5.heap.size:=lw5;have hb25:A8 b wr w5:=(Below.only Ab.o).drew.trans Fc;have hne6:∀k,k≠w.heap.size->(w6.setCell ⟨w.heap.size,0,none⟩ (.slice (some ⟨g6,0,none⟩) (cs.length+1) cap6)).heap[k]?=w6.heap[k]?:=fun k hk=>Bh _ _ _ _ z5ja;have hg6':w.heap.size<g6:=by
   rcases hat6 with h|h
   ·exact(hrow g6 h).2.2
   ·omega
  refine⟨Dw acc z.1,z.2,some ⟨g6,0,none⟩,cs.length+1,cap6,cs++[.iface ty5 x5],by omega,HZ2.o,PR.other (PR.grown h5 hgrow6 (fun e=>(hrow b e).1 rfl) (fun e=>(hrow tb e).2.1 rfl)) (by show b≠w.heap.size;omega) (by show tb≠w.heap.size;omega) _,A8.set (p:=⟨w.heap.size,0,none⟩) ((hO.trans hb25).grown hgrow6 (fun k e=>.inr (by have:=(hrow k e).2.2;omega))) (.inr (Af _)) _,by simp;omega,?_,⟨Bc (by simpa using hown6) (fun k hk _=>hne6 k ?_),fun k hk=>?_⟩,fun hb=>?_⟩
  ·have:=heap_set (j:=0) HPb6.o (.slice (some ⟨g6,0,none⟩) (cs.length+1) cap6);simpa using this
  ·simp only[Value.ownBlock,Cg]at hk;omega
  ·simp only[Value.ownBlock,Cg]at hk;rw[←hk];exact hg6'
  ·exact A4h z4ma lpb (hrep Ag.o) hb25 (Ar.weak (by show wr.heap.size<=w2.heap.size;omega) (hr5 hb)) hown.1 hgrow6 (Af _) hat6 _):P:=h
def Aoq{b tb cap te:Nat}{ts:List Tk}{n:Nat}(hn:n<=500000)(w:World)(s:PS)(r:BT A5×PS)(hs:PR b tb cap te ts w s)(hp:Ak n 10 0 .nil s=some r) :
  Calls Tryz.prog 78 #[.p b] w (Ab8 b tb cap te ts w r):=by
 obtain⟨lb,lt,lne⟩:=hs.lt;go_in;go_wp2;go_loopg [] n (fun k wr=>Ab9 b tb cap te ts n r w k wr)
 case atStart=>exact⟨.nil,s,none,0,0,[],Af _,hp,PR.alloc hs _,(A8.refl _ _).alloc _,by simp,Bp _ _,Rr _ _ _ _,fun _=>rfl⟩
 case round=>
  obtain⟨acc,st,va,vn,vc,cs,hkn,hpk,hrs,hO,hcn,hpb,hown,hrep⟩:=hrel;cases gk with
  | zero=>exact absurd hpk (M6 _ _ _ _ _)
  | succ m=>
  have lwr:=hO.size;have hrow:∀k,(Value.slice va vn vc).ownBlock=some k->k≠b/\k≠tb/\w.heap.size<k:=fun k e=>by have h:w.heap.size<k:=hown.2 k e;omega
  have lpb:=A6 hpb;by_cases c0:kT st=0
  ·have HE:=A0 (Anw c0 hpk);have tk:((kT st:Int) !=0)=false:=by rw[c0];rfl
   go_wp2_with fail
   refine(E9 hrs).mono ?_;rintro e w1 ⟨rfl,h1,A2⟩;have H1:=A0 h1;have Cn:=A0 A2;go_wp2;go_ret;rw[HE.o];exact⟨va,vn,vc,cs,rfl,Gn Cn.o hpb,hown.keep (fun k hk hl=>⟨Cn.o.block k hl,hk⟩),H1.o,hO.trans (Below.only Cn.o),fun hb=>Ar.keep (fun k hk hl=>⟨Cn.o.block k hl,hk.1⟩) _ _ (hrep hb)⟩
  ·have Ag:Hid (st.bad=0):=hrs.Ij c0;have tk:((kT st:Int) !=0)=true:=by simpa using c0
   by_cases c4:kT st=4
   ·obtain⟨z,Cu,Dg⟩:=Anx c4 hpk;have hm0:m≠0:=by intro e;subst e;exact absurd Cu (M6 _ _ _ _ _)
    obtain⟨q,rfl⟩:∃q,m=q+1:=⟨m-1,by omega⟩;have HZ2:=A0 Dg;have HX:=A0 (fun(W:World) (h:PR b tb cap te ts W st)=>Aof (A55 q q (Af _) z4ma) z4ma W st z c4 h Cu);have tk4:((kT st:Int)==4)=true:=ke (c:=4) rfl c4;go_wp2_with fail
    refine(E9 hrs).mono ?_;rintro e w1 ⟨rfl,h1,A2⟩;have H1:=A0 h1;have Cn:=A0 A2;go_wp2_with fail
    refine(E9 H1.o).mono ?_;rintro e w2 ⟨rfl,h2,Ad⟩;have H2:=A0 h2;have Ab:Hid (Bw wr w2):=Cn.o.trans (Ad.mono Cn.o.size);have hpb2:=Gn Ab.o hpb;obtain⟨y0,fy,ly⟩:=Ty hpb2;have HPb2:=A0 hpb2;have G0:=Ab.o.size;have HXd:=A0 (HX.o _ H2.o.drew);go_wp2;go_region_law (first
     | (refine Pt _ w5.heap.size #[.iface ty5 x5] 142 (Bp w5 (.cells #[.iface ty5 x5] 142)) rfl (.tmp 16) (.tmp 19) 138 rfl 0 1 16 .nilIface Tryz.underlying138 A1h rfl z4ma (.slice va vn vc) cs.length cs rfl rfl (hown5.alloc _) rfl (fun u hu=>by simp at hu;rw[hu];rfl) z4ma z4ma (De _) ?_;intro g6 cap6 w6 hown6 hgrow6' hat6' hg6;have hgrow6:w5.grownBy w6 (Value.slice va vn vc).ownBlock:=Oh (Oo w5 (.cells #[.iface ty5 x5] 142) none) hgrow6';have hat6:(Value.slice va vn vc).ownBlock=some g6\/g6=w5.heap.size+1:=(hat6'.imp id (fun e=>e.trans z4ra));have hpb6:=(hgrow6.block w.heap.size (A6 HPb5.o) (fun e=>by have:=hrow _ e.symm;omega)).trans HPb5.o;have HPb6:=A0 hpb6;obtain⟨q0,fq,lq⟩:=Ty hpb6;clear hpb6 hgrow6' hat6')
     | (refine F9 rfl 131 _ _ rfl #[.p b] (by kernel_rfl) HXd.o ?_;rintro e w5 ⟨ty5,x5,rfl,h5,Fc,hr5⟩;refine⟨_,rfl,?_⟩;have hpb5:=Fc.blk (show w2.drew.heap[w.heap.size]?=_ from HPb2.o) z4ma;have HPb5:=A0 hpb5;obtain⟨z0,fz,lz⟩:=Ty hpb5;have hown5:w5.ownsRow 0 142 1 (.slice va vn vc) cs.length cs:=Bc hown.1 (fun k hk hl=>((Fc.block k (Cb hl Ab.o.size) (hrow k hk).1).trans (Ab.o.block k hl)));clear hpb5))
    all_goals
     go_wp2;go_roundg (q+1)
     case measure=>omega
     case rel=>
      exact z0ga
   ·obtain⟨z,Cu,Dg⟩:=Anz c0 c4 hpk;have HZ2:=A0 Dg;have HX:=A0 (fun(W:World) (h:PR b tb cap te ts W st)=>(A55 m m (Af _) z4ma).stmt W st z h Cu);have tk4:((kT st:Int)==4)=false:=kn (c:=4) rfl c4;go_wp2_with fail
    refine(E9 hrs).mono ?_;rintro e w1 ⟨rfl,h1,A2⟩;have H1:=A0 h1;have Cn:=A0 A2;go_wp2_with fail
    refine(E9 H1.o).mono ?_;rintro e w2 ⟨rfl,h2,Ad⟩;have H2:=A0 h2;have Ab:Hid (Bw wr w2):=Cn.o.trans (Ad.mono Cn.o.size);have hpb2:=Gn Ab.o hpb;obtain⟨y0,fy,ly⟩:=Ty hpb2;have HPb2:=A0 hpb2;have G0:=Ab.o.size;have HXd:=A0 (HX.o _ H2.o.drew);go_wp2;go_region_law (first
     | (refine Pt _ w5.heap.size #[.iface ty5 x5] 142 (Bp w5 (.cells #[.iface ty5 x5] 142)) rfl (.tmp 27) (.tmp 30) 138 rfl 0 1 16 .nilIface Tryz.underlying138 A1h rfl z4ma (.slice va vn vc) cs.length cs rfl rfl (hown5.alloc _) rfl (fun u hu=>by simp at hu;rw[hu];rfl) z4ma z4ma (De _) ?_;intro g6 cap6 w6 hown6 hgrow6' hat6' hg6;have hgrow6:w5.grownBy w6 (Value.slice va vn vc).ownBlock:=Oh (Oo w5 (.cells #[.iface ty5 x5] 142) none) hgrow6';have hat6:(Value.slice va vn vc).ownBlock=some g6\/g6=w5.heap.size+1:=(hat6'.imp id (fun e=>e.trans z4ra));have hpb6:=(hgrow6.block w.heap.size (A6 HPb5.o) (fun e=>by have:=hrow _ e.symm;omega)).trans HPb5.o;have HPb6:=A0 hpb6;obtain⟨q0,fq,lq⟩:=Ty hpb6;clear hpb6 hgrow6' hat6')
     | (refine F9 rfl 132 _ _ rfl #[.p b] (by kernel_rfl) HXd.o ?_;rintro e w5 ⟨ty5,x5,rfl,h5,Fc,hr5⟩;refine⟨_,rfl,?_⟩;have hpb5:=Fc.blk (show w2.drew.heap[w.heap.size]?=_ from HPb2.o) z4ma;have HPb5:=A0 hpb5;obtain⟨z0,fz,lz⟩:=Ty hpb5;have hown5:w5.ownsRow 0 142 1 (.slice va vn vc) cs.length cs:=Bc hown.1 (fun k hk hl=>((Fc.block k (Cb hl Ab.o.size) (hrow k hk).1).trans (Ab.o.block k hl)));clear hpb5))
    all_goals
     go_wp2;go_roundg m
     case measure=>omega
     case rel=>
      exact z0ga
structure Ns (tb cap : Nat) (ts : List Tk) (w : World) : Prop where
 toks:Zo ts
 tok:∃cur,w.heap[tb]?=some (.cells cur 198 (0,0))/\cur.toList.take (ts.length*4)=Nh ts
 cap:ts.length<=cap
def Ns.cell{tb cap:Nat}{ts:List Tk}{w:World}(h:Ns tb cap ts w)(i j:Nat)(hi:i<ts.length)(hj:j<4):w.cell? ⟨tb,i*4+j,none⟩=(Pg ts[i])[j]?:=by
 exact z3la
def Ns.lt{tb cap:Nat}{ts:List Tk}{w:World}(h:Ns tb cap ts w):tb<w.heap.size:=by
 obtain⟨cur,h1,_⟩:=h.tok;exact A6 h1
def Ns.keep{tb cap:Nat}{ts:List Tk}{w w':World}(h:Ns tb cap ts w)(hk:w'.heap[tb]?=w.heap[tb]?):Ns tb cap ts w':=by
 obtain⟨cur,h1,h2⟩:=h.tok;exact⟨h.toks,⟨cur,hk.trans h1,h2⟩,h.cap⟩
def Wc(n:Nat):Nat:=if n=0 then 0 else 1
def A40(tb cap:Nat)(ts:List Tk)(w:World)(k:Nat)(o v:Value)(wr:World):Prop:=
 ∃(oi:Int) (n:Nat),o=.i oi/\v=.i n/\n+k=ts.length/\nest ts 0=nest (ts.drop n) oi/\-(n:Int)<=oi/\oi<=30/\Ns tb cap ts wr/\Bw w wr/\wr.heap[w.heap.size]?=some (.cells #[.i 0,.i 0] 50 (0,0))
def z4sa {P:Prop} (h:P:=by simp[World.setCell];omega):P:=h
def z2sa {P:Prop} (h:P:=by
  have hsz:=HSz.o;repeat (first|exact hb|refine Ah ?_ z4sa _|refine B0 ?_ z4ra _|refine B8 ?_)):P:=h
def z1xa {P:Prop} (h:P:=by
  go_wp2;go_roundg (gk-1)
  case measure=>omega
  case rel=>exact HRel _ _ rfl HE.o z4ma z4ma _):P:=h
def A7t{tb cap:Nat}{ts:List Tk}(w:World)(h:Ns tb cap ts w) :
  Calls Tryz.prog 79 #[.slice (some ⟨tb,0,none⟩) ts.length cap] w fun e w'=>e=.returned (.agg #[.n (Wc (nest ts 0)),.n (nest ts 0)])/\Bw w w':=by
 have hfew:=h.toks.C1;have ltb:=h.lt;go_in;go_wp2;go_loopg [3,8] ts.length (fun k o v wr=>A40 tb cap ts w k o v wr)
 case atStart=>
  exact⟨0,0,rfl,rfl,by omega,rfl,by omega,by omega,h.keep (Ck _ _ _ ltb),(Al _ _).alloc (Af _) _,Bp _ _⟩
 case round=>
  obtain⟨oi,n,rfl,rfl,hnk,hnest,Cy,C4,ht,hb,hz⟩:=hrel;have hcap:=ht.cap;obtain⟨z0,z1,fz,lz⟩:=K9 hz;have HSz:=A0 hb.size;by_cases hlt:n<ts.length
  ·have HS:=A0 (Aml ts n hlt oi);have d0:=ht.cell n 0 hlt z4ma;have d1:=ht.cell n 1 hlt z4ma;have d2:=ht.cell n 2 hlt z4ma;have d3:=ht.cell n 3 hlt z4ma;have hlo:=ht.lt;have hline:=ht.toks.line ts[n] (Ho hlt);rw[Pg]at d0 d1 d2 d3;simp only[Ma,X7,Ti]at d0 d1 d2 d3;have HRel:∀(o:Int) (q:Nat),q=n+1->nest ts 0=nest (ts.drop q) o->-(q:Int)<=o->o<=30->∀O:Obj,A40 tb cap ts w (gk-1) (.i o) (.i q) (wr.alloc O):=by
    intro o q hq h1 h2 h3 O;exact⟨o,q,rfl,rfl,by omega,h1,h2,h3,ht.keep (Ck _ _ _ hlo),hb.alloc HSz.o _,alloc_old hz⟩
   generalize ts[n]=x at *;by_cases hop:x.k=18\/x.k=22\/x.k=20
   ·have HOp:Hid (opens x.k=true):=by
     show _=_;unfold opens;rcases hop with e|e|e <;> rw[e] <;> rfl
    by_cases h30:oi=30
    ·subst h30;have HE:Hid (nest ts 0=x.line):=by
      show _=_;rw[hnest,HS.o,HOp.o,A7 rfl,Mn]
     rcases hop with e|e|e;all_goals
      rw[e]at d0;go_wp2;refine B9 (v:=.agg #[.i 1,.n x.line]) (by simp[results,Tryz.results79,go_sem,z0,z1,lz]) rfl ?_;refine⟨?_,?_⟩
      ·rw[HE.o,Wc,Ai];rfl
      ·exact z2sa
    ·have h30':(oi==30)=false:=by rw[Am];exact h30
     have HE:Hid (nest ts 0=nest (ts.drop (n+1)) (oi+1)):=by
      show _=_;rw[hnest,HS.o,HOp.o,A7 rfl,Ai]
     rcases hop with e|e|e;all_goals
      rw[e]at d0;exact z1xa
   ·have HOp:Hid (opens x.k=false):=by
     show _=_;unfold opens;simp only[Zb,Am];omega
    have t18:((x.k:Int)==18)=false:=kn (c:=18) rfl z4ma;have t22:((x.k:Int)==22)=false:=kn (c:=22) rfl z4ma;have t20:((x.k:Int)==20)=false:=kn (c:=20) rfl z4ma;by_cases hcl:x.k=19\/x.k=23\/x.k=21
    ·have HE:Hid (nest ts 0=nest (ts.drop (n+1)) (oi-1)):=by
      show _=_;have hc:So x.k=true:=by
       unfold So;rcases hcl with e|e|e <;> rw[e] <;> rfl
      rw[hnest,HS.o,HOp.o,hc];rfl
     rcases hcl with e|e|e;all_goals
      rw[e]at d0 t18 t20 t22;exact z1xa
    ·have HE:Hid (nest ts 0=nest (ts.drop (n+1)) oi):=by
      show _=_;have hc:So x.k=false:=by
       unfold So;simp only[Zb,Am];omega
      rw[hnest,HS.o,HOp.o,hc];rfl
     have t19:((x.k:Int)==19)=false:=kn (c:=19) rfl z4ma;have t23:((x.k:Int)==23)=false:=kn (c:=23) rfl z4ma;have t21:((x.k:Int)==21)=false:=kn (c:=21) rfl z4ma;exact z1xa
  ·have HE:Hid (nest ts 0=0):=by
    show _=_;rw[hnest,Amk ts n z4ma oi]
   go_wp2;refine B9 (v:=.agg #[.i 0,.i 0]) (by simp[results,Tryz.results79,go_sem,z0,z1]) rfl ?_;refine⟨?_,?_⟩
   ·rw[HE.o];rfl
   ·exact z2sa
def Aor{tb cap:Nat}{ts:List Tk}{w:World}(h:Ns tb cap ts w)(h1:0<ts.length)(te:Nat) :
  PR w.heap.size tb cap te ts (w.alloc (.cells #[.slice (some ⟨tb,0,none⟩) ts.length cap,.i 0,.i 0,.i 0] te)) ⟨ts,0⟩:=by
 obtain⟨cur,k1,k2⟩:=h.tok;have:=A6 k1;exact⟨0,h.toks,Bp w _,⟨cur,alloc_old k1,k2⟩,by omega,h1,h.cap,fun _=>rfl,fun e=>absurd rfl e⟩
def Ab6(w:World)(ts:List Tk)(r:BT A5×PS)(e:Ending)(w':World):Prop:=
 Bw w w'/\((r.2.bad≠0/\e=.returned (.tuple #[.pointer none,.agg #[.i 2,.n r.2.bad]]))\/(r.2.bad=0/\nest ts 0≠0/\e=.returned (.tuple #[.pointer none,.agg #[.i 1,.n (nest ts 0)]]))\/
  (r.2.bad=0/\nest ts 0=0/\∃pb va vn vc cs,e=.returned (.tuple #[.p pb,.agg #[.i 0,.i 0]])/\w.heap.size<=pb/\w'.heap[pb]?=some (.cells #[.slice va vn vc] 140 (0,0))/\
   Dj (fun g=>w.heap.size<=g) w' 142 1 (.slice va vn vc) cs.length cs/\Ar (fun g=>w.heap.size<=g) w' r.1 cs))
def z30a {P:Prop} (h:P:=by
  repeat (first|exact Ab.o|refine Ah ?_ z4sa _|refine B0 ?_ z4ra _|refine B8 ?_)):P:=h
def z5ta {P:Prop} (h:P:=by show k≠w.heap.size;omega):P:=h
def An5{tb cap:Nat}{ts:List Tk}{n:Nat}(hn:n<=500000)(w:World)(r:BT A5×PS)(h:Ns tb cap ts w)(h1:0<ts.length)(hp:Ak n 10 0 .nil ⟨ts,0⟩=some r) :
  Calls Tryz.prog 50 #[.slice (some ⟨tb,0,none⟩) ts.length cap] w (Ab6 w ts r):=by
 have ltb:=h.lt;have HC:Ns tb cap ts (w.alloc (.cells #[.i 0,.i 0] 50)):=h.keep (Ck _ _ _ ltb);have HS:=Aor HC h1 203;have HX:=fun(W:World) (hs:PR (w.alloc (.cells #[.i 0,.i 0] 50)).heap.size tb cap 203 ts W ⟨ts,0⟩)=>Aoq hn W ⟨ts,0⟩ r hs hp;have hsz:(w.alloc (.cells #[.i 0,.i 0] 50)).heap.size=w.heap.size+1:=by simp
 go_in;go_wp2_with fail
 rw[show(w.heap.size+1:Nat)=(w.alloc (.cells #[.i 0,.i 0] 50)).heap.size from hsz.symm];refine(HX _ HS).mono ?_;rintro e w1 ⟨va,vn,vc,cs,rfl,hpb,hown,hrs,hO,hrep⟩;have hR:=hO.blk (alloc_old (Bp w (.cells #[.i 0,.i 0] 50))) z4ra;have HTk:=HC.keep (w':=w1) ((hO.block tb z4qa z4qa).trans (Ck _ _ _ z4qa));have HBel:Bw w w1:=⟨hO.os,hO.tape,hO.output,by have:=hO.size;simp at this;omega,fun k hk=>(hO.block k z4qa z4qa).trans ((Ck _ _ _ z4qa).trans (Ck _ _ _ hk))⟩;obtain⟨x0,x1,fx,lx⟩:=K9 hR;obtain⟨pl,hrt⟩:=hrs;have y2:=A4 hrt.rd 2 _ rfl;have y3:=A4 hrt.rd 3 _ rfl;have ly:=A6 hrt.rd;rw[hsz]at y2 y3 ly;have HPb:=A0 hpb;have HOwn:=A0 hown;have HRep:=A0 hrep;have lpb:=A6 hpb;have lbad:=PR.Ael ⟨pl,hrt⟩;by_cases hb:r.2.bad=0
 ·rw[hb]at y2 y3;have HB:=A0 hb;have t0:((R6 0:Nat):Int)=0:=rfl;by_cases hd:nest ts 0=0
  ·clear hb;go_wp2_with fail
   refine(A7t _ HTk).mono ?_;rintro e w2 ⟨rfl,Ad⟩;have G7:=Gn Ad hR;have Ab:Hid (Bw w w2):=HBel.trans (Ad.mono HBel.size);have G0:=Ad.size;have HBn:=A0 Ad;obtain⟨x0,x1,fx,lx⟩:=K9 G7;rw[hd];have HD:=A0 hd;have tn:((Wc 0:Nat):Int)=0:=rfl;go_wp2;refine B9 (v:=.tuple #[.p (w.heap.size+1+1),.agg #[.i 0,.i 0]]) (by simp[results,Tryz.results50,go_sem,x0,x1,lx]) rfl ?_;have hold:∀k,w.heap.size<k->k<w1.heap.size->(((w2.setCell ⟨w.heap.size,0,none⟩ (.i 0)).setCell ⟨w.heap.size,1,none⟩ (.i 0)).alloc (.cells #[.i 0,.i 0] 50)).heap[k]?=w1.heap[k]?:=by
    intro k h1 h2;rw[Ck _ _ _ z4sa,Bh _ _ _ _ z5ta,Bh _ _ _ _ z5ta];exact HBn.o.block k h2
   have Bj:((w.alloc (.cells #[.i 0,.i 0] 50)).alloc (.cells #[.slice (some ⟨tb,0,none⟩) ts.length cap,.i 0,.i 0,.i 0] 203)).heap.size=w.heap.size+1+1:=by simp
   have hpb:=HPb.o;have hown:=HOwn.o;have hrep:=HRep.o HB.o;rw[Bj]at hpb hown hrep lpb;have hk:∀g,w.heap.size+1+1<g->g<w1.heap.size->(((w2.setCell ⟨w.heap.size,0,none⟩ (.i 0)).setCell ⟨w.heap.size,1,none⟩ (.i 0)).alloc (.cells #[.i 0,.i 0] 50)).heap[g]?=w1.heap[g]?/\w.heap.size<=g:=fun g hg hl=>⟨hold g z4ma hl,by omega⟩;refine⟨?_,.inr (.inr ⟨HB.o,HD.o,w.heap.size+1+1,va,vn,vc,cs,rfl,by omega,(hold _ z4ma lpb).trans hpb,hown.keep hk,Ar.keep hk _ _ hrep⟩)⟩;exact z30a
  ·clear hb;go_wp2_with fail
   refine(A7t _ HTk).mono ?_;rintro e w2 ⟨rfl,Ad⟩;have G7:=Gn Ad hR;have Ab:Hid (Bw w w2):=HBel.trans (Ad.mono HBel.size);have G0:=Ad.size;have HBn:=A0 Ad;obtain⟨x0,x1,fx,lx⟩:=K9 G7;have Cc:Wc (nest ts 0)=1:=by unfold Wc;rw[A1 hd]
   rw[Cc];have HD:=A0 hd;go_wp2;go_region
   all_goals go_wp2
   all_goals refine B9 (v:=.tuple #[.pointer none,.agg #[.i 1,.n (nest ts 0)]]) (by simp[results,Tryz.results50,go_sem,x0,x1,lx]) rfl ?_
   all_goals refine⟨?_,.inr (.inl ⟨HB.o,HD.o,rfl⟩)⟩
   all_goals repeat (first|exact Ab.o|refine Ah ?_ z4sa _|refine B0 ?_ z4ra _|refine B8 ?_)
 ·have hbc:R6 r.2.bad=2:=by unfold R6;rw[A1 hb]
  rw[hbc]at y2;have HB:=A0 hb;go_wp2;go_region
  all_goals go_wp2
  all_goals refine B9 (v:=.tuple #[.pointer none,.agg #[.i 2,.n r.2.bad]]) (by simp[results,Tryz.results50,go_sem,x0,x1]) rfl ?_
  all_goals refine⟨?_,.inl ⟨HB.o,rfl⟩⟩
  all_goals repeat (first|exact HBel|refine Ah ?_ z4sa _|refine B0 ?_ z4ra _|refine B8 ?_)
