import Derived.Test.YtjdlndhfaaolaaaGreatDoorT17
import Derived.Test.YtjdlndhfaaolaaaGreatDoorT18
set_option maxHeartbeats 20000000
namespace Go.Proofs.YtjdlndhfaaolaaaGreatDoor
section
open Go.RowKit
open Go.Deep (BT)
variable {w:World}{base:Nat}{e:TypeId}{size:Nat}{va:Option Addr}{vn vc n:Nat}{xs:List Value}
theorem G2(h:w.ownsRow base e size (.slice va vn vc) n xs)(hn:0<n) :
  ∃g,va=some ⟨g,0,none⟩/\vn=n/\n<=vc/\g<w.heap.size/\∀j u,xs[j]?=some u->w.cell? ⟨g,j,none⟩=some u:=by
 obtain⟨hl,⟨h2,h3⟩|⟨g,cap,cur,hv,_,hg,hcap,_,_,ht⟩⟩:=h
 ·omega
 ·injection hv with e1 e2 e3;subst e1 e2 e3;refine⟨g,rfl,rfl,hcap,A5 hg,fun j u hu=>?_⟩;rw[<-ht,List.getElem?_take]at hu;split at hu
  ·rw[cell_of_row w g j cur _ _ hg,<-Array.getElem?_toList];exact hu
  ·cases hu
theorem Agj(h:w.ownsRow base e size (.slice va vn vc) n xs):n<=vc:=by
 obtain⟨hl,⟨h2,h3⟩|⟨g,cap,cur,hv,_,hg,hcap,_⟩⟩:=h
 ·injection h2 with e1 e2 e3;omega
 ·injection hv with e1 e2 e3;omega
theorem Nk:∀f:BT A6,Az f<=bsize f:=by
 intro f;induction f with
 | nil=>exact Nat.le_refl _
 | node x y l c r _ ih=>rw[Az,bsize];omega
theorem A30(ps:List (Nat×Nm))(i:Nat)(h:i<ps.length)(cur:List Nm)(f:Cw):J4 (ps.drop i) cur f=J4 (ps.drop (i+1)) (cur++[ps[i].2]) (Ed (decide (ps[i].2∈cur)) 3 ps[i].1 f):=by
 rw[List.drop_eq_getElem_cons h,J4]
theorem A2z(ps:List (Nat×Nm))(i:Nat)(h:ps.length<=i)(cur:List Nm)(f:Cw):J4 (ps.drop i) cur f=(cur,f):=by
 rw[List.drop_eq_nil_of_le h,J4]
end
section
open Go.RowKit
open Go.Deep (BT)
def Cd:Nat->BT A6->BT A6
 | 0,f=>f
 | _+1,.nil=>.nil
 | n+1,.node _ _ _ _ r=>Cd n r
theorem P7:∀n f,Az (Cd n f)=Az f-n:=by
 intro n;induction n with
 | zero=>intro f;rw[Cd];rfl
 | succ n ih=>
  intro f;cases f with
  | nil=>rw[Cd];simp[Az]
  | node x y l c r=>rw[Cd,ih,Az];omega
theorem Oc:∀n f x y l c r,Cd n f=.node x y l c r->Cd (n+1) f=r:=by
 intro n;induction n with
 | zero=>intro f x y l c r h;rw[Cd]at h;subst h;rfl
 | succ n ih=>
  intro f x y l c r h;cases f with
  | nil=>rw[Cd]at h;cases h
  | node x' y' l' c' r'=>rw[Cd]at h ⊢;exact ih r' x y l c r h
theorem W8:∀n f,bsize (Cd n f)<=bsize f:=by
 intro n;induction n with
 | zero=>intro f;exact Nat.le_refl _
 | succ n ih=>
  intro f;cases f with
  | nil=>exact Nat.le_refl _
  | node x y l c r=>rw[Cd,bsize];have:=ih r;omega
end
section
set_option maxRecDepth 100000
open Go.RowKit
open Go.Deep (BT)
theorem Api{k:Nat}{s:PS}(h:(Bi k s).bad≠0)(hs:s.bad≠0->s.ts=[Ig]):(Bi k s).ts=[Ig]:=by
 unfold Bi at h ⊢;split
 ·rename_i hk;rw[if_pos hk,Qz]at h;unfold At;rw[if_pos (by unfold kT B9;rw[hs h];rfl)];exact hs h
 ·unfold Eh;split
  ·rfl
  ·rename_i h0;exact hs h0
def A5h(b tb cap te:Nat)(ts:List Tk)(w:World)(p:List (Nat×List UInt8)×PS)(e:Ending)(w':World):Prop:=
 ∃va vn vc m cs,e=.returned (.slice va vn vc)/\Cz (fun g=>w.heap.size<=g) w' 148 2 (.slice va vn vc) m cs/\PR b tb cap te ts w' p.2/\A9 b w w'/\(p.2.bad=0->m=p.1.length/\cs=Ki p.1)
def Yw(b tb cap te:Nat)(ts:List Tk)(n:Nat)(p:List (Nat×List UInt8)×PS)(w:World)(k:Nat)(v:Value)(wr:World):Prop:=
 ∃(acc:List (Nat×List UInt8)) (st:PS) (va:Option Addr) (vn vc m:Nat) (cs:List Value),v=.slice va vn vc/\k<=n/\Kz (k+1) acc st=some p/\PR b tb cap te ts wr (Bi 1 st)/\A9 b w wr/\m+k<=n+1/\
  Cz (fun g=>w.heap.size<=g) wr 148 2 (.slice va vn vc) m cs/\((Bi 1 st).bad=0->m=acc.length+1/\cs=Ki (acc++[((B9 st).line,(B9 st).s)]))
theorem Ahr(a b:List (Nat×List UInt8)):Ki (a++b)=Ki a++Ki b:=by simp[Ki]
theorem Ahj{b tb cap te:Nat}{ts:List Tk}{n:Nat}(hn:n<=500000)(w:World)(s:PS)(p:List (Nat×List UInt8)×PS)(hs:PR b tb cap te ts w s)(hp:params n (Bi 18 s)=some p) :
  Calls Tryz.prog 184 #[.pointer (some ⟨b,0,none⟩)] w (A5h b tb cap te ts w p):=by
 have HS:=A0 hs;obtain⟨lb,lt,lne⟩:=hs.lt;by_cases c19:kT (Bi 18 s)=19
 ·have HR:Hid (p=([],At (Bi 18 s))):=by
   unfold params at hp;rw[if_pos c19]at hp;exact(Option.some.inj hp).symm
  have HW:Hid (Bi 19 (Bi 18 s)=At (Bi 18 s)):=by show _=_;rw[Bi,if_pos c19]
  have tk:((kT (Bi 18 s):Int) !=19)=false:=by rw[c19];rfl
  clear c19 hp hs;go_enter Tryz.func184,Tryz.ntmps184;go_wp2_with fail
  refine(Ix HS.o 18).mono ?_;rintro e w1 ⟨kk1,Il,nn1,S1,rfl,Fv,h1,C3⟩;have Bz:=A0 C3;have B6:Hid (A9 b w w1):=(A9.refl b w).trans Bz.o;have Du:=B6.o.size;have J8:=A0 Fv;have H1:=A0 h1;clear h1 C3 Fv;go_wp2_with fail
  refine(Dt H1.o).mono ?_;rintro e w2 ⟨rfl,h2,A8⟩;have B4:=A0 (Below.only (b:=b) A8);have Bm:Hid (A9 b w w2):=B6.o.trans B4.o;have Fe:=Bm.o.size;have H2:=A0 h2;clear h2 A8;go_wp2_with fail
  refine(Ix H2.o 19).mono ?_;rintro e w3 ⟨kk3,ln3,nn3,S3,rfl,htk3,h3,Cv⟩;have Bn:=A0 Cv;have Cp:Hid (A9 b w w3):=Bm.o.trans Bn.o;have lw3:=Cp.o.size;have HTk3:=A0 htk3;rw[HW.o]at h3;have H3:=A0 h3;clear h3 Cv htk3;go_wp2;go_ret;rw[HR.o];exact⟨none,0,0,0,[],rfl,Oq _ _ _ _,H3.o,Cp.o,fun _=>⟨rfl,rfl⟩⟩
 ·have hq:Kz n [] (Bi 18 s)=some p:=by
   unfold params at hp;rw[if_neg c19]at hp;exact hp
  obtain⟨n,rfl⟩:∃n',n=n'+1:=by
   cases n with
   | zero=>rw[Kz]at hq;cases hq
   | succ n=>exact⟨n,rfl⟩
  have HQ:=A0 hq;have tk:((kT (Bi 18 s):Int) !=19)=true:=by simp;omega
  clear c19 hp hs hq;go_enter Tryz.func184,Tryz.ntmps184;go_wp2_with fail
  refine(Ix HS.o 18).mono ?_;rintro e w1 ⟨kk1,Il,nn1,S1,rfl,Fv,h1,C3⟩;have Bz:=A0 C3;have B6:Hid (A9 b w w1):=(A9.refl b w).trans Bz.o;have Du:=B6.o.size;have J8:=A0 Fv;have H1:=A0 h1;clear h1 C3 Fv;go_wp2_with fail
  refine(Dt H1.o).mono ?_;rintro e w2 ⟨rfl,h2,A8⟩;have B4:=A0 (Below.only (b:=b) A8);have Bm:Hid (A9 b w w2):=B6.o.trans B4.o;have Fe:=Bm.o.size;have H2:=A0 h2;clear h2 A8;go_wp2_with fail
  refine(Ty H2.o).mono ?_;rintro e w3 ⟨ln3,S3,rfl,htk3,h3,Cv⟩;have Bn:=A0 Cv;have Cp:Hid (A9 b w w3):=Bm.o.trans Bn.o;have lw3:=Cp.o.size;have HTk3:=A0 htk3;have H3:=A0 h3;clear h3 Cv htk3;go_wp2_with (at_builtin;refine Kb w3 #[.int .i64 ln3,.string ⟨S3.toArray⟩] 148 rfl (.tmp 9) (.tmp 12) 216 rfl 0 2 24 (.agg #[.int .i64 0,.string ⟨#[]⟩]) Tryz.underlying216 A0z rfl z51a (.slice none 0 0) 0 [] rfl rfl (World.ownsRow_nil _ _ _ _) rfl (fun u hu=>by simp at hu;rcases hu with rfl|rfl <;> rfl) z51a z51a (Nat.zero_le _) ?_;intro g cap1 w4 hown4 hgrow hat hg)
  replace hgrow:w3.grownBy w4 (Value.slice none 0 0).ownBlock:=hgrow;have hat:(Value.slice none 0 0).ownBlock=some g\/g=w3.heap.size+1:=hat;have HGg:Hid (g=w3.heap.size+1):=by rcases hat with h|h;simp[Value.ownBlock]at h;exact h
  have HRel:Hid (Yw b tb cap te ts n p w n (.slice (some ⟨g,0,none⟩) 1 cap1) w4):=by
   refine⟨[],Bi 18 s,some ⟨g,0,none⟩,1,cap1,1,_,rfl,Nat.le_refl _,HQ.o,PR.grown H3.o hgrow z5va z5va,Cp.o.grown hgrow z5va,by omega,⟨hown4,fun k hk=>?_⟩,fun hb=>⟨rfl,?_⟩⟩
   ·simp only[Value.ownBlock,Option.some.injEq]at hk;have:=HGg.o;show w.heap.size<=k;omega
   ·rw[(HTk3.o hb).1,(HTk3.o hb).2];rfl
  clear hgrow hat hown4 hg;go_wp2;go_loopg [3] n (fun k v wr=>Yw b tb cap te ts n p w k v wr)
  case atStart=>exact HRel.o
  case round=>
   clear HRel HQ H1 H2 H3 B6 Bm Cp Bz B4 Bn J8 HTk3 HS HGg;obtain⟨acc,st,va,vn,vc,m,cs,rfl,hkn,hpk,hrs,hO,hcn,hown,hrep⟩:=hrel;have HRS:=A0 hrs;have HOr:=A0 hO;have HOwn:=A0 hown;have HRep:=A0 hrep;have lwr:=hO.size;have hne:(Value.slice va vn vc).ownBlock≠some b:=fun e=>by have h:w.heap.size<=b:=hown.2 b e;omega
   by_cases c24:kT (Bi 1 st)=24
   ·have hz:=Ahu c24 hpk;cases gk with
    | zero=>rw[Kz]at hz;cases hz
    | succ q=>
    have HZ:=A0 hz;have tk:(kT (Bi 1 st)==24)=true:=by simpa using c24
    have HM:Hid (Hw 24 (Bi 1 st)=At (Bi 1 st)):=by show _=_;unfold Hw;rw[if_pos c24]
    have Ah:Hid ((Bi 1 st).bad=0):=hrs.Gx z51a;clear hz c24 hpk hrs hO hown hrep;go_wp2_with fail
    refine(Mp HRS.o 24).mono ?_;rintro e w5 ⟨rfl,h5,Ea⟩;have Ew:=A0 Ea;have Ce:Hid (A9 b wr w5):=(A9.refl b wr).trans Ew.o;have lw5:=Ce.o.size;rw[tk];rw[HM.o]at h5;have H5:=A0 h5;clear h5 Ea;go_wp2_with fail
    refine(Ty H5.o).mono ?_;rintro e w6 ⟨ln6,S6,rfl,htk6,h6,Jc⟩;have HP6:=A0 Jc;have Dp:Hid (A9 b wr w6):=Ce.o.trans HP6.o;have lw6:=Dp.o.size;have HTk6:=A0 htk6;have H6:=A0 h6;clear h6 Jc htk6;have hown6:w6.ownsRow 0 148 2 (.slice va vn vc) m cs:=B8 HOwn.o.1 (fun k hk hl=>Dp.o.block k hl (fun e=>hne z5ra));go_wp2_with (at_builtin;refine Kb w6 #[.int .i64 ln6,.string ⟨S6.toArray⟩] 148 rfl (.tmp 16) (.tmp 19) 216 rfl 0 2 24 (.agg #[.int .i64 0,.string ⟨#[]⟩]) Tryz.underlying216 A0z rfl z51a _ _ _ rfl rfl hown6 rfl (fun u hu=>by simp at hu;rcases hu with rfl|rfl <;> rfl) z51a z51a (Nat.zero_le _) ?_;intro g7 cap7 w7 hown7 hgrow7 hat7 hg7)
    replace hgrow7:w6.grownBy w7 (Value.slice va vn vc).ownBlock:=hgrow7;replace hat7:(Value.slice va vn vc).ownBlock=some g7\/g7=w6.heap.size+1:=hat7;have hrow:∀k,(Value.slice va vn vc).ownBlock=some k->k≠b/\k≠tb/\w.heap.size<=k:=fun k e=>by have h:w.heap.size<=k:=HOwn.o.2 k e;omega
    go_roundg q
    case measure=>omega
    case rel=>
     refine⟨acc++[((B9 st).line,(B9 st).s)],At (Bi 1 st),some ⟨g7,0,none⟩,m+1,cap7,m+1,_,rfl,by omega,HZ.o,PR.grown H6.o hgrow7 (fun e=>(hrow b e).1 rfl) (fun e=>(hrow tb e).2.1 rfl),(HOr.o.trans Dp.o).grown hgrow7 (fun k e=>.inr (hrow k e).2.2),by omega,⟨hown7,fun k hk=>?_⟩,fun hb=>?_⟩
     ·exact z3da
     ·have h1:=HRep.o Ah.o;refine⟨by rw[h1.1];simp,?_⟩;rw[h1.2,(HTk6.o hb).1,(HTk6.o hb).2,Ahr (acc++_)];rfl
   ·have HE:=A0 (Aht c24 hpk);have tk:(kT (Bi 1 st)==24)=false:=by simpa using c24
    have HM:Hid (Hw 24 (Bi 1 st)=Bi 1 st):=by show _=_;unfold Hw;rw[if_neg c24]
    clear c24 hpk hrs hO hown hrep;go_wp2_with fail
    refine(Mp HRS.o 24).mono ?_;rintro e w5 ⟨rfl,h5,Ea⟩;have Ew:=A0 Ea;have Ce:Hid (A9 b wr w5):=(A9.refl b wr).trans Ew.o;have lw5:=Ce.o.size;rw[tk];rw[HM.o]at h5;have H5:=A0 h5;clear h5 Ea;go_wp2_with fail
    refine(Ix H5.o 19).mono ?_;rintro e w6 ⟨kk6,ln6,nn6,S6,rfl,htk6,h6,Jc⟩;have HP6:=A0 Jc;have Dp:Hid (A9 b wr w6):=Ce.o.trans HP6.o;have lw6:=Dp.o.size;have HTk6:=A0 htk6;have H6:=A0 h6;clear h6 Jc htk6;go_wp2;go_ret;rw[HE.o];refine⟨va,vn,vc,m,cs,rfl,⟨B8 HOwn.o.1 (fun k hk hl=>Dp.o.block k hl (fun e=>hne z5ra)),HOwn.o.2⟩,H6.o,HOr.o.trans Dp.o,fun hb=>?_⟩;have h1:=HRep.o (Lm hb);exact⟨by rw[h1.1];simp,h1.2⟩
theorem Agy{n:Nat}{s:PS}{p:List (Nat×List UInt8)×PS}(hs:s.bad≠0->s.ts=[Ig])(h:params n s=some p)(hb:p.2.bad=0):s.bad=0:=by
 by_cases h0:s.bad=0
 ·exact h0
 ·rw[A21 (hs h0) h0 n p h]at hb;exact absurd hb h0
theorem Aha{b tb cap te:Nat}{ts:List Tk}{n:Nat}(ih:Iq b tb cap te ts n)(hn:n<=500000)(w:World)(s:PS)(r:BT A6×PS)(hk:kT s=4)(hs:PR b tb cap te ts w s)(hp:Ai (n+1) 11 0 .nil s=some r) :
  Calls Tryz.prog 131 #[.pointer (some ⟨b,0,none⟩)] w (Ho b tb cap te ts w r):=by
 obtain⟨p,bl,hpm,hbl,hr⟩:=A27 hp;have HS:=A0 hs;have lb:=hs.lt;have HR:=A0 hr;have HBp:=A0 hbl;have HPp:=A0 hpm;have HW:Hid (Bi 4 s=At s):=by show _=_;unfold Bi;rw[if_pos hk]
 have HPm:=A0 (fun(W:World) (h:PR b tb cap te ts W (Bi 1 (At s)))=>Ahj hn W (Bi 1 (At s)) p h hpm);have HBl:=A0 (fun(W:World) (h:PR b tb cap te ts W p.2)=>ih.block W p.2 bl h hbl);clear hp hs hk hpm hbl hr;go_enter Tryz.func131,Tryz.ntmps131;go_wp2_with fail
 refine(Ix HS.o 4).mono ?_;rintro e w1 ⟨kk1,Il,nn1,S1,rfl,Fv,h1,C3⟩;have Bz:=A0 C3;have B6:Hid (A9 b w w1):=(A9.refl b w).trans Bz.o;have Du:=B6.o.size;have J8:=A0 Fv;rw[HW.o]at h1;have H1:=A0 h1;clear h1 C3 Fv;go_wp2_with fail
 refine(Ty H1.o).mono ?_;rintro e w2 ⟨Gd,S2,rfl,F6,h2,Be⟩;have B4:=A0 Be;have Bm:Hid (A9 b w w2):=B6.o.trans B4.o;have Fe:=Bm.o.size;have Eg:=A0 F6;have H2:=A0 h2;clear h2 Be F6;go_wp2_with fail
 refine(HPm.o _ H2.o).mono ?_;rintro e w3 ⟨va3,vn3,vc3,m3,cs3,rfl,hown3,h3,Cv,Cj⟩;have Bn:=A0 Cv;have Cp:Hid (A9 b w w3):=Bm.o.trans Bn.o;have lw3:=Cp.o.size;have C8:=A0 Cj;have HOwn3:=A0 hown3;have H3:=A0 h3;clear h3 Cv Cj hown3;go_wp2_with fail
 refine(HBl.o _ H3.o).mono ?_;rintro e w4 ⟨va4,vn4,vc4,cs4,rfl,hown4,h4,Cq,G0⟩;have Ct:=A0 Cq;have C7:Hid (A9 b w w4):=Cp.o.trans Ct.o;have lw4:=C7.o.size;have Cx:=A0 G0;have HOwn4:=A0 hown4;have H4:=A0 h4;clear h4 Cq G0 hown4;go_wp2;go_ret;rw[HR.o];refine Hr (l:=⟨20,(B9 (At s)).line,(B9 (At s)).s,0,p.1⟩) (ch:=bl.1) (ks:=cs4) (cs:=#[.int .i64 Gd,.string ⟨S2.toArray⟩,.slice va3 vn3 vc3,.slice va4 vn4 vc4]) H4.o C7.o rfl z56a rfl rfl (fun hb=>?_);have Ak:=Ph H3.o.Mf HBp.o hb;have A8:(Bi 1 (At s)).bad=0:=Lm (Agy (fun h=>?_) HPp.o Ak)
 ·have h3:=C8.o Ak;refine⟨⟨.slice va3 vn3 vc3,.slice va4 vn4 vc4,?_,HOwn4.o.keep (fun k hk _=>⟨rfl,by have h:w3.heap.size<=k:=hk;omega⟩),?_⟩,Ao.weak z51a (Cx.o hb)⟩
  ·rw[(Eg.o A8).1,(Eg.o A8).2];rfl
  ·show Cz _ _ _ _ _ p.1.length (Ki p.1);rw[<-h3.1,<-h3.2];exact HOwn3.o.keep (fun k hk hl=>⟨Ct.o.block k hl (by have h:w2.heap.size<=k:=hk;omega),by have h:w2.heap.size<=k:=hk;omega⟩)
 ·exact Api h H2.o.Mf
def A5g(b tb cap te:Nat)(ts:List Tk)(n:Nat)(r:BT A6×PS)(w:World)(k:Nat)(wr:World):Prop:=
 ∃(acc:BT A6) (st:PS) (va:Option Addr) (vn vc:Nat) (cs:List Value),k<=n/\Ai k 10 0 acc st=some r/\PR b tb cap te ts wr st/\A9 b w wr/\cs.length+k<=n+1/\
  wr.heap[w.heap.size]?=some (.cells #[.slice va vn vc] 140 (0,0))/\
  Cz (fun g=>w.heap.size<g) wr 142 1 (.slice va vn vc) cs.length cs/\(st.bad=0->Ao (fun g=>w.heap.size<g/\(Value.slice va vn vc).ownBlock≠some g) wr acc cs)
def A5f(b tb cap te:Nat)(ts:List Tk)(w:World)(r:BT A6×PS)(e:Ending)(w':World):Prop:=
 ∃va vn vc cs,e=.returned (.pointer (some ⟨w.heap.size,0,none⟩))/\w'.heap[w.heap.size]?=some (.cells #[.slice va vn vc] 140 (0,0))/\
  Cz (fun g=>w.heap.size<g) w' 142 1 (.slice va vn vc) cs.length cs/\PR b tb cap te ts w' r.2/\A9 b w w'/\(r.2.bad=0->Ao (fun g=>w.heap.size<g) w' r.1 cs)
theorem Q1{w:World}{g:Nat}{a0:Value}{t:TypeId}(h:w.heap[g]?=some (.cells #[a0] t (0,0))):w.cell? ⟨g,0,none⟩=some a0/\(∀o,w.frozen? ⟨g,o,none⟩=false)/\g<w.heap.size:=⟨A2 h 0 _ rfl,Bh h,A5 h⟩
theorem Za{b n g X:Nat}{wr w4 w5:World}{T:TypeId}{v val:Value}{m:Nat}{cs cs0:List Value}{acc x:BT A6}(hb:b<=n)(hn:n<wr.heap.size)(hr:Ao (fun g=>n<g/\v.ownBlock≠some g) wr acc cs)(ho:A9 b wr w4)(hx:Ao (fun g=>wr.heap.size<=g) w4 x [val])(hown:wr.ownsRow 0 T 1 v m cs0)
  (hgrow:w4.grownBy w5 v.ownBlock) (hX:X<=n) (hat:v.ownBlock=some g\/g=w4.heap.size+1) (u:Value):Ao (fun k=>n<k/\(some g:Option Nat)≠some k) (w5.setCell ⟨X,0,none⟩ u) (C4 acc x) (cs++[val]):=by
 have hlt:=Bs hown;have hs:=ho.size;have hset:∀k,n<k->(w5.setCell ⟨X,0,none⟩ u).heap[k]?=w5.heap[k]?:=fun k hk=>Below.heap_setCell _ _ _ _ (by show k≠X;omega);refine Ao.app _ _ _ _ (Ao.keep ?_ _ _ hr) (Ao.keep ?_ _ _ hx)
 ·intro k ⟨h1,h2⟩ hk;refine⟨(hset k h1).trans ((hgrow.block k z51a (fun e=>h2 e.symm)).trans (ho.block k hk z51a)),h1,fun e=>?_⟩;have e:=Option.some.inj e;subst e;rcases hat with h|h
  ·exact h2 h
  ·omega
 ·intro k h1 hk;refine⟨(hset k z51a).trans (hgrow.block k hk (fun e=>?_)),by omega,fun e=>?_⟩
  ·have:=hlt k e.symm;omega
  ·exact z4oa
theorem Ahk{b tb cap te:Nat}{ts:List Tk}{n:Nat}(hn:n<=500000)(w:World)(s:PS)(r:BT A6×PS)(hs:PR b tb cap te ts w s)(hp:Ai n 10 0 .nil s=some r) :
  Calls Tryz.prog 78 #[.pointer (some ⟨b,0,none⟩)] w (A5f b tb cap te ts w r):=by
 have HS:=A0 hs;obtain⟨lb,lt,lne⟩:=hs.lt;have HP0:=A0 hp;clear hp hs;go_enter Tryz.func78,Tryz.ntmps78;go_wp2;go_loopg [] n (fun k wr=>A5g b tb cap te ts n r w k wr)
 case atStart=>exact⟨.nil,s,none,0,0,[],Nat.le_refl _,HP0.o,PR.alloc HS.o _,(A9.refl _ _).alloc _,by simp,heap_alloc_new _ _,Oq _ _ _ _,fun _=>rfl⟩
 case round=>
  clear HP0 HS;obtain⟨acc,st,va,vn,vc,cs,hkn,hpk,hrs,hO,hcn,hpb,hown,hrep⟩:=hrel;cases gk with
  | zero=>exact absurd hpk (Gg _ _ _ _ _)
  | succ m=>
  have HRS:=A0 hrs;have HOr:=A0 hO;have HOwn:=A0 hown;have HRep:=A0 hrep;have HPb:=A0 hpb;have lwr:=hO.size;have hrow:∀k,(Value.slice va vn vc).ownBlock=some k->k≠b/\k≠tb/\w.heap.size<k:=fun k e=>by have h:w.heap.size<k:=hown.2 k e;omega
  have HRow:=A0 hrow;have lpb:=A5 hpb;by_cases c0:kT st=0
  ·have HE:=A0 (Agz c0 hpk);have tk:((kT st:Int) !=0)=false:=by rw[c0];rfl
   clear c0 hpk hrs hO hrep hown hpb;go_wp2_with fail
   refine(Dt HRS.o).mono ?_;rintro e w1 ⟨rfl,h1,A1⟩;have H1:=A0 h1;have Bz:=A0 A1;clear h1 A1;go_wp2;go_ret;rw[HE.o];exact⟨va,vn,vc,cs,rfl,Fu Bz.o HPb.o,HOwn.o.keep (fun k hk hl=>⟨Bz.o.block k hl,hk⟩),H1.o,HOr.o.trans (Below.only Bz.o),fun hb=>Ao.keep (fun k hk hl=>⟨Bz.o.block k hl,hk.1⟩) _ _ (HRep.o hb)⟩
  ·have Ah:Hid (st.bad=0):=hrs.Gx c0;have tk:((kT st:Int) !=0)=true:=by simpa using c0
   by_cases c4:kT st=4
   ·obtain⟨z,C1,C9⟩:=Ah0 c4 hpk;have hm0:m≠0:=by intro e;subst e;exact absurd C1 (Gg _ _ _ _ _)
    obtain⟨q,rfl⟩:∃q,m=q+1:=⟨m-1,by omega⟩;have HZ2:=A0 C9;have HX:=A0 (fun(W:World) (h:PR b tb cap te ts W st)=>Aha (Zs q q (Nat.le_refl _) z51a) z51a W st z c4 h C1);have tk4:((kT st:Int)==4)=true:=ke (c:=4) rfl c4;clear c0 c4 hpk hrs hO hrep hown C1 C9 hpb hrow;go_wp2_with fail
    refine(Dt HRS.o).mono ?_;rintro e w1 ⟨rfl,h1,A1⟩;have H1:=A0 h1;have Bz:=A0 A1;clear h1 A1;go_wp2_with fail
    refine(Dt H1.o).mono ?_;rintro e w2 ⟨rfl,h2,A8⟩;have H2:=A0 h2;have Aa:Hid (Below wr.heap.size wr w2):=Bz.o.trans (A8.mono Bz.o.size);have hpb2:=Fu Aa.o HPb.o;obtain⟨y0,fy,ly⟩:=Q1 hpb2;have HPb2:=A0 hpb2;have Fe:=Aa.o.size;clear h2 A8 hpb2;have HXd:=A0 (HX.o _ H2.o.drew);go_wp2;go_region_law (first
     | (refine N6 _ w5.heap.size #[.iface ty5 x5] 142 (heap_alloc_new w5 (.cells #[.iface ty5 x5] 142)) rfl (.tmp 16) (.tmp 19) 138 rfl 0 1 16 .nilIface Tryz.underlying138 Wy rfl z51a (.slice va vn vc) cs.length cs rfl rfl (hown5.alloc _) rfl (fun u hu=>by simp at hu;rw[hu];rfl) z51a z51a (Nat.zero_le _) ?_;intro g6 cap6 w6 hown6 hgrow6' hat6' hg6;have hgrow6:w5.grownBy w6 (Value.slice va vn vc).ownBlock:=Lx (World.grownBy_alloc w5 (.cells #[.iface ty5 x5] 142) none) hgrow6';have hat6:(Value.slice va vn vc).ownBlock=some g6\/g6=w5.heap.size+1:=(hat6'.imp id (fun e=>e.trans z56a));have hpb6:=(hgrow6.block w.heap.size (A5 HPb5.o) (fun e=>by have:=HRow.o _ e.symm;omega)).trans HPb5.o;have HPb6:=A0 hpb6;obtain⟨q0,fq,lq⟩:=Q1 hpb6;clear hpb6 hgrow6' hat6')
     | (refine F2 rfl 131 _ _ rfl #[.pointer (some ⟨b,0,none⟩)] (by kernel_rfl) HXd.o ?_;rintro e w5 ⟨ty5,x5,rfl,h5,Ea,hr5⟩;refine⟨_,rfl,?_⟩;have hpb5:=Ea.blk (show w2.drew.heap[w.heap.size]?=_ from HPb2.o) z51a;have HPb5:=A0 hpb5;obtain⟨z0,fz,lz⟩:=Q1 hpb5;have hown5:w5.ownsRow 0 142 1 (.slice va vn vc) cs.length cs:=B8 HOwn.o.1 (fun k hk hl=>((Ea.block k (Nat.lt_of_lt_of_le hl Aa.o.size) (HRow.o k hk).1).trans (Aa.o.block k hl)));clear hpb5))
    all_goals
     go_wp2;go_roundg (q+1)
     case measure=>omega
     case rel=>
      have lw5:=Ea.size;replace lw5:w2.heap.size<=w5.heap.size:=lw5;have hb25:A9 b wr w5:=(Below.only Aa.o).drew.trans Ea;have hne6:∀k,k≠w.heap.size->(w6.setCell ⟨w.heap.size,0,none⟩ (.slice (some ⟨g6,0,none⟩) (cs.length+1) cap6)).heap[k]?=w6.heap[k]?:=fun k hk=>Below.heap_setCell _ _ _ _ z5za;have hg6':w.heap.size<g6:=by
       rcases hat6 with h|h
       ·exact(HRow.o g6 h).2.2
       ·omega
      refine⟨C4 acc z.1,z.2,some ⟨g6,0,none⟩,cs.length+1,cap6,cs++[.iface ty5 x5],by omega,HZ2.o,PR.other (PR.grown h5 hgrow6 (fun e=>(HRow.o b e).1 rfl) (fun e=>(HRow.o tb e).2.1 rfl)) (by show b≠w.heap.size;omega) (by show tb≠w.heap.size;omega) _,A9.set (p:=⟨w.heap.size,0,none⟩) ((HOr.o.trans hb25).grown hgrow6 (fun k e=>.inr (by have:=(HRow.o k e).2.2;omega))) (.inr (Nat.le_refl _)) _,by simp;omega,?_,⟨B8 (by simpa using hown6) (fun k hk _=>hne6 k ?_),fun k hk=>?_⟩,fun hb=>?_⟩
      ·have:=heap_set (j:=0) HPb6.o (.slice (some ⟨g6,0,none⟩) (cs.length+1) cap6);simpa using this
      ·simp only[Value.ownBlock,Option.some.injEq]at hk;omega
      ·simp only[Value.ownBlock,Option.some.injEq]at hk;rw[<-hk];exact hg6'
      ·exact Za z51a lpb (HRep.o Ah.o) hb25 (Ao.weak (by show wr.heap.size<=w2.heap.size;omega) (hr5 hb)) HOwn.o.1 hgrow6 (Nat.le_refl _) hat6 _
   ·obtain⟨z,C1,C9⟩:=Ah1 c0 c4 hpk;have HZ2:=A0 C9;have HX:=A0 (fun(W:World) (h:PR b tb cap te ts W st)=>(Zs m m (Nat.le_refl _) z51a).stmt W st z h C1);have tk4:((kT st:Int)==4)=false:=kn (c:=4) rfl c4;clear c0 c4 hpk hrs hO hrep hown C1 C9 hpb hrow;go_wp2_with fail
    refine(Dt HRS.o).mono ?_;rintro e w1 ⟨rfl,h1,A1⟩;have H1:=A0 h1;have Bz:=A0 A1;clear h1 A1;go_wp2_with fail
    refine(Dt H1.o).mono ?_;rintro e w2 ⟨rfl,h2,A8⟩;have H2:=A0 h2;have Aa:Hid (Below wr.heap.size wr w2):=Bz.o.trans (A8.mono Bz.o.size);have hpb2:=Fu Aa.o HPb.o;obtain⟨y0,fy,ly⟩:=Q1 hpb2;have HPb2:=A0 hpb2;have Fe:=Aa.o.size;clear h2 A8 hpb2;have HXd:=A0 (HX.o _ H2.o.drew);go_wp2;go_region_law (first
     | (refine N6 _ w5.heap.size #[.iface ty5 x5] 142 (heap_alloc_new w5 (.cells #[.iface ty5 x5] 142)) rfl (.tmp 27) (.tmp 30) 138 rfl 0 1 16 .nilIface Tryz.underlying138 Wy rfl z51a (.slice va vn vc) cs.length cs rfl rfl (hown5.alloc _) rfl (fun u hu=>by simp at hu;rw[hu];rfl) z51a z51a (Nat.zero_le _) ?_;intro g6 cap6 w6 hown6 hgrow6' hat6' hg6;have hgrow6:w5.grownBy w6 (Value.slice va vn vc).ownBlock:=Lx (World.grownBy_alloc w5 (.cells #[.iface ty5 x5] 142) none) hgrow6';have hat6:(Value.slice va vn vc).ownBlock=some g6\/g6=w5.heap.size+1:=(hat6'.imp id (fun e=>e.trans z56a));have hpb6:=(hgrow6.block w.heap.size (A5 HPb5.o) (fun e=>by have:=HRow.o _ e.symm;omega)).trans HPb5.o;have HPb6:=A0 hpb6;obtain⟨q0,fq,lq⟩:=Q1 hpb6;clear hpb6 hgrow6' hat6')
     | (refine F2 rfl 132 _ _ rfl #[.pointer (some ⟨b,0,none⟩)] (by kernel_rfl) HXd.o ?_;rintro e w5 ⟨ty5,x5,rfl,h5,Ea,hr5⟩;refine⟨_,rfl,?_⟩;have hpb5:=Ea.blk (show w2.drew.heap[w.heap.size]?=_ from HPb2.o) z51a;have HPb5:=A0 hpb5;obtain⟨z0,fz,lz⟩:=Q1 hpb5;have hown5:w5.ownsRow 0 142 1 (.slice va vn vc) cs.length cs:=B8 HOwn.o.1 (fun k hk hl=>((Ea.block k (Nat.lt_of_lt_of_le hl Aa.o.size) (HRow.o k hk).1).trans (Aa.o.block k hl)));clear hpb5))
    all_goals
     go_wp2;go_roundg m
     case measure=>omega
     case rel=>
      have lw5:=Ea.size;replace lw5:w2.heap.size<=w5.heap.size:=lw5;have hb25:A9 b wr w5:=(Below.only Aa.o).drew.trans Ea;have hne6:∀k,k≠w.heap.size->(w6.setCell ⟨w.heap.size,0,none⟩ (.slice (some ⟨g6,0,none⟩) (cs.length+1) cap6)).heap[k]?=w6.heap[k]?:=fun k hk=>Below.heap_setCell _ _ _ _ z5za;have hg6':w.heap.size<g6:=by
       rcases hat6 with h|h
       ·exact(HRow.o g6 h).2.2
       ·omega
      refine⟨C4 acc z.1,z.2,some ⟨g6,0,none⟩,cs.length+1,cap6,cs++[.iface ty5 x5],by omega,HZ2.o,PR.other (PR.grown h5 hgrow6 (fun e=>(HRow.o b e).1 rfl) (fun e=>(HRow.o tb e).2.1 rfl)) (by show b≠w.heap.size;omega) (by show tb≠w.heap.size;omega) _,A9.set (p:=⟨w.heap.size,0,none⟩) ((HOr.o.trans hb25).grown hgrow6 (fun k e=>.inr (by have:=(HRow.o k e).2.2;omega))) (.inr (Nat.le_refl _)) _,by simp;omega,?_,⟨B8 (by simpa using hown6) (fun k hk _=>hne6 k ?_),fun k hk=>?_⟩,fun hb=>?_⟩
      ·have:=heap_set (j:=0) HPb6.o (.slice (some ⟨g6,0,none⟩) (cs.length+1) cap6);simpa using this
      ·simp only[Value.ownBlock,Option.some.injEq]at hk;omega
      ·simp only[Value.ownBlock,Option.some.injEq]at hk;rw[<-hk];exact hg6'
      ·exact Za z51a lpb (HRep.o Ah.o) hb25 (Ao.weak (by show wr.heap.size<=w2.heap.size;omega) (hr5 hb)) HOwn.o.1 hgrow6 (Nat.le_refl _) hat6 _
structure L8 (tb cap : Nat) (ts : List Tk) (w : World) : Prop where
 toks:V8 ts
 tok:∃cur,w.heap[tb]?=some (.cells cur 198 (0,0))/\cur.toList.take (ts.length*4)=Kv ts
 cap:ts.length<=cap
theorem L8.cell{tb cap:Nat}{ts:List Tk}{w:World}(h:L8 tb cap ts w)(i j:Nat)(hi:i<ts.length)(hj:j<4):w.cell? ⟨tb,i*4+j,none⟩=(Mw ts[i])[j]?:=by
 exact z2ra
theorem L8.lt{tb cap:Nat}{ts:List Tk}{w:World}(h:L8 tb cap ts w):tb<w.heap.size:=by
 obtain⟨cur,h1,_⟩:=h.tok;exact A5 h1
theorem L8.keep{tb cap:Nat}{ts:List Tk}{w w':World}(h:L8 tb cap ts w)(hk:w'.heap[tb]?=w.heap[tb]?):L8 tb cap ts w':=by
 obtain⟨cur,h1,h2⟩:=h.tok;exact⟨h.toks,⟨cur,hk.trans h1,h2⟩,h.cap⟩
def Ry(n:Nat):Nat:=if n=0 then 0 else 1
def Yt(tb cap:Nat)(ts:List Tk)(w:World)(k:Nat)(o v:Value)(wr:World):Prop:=
 ∃(oi:Int) (n:Nat),o=.int .i64 oi/\v=.int .i64 n/\n+k=ts.length/\nest ts 0=nest (ts.drop n) oi/\-(n:Int)<=oi/\oi<=30/\L8 tb cap ts wr/\Below w.heap.size w wr/\wr.heap[w.heap.size]?=some (.cells #[.int .i64 0,.int .i64 0] 50 (0,0))
theorem z55a {P:Prop} (h:P:=by simp[World.setCell];omega):P:=h
theorem z2qa {P:Prop} (h:P:=by
  have hsz:=HSz.o;repeat (first|exact HB.o|refine Below.alloc ?_ z55a _|refine Below.setCell ?_ z56a _|refine Below.drew ?_)):P:=h
theorem z2ea {P:Prop} (h:P:=by
  go_wp2;go_roundg (gk-1)
  case measure=>omega
  case rel=>exact HRel.o _ _ rfl HE.o z51a z51a _):P:=h
theorem A1u{tb cap:Nat}{ts:List Tk}(w:World)(h:L8 tb cap ts w) :
  Calls Tryz.prog 79 #[.slice (some ⟨tb,0,none⟩) ts.length cap] w fun e w'=>e=.returned (.agg #[.int .i64 (Ry (nest ts 0):Nat),.int .i64 (nest ts 0:Nat)])/\Below w.heap.size w w':=by
 have hfew:=h.toks.Bw;have HH:=A0 h;have ltb:=h.lt;clear h;go_enter Tryz.func79,Tryz.ntmps79;go_wp2;go_loopg [3,8] ts.length (fun k o v wr=>Yt tb cap ts w k o v wr)
 case atStart=>
  exact⟨0,0,rfl,rfl,by omega,rfl,by omega,by omega,HH.o.keep (Below.heap_alloc _ _ _ ltb),(Below.refl _ _).alloc (Nat.le_refl _) _,heap_alloc_new _ _⟩
 case round=>
  clear HH;obtain⟨oi,n,rfl,rfl,hnk,hnest,C3,Be,ht,hb,hz⟩:=hrel;have HT:=A0 ht;have HB:=A0 hb;have HN:=A0 hnest;have HZ:=A0 hz;have hcap:=ht.cap;obtain⟨z0,z1,fz,lz⟩:=Is hz;have HSz:=A0 hb.size;clear ht hb hnest hz;by_cases hlt:n<ts.length
  ·have HS:=A0 (Ag6 ts n hlt oi);have d0:=HT.o.cell n 0 hlt z51a;have d1:=HT.o.cell n 1 hlt z51a;have d2:=HT.o.cell n 2 hlt z51a;have d3:=HT.o.cell n 3 hlt z51a;have hlo:=HT.o.lt;have hline:=HT.o.toks.line ts[n] (List.getElem_mem hlt);rw[Mw]at d0 d1 d2 d3;simp only[Nat.add_zero,List.getElem?_cons_zero,List.getElem?_cons_succ]at d0 d1 d2 d3;have HRel:Hid (∀(o:Int) (q:Nat),q=n+1->nest ts 0=nest (ts.drop q) o->-(q:Int)<=o->o<=30->∀O:Obj,Yt tb cap ts w (gk-1) (.int .i64 o) (.int .i64 q) (wr.alloc O)):=by
    intro o q hq h1 h2 h3 O;exact⟨o,q,rfl,rfl,by omega,h1,h2,h3,HT.o.keep (Below.heap_alloc _ _ _ hlo),HB.o.alloc HSz.o _,alloc_old HZ.o⟩
   generalize ts[n]=x at *;by_cases hop:x.k=18\/x.k=22\/x.k=20
   ·have HOp:Hid (opens x.k=true):=by
     show _=_;unfold opens;rcases hop with e|e|e <;> rw[e] <;> rfl
    by_cases h30:oi=30
    ·subst h30;have HE:Hid (nest ts 0=x.line):=by
      show _=_;rw[HN.o,HS.o,HOp.o,if_pos rfl,if_pos z51a]
     rcases hop with e|e|e;all_goals
      rw[e]at d0;clear e;go_wp2;refine bodyPost_ret (v:=.agg #[.int .i64 1,.int .i64 (x.line:Nat)]) (by simp[results,Tryz.results79,go_sem,z0,z1,lz]) rfl ?_;refine⟨?_,?_⟩
      ·rw[HE.o,Ry,if_neg z51a];rfl
      ·exact z2qa
    ·have h30':(oi==30)=false:=by rw[beq_eq_false_iff_ne];exact h30
     have HE:Hid (nest ts 0=nest (ts.drop (n+1)) (oi+1)):=by
      show _=_;rw[HN.o,HS.o,HOp.o,if_pos rfl,if_neg z51a]
     rcases hop with e|e|e;all_goals
      rw[e]at d0;clear e;exact z2ea
   ·have HOp:Hid (opens x.k=false):=by
     show _=_;unfold opens;simp only[Bool.or_eq_false_iff,beq_eq_false_iff_ne];omega
    have t18:((x.k:Int)==18)=false:=kn (c:=18) rfl z51a;have t22:((x.k:Int)==22)=false:=kn (c:=22) rfl z51a;have t20:((x.k:Int)==20)=false:=kn (c:=20) rfl z51a;by_cases hcl:x.k=19\/x.k=23\/x.k=21
    ·have HE:Hid (nest ts 0=nest (ts.drop (n+1)) (oi-1)):=by
      show _=_;have hc:P5 x.k=true:=by
       unfold P5;rcases hcl with e|e|e <;> rw[e] <;> rfl
      rw[HN.o,HS.o,HOp.o,hc];rfl
     clear hop;rcases hcl with e|e|e;all_goals
      rw[e]at d0 t18 t20 t22;clear e;exact z2ea
    ·have HE:Hid (nest ts 0=nest (ts.drop (n+1)) oi):=by
      show _=_;have hc:P5 x.k=false:=by
       unfold P5;simp only[Bool.or_eq_false_iff,beq_eq_false_iff_ne];omega
      rw[HN.o,HS.o,HOp.o,hc];rfl
     have t19:((x.k:Int)==19)=false:=kn (c:=19) rfl z51a;have t23:((x.k:Int)==23)=false:=kn (c:=23) rfl z51a;have t21:((x.k:Int)==21)=false:=kn (c:=21) rfl z51a;clear hop hcl;exact z2ea
  ·have HE:Hid (nest ts 0=0):=by
    show _=_;rw[HN.o,Ag5 ts n z51a oi]
   go_wp2;refine bodyPost_ret (v:=.agg #[.int .i64 0,.int .i64 0]) (by simp[results,Tryz.results79,go_sem,z0,z1]) rfl ?_;refine⟨?_,?_⟩
   ·rw[HE.o];rfl
   ·exact z2qa
theorem Ahm{tb cap:Nat}{ts:List Tk}{w:World}(h:L8 tb cap ts w)(h1:0<ts.length)(te:Nat) :
  PR w.heap.size tb cap te ts (w.alloc (.cells #[.slice (some ⟨tb,0,none⟩) ts.length cap,.int .i64 0,.int .i64 0,.int .i64 0] te)) ⟨ts,0⟩:=by
 obtain⟨cur,k1,k2⟩:=h.tok;have:=A5 k1;exact⟨0,h.toks,heap_alloc_new w _,⟨cur,alloc_old k1,k2⟩,by omega,h1,h.cap,fun _=>rfl,fun e=>absurd rfl e⟩
def A5d(w:World)(ts:List Tk)(r:BT A6×PS)(e:Ending)(w':World):Prop:=
 Below w.heap.size w w'/\((r.2.bad≠0/\e=.returned (.tuple #[.pointer none,.agg #[.int .i64 2,.int .i64 (r.2.bad:Nat)]]))\/(r.2.bad=0/\nest ts 0≠0/\e=.returned (.tuple #[.pointer none,.agg #[.int .i64 1,.int .i64 (nest ts 0:Nat)]]))\/
  (r.2.bad=0/\nest ts 0=0/\∃pb va vn vc cs,e=.returned (.tuple #[.pointer (some ⟨pb,0,none⟩),.agg #[.int .i64 0,.int .i64 0]])/\w.heap.size<=pb/\w'.heap[pb]?=some (.cells #[.slice va vn vc] 140 (0,0))/\
   Cz (fun g=>w.heap.size<=g) w' 142 1 (.slice va vn vc) cs.length cs/\Ao (fun g=>w.heap.size<=g) w' r.1 cs))
theorem z2za {P:Prop} (h:P:=by
  repeat (first|exact Aa.o|refine Below.alloc ?_ z55a _|refine Below.setCell ?_ z56a _|refine Below.drew ?_)):P:=h
theorem z69a {P:Prop} (h:P:=by show k≠w.heap.size;omega):P:=h
theorem Agp{tb cap:Nat}{ts:List Tk}{n:Nat}(hn:n<=500000)(w:World)(r:BT A6×PS)(h:L8 tb cap ts w)(h1:0<ts.length)(hp:Ai n 10 0 .nil ⟨ts,0⟩=some r) :
  Calls Tryz.prog 50 #[.slice (some ⟨tb,0,none⟩) ts.length cap] w (A5d w ts r):=by
 have HH:=A0 h;have ltb:=h.lt;have HC:Hid (L8 tb cap ts (w.alloc (.cells #[.int .i64 0,.int .i64 0] 50))):=h.keep (Below.heap_alloc _ _ _ ltb);have HS:=A0 (Ahm HC.o h1 203);have HX:=A0 (fun(W:World) (hs:PR (w.alloc (.cells #[.int .i64 0,.int .i64 0] 50)).heap.size tb cap 203 ts W ⟨ts,0⟩)=>Ahk hn W ⟨ts,0⟩ r hs hp);have hsz:(w.alloc (.cells #[.int .i64 0,.int .i64 0] 50)).heap.size=w.heap.size+1:=by simp
 have HSz:=A0 hsz;clear h hp hsz;go_enter Tryz.func50,Tryz.ntmps50;go_wp2_with fail
 rw[show(w.heap.size+1:Nat)=(w.alloc (.cells #[.int .i64 0,.int .i64 0] 50)).heap.size from HSz.o.symm];refine(HX.o _ HS.o).mono ?_;rintro e w1 ⟨va,vn,vc,cs,rfl,hpb,hown,hrs,hO,hrep⟩;have hR:=hO.blk (alloc_old (heap_alloc_new w (.cells #[.int .i64 0,.int .i64 0] 50))) z56a;have HTk:=A0 (HC.o.keep (w':=w1) ((hO.block tb z54a z54a).trans (Below.heap_alloc _ _ _ z54a)));have HBel:Hid (Below w.heap.size w w1):=⟨hO.os,hO.tape,hO.output,by have:=hO.size;simp at this;omega,fun k hk=>(hO.block k z54a z54a).trans ((Below.heap_alloc _ _ _ z54a).trans (Below.heap_alloc _ _ _ hk))⟩;obtain⟨x0,x1,fx,lx⟩:=Is hR;have HR:=A0 hR;obtain⟨pl,hrt⟩:=hrs;have y2:=A2 hrt.rd 2 _ rfl;have y3:=A2 hrt.rd 3 _ rfl;have ly:=A5 hrt.rd;rw[HSz.o]at y2 y3 ly;have HPb:=A0 hpb;have HOwn:=A0 hown;have HRep:=A0 hrep;have lpb:=A5 hpb;have lbad:=PR.A8k ⟨pl,hrt⟩;clear hpb hown hrep hR hO hrt HS HX;by_cases hb:r.2.bad=0
 ·rw[hb]at y2 y3;have HB:=A0 hb;have t0:((O6 0:Nat):Int)=0:=rfl;by_cases hd:nest ts 0=0
  ·clear hb;go_wp2_with fail
   refine(A1u _ HTk.o).mono ?_;rintro e w2 ⟨rfl,A8⟩;have Ej:=Fu A8 HR.o;have Aa:Hid (Below w.heap.size w w2):=HBel.o.trans (A8.mono HBel.o.size);have Fe:=A8.size;have HBn:=A0 A8;clear x0 x1 fx lx y2 y3 ly A8;obtain⟨x0,x1,fx,lx⟩:=Is Ej;clear Ej;rw[hd];have HD:=A0 hd;clear hd;have tn:((Ry 0:Nat):Int)=0:=rfl;go_wp2;refine bodyPost_ret (v:=.tuple #[.pointer (some ⟨w.heap.size+1+1,0,none⟩),.agg #[.int .i64 0,.int .i64 0]]) (by simp[results,Tryz.results50,go_sem,x0,x1,lx]) rfl ?_;have hold:∀k,w.heap.size<k->k<w1.heap.size->(((w2.setCell ⟨w.heap.size,0,none⟩ (.int .i64 0)).setCell ⟨w.heap.size,1,none⟩ (.int .i64 0)).alloc (.cells #[.int .i64 0,.int .i64 0] 50)).heap[k]?=w1.heap[k]?:=by
    intro k h1 h2;rw[Below.heap_alloc _ _ _ z55a,Below.heap_setCell _ _ _ _ z69a,Below.heap_setCell _ _ _ _ z69a];exact HBn.o.block k h2
   have B5:((w.alloc (.cells #[.int .i64 0,.int .i64 0] 50)).alloc (.cells #[.slice (some ⟨tb,0,none⟩) ts.length cap,.int .i64 0,.int .i64 0,.int .i64 0] 203)).heap.size=w.heap.size+1+1:=by simp
   have hpb:=HPb.o;have hown:=HOwn.o;have hrep:=HRep.o HB.o;rw[B5]at hpb hown hrep lpb;have hk:∀g,w.heap.size+1+1<g->g<w1.heap.size->(((w2.setCell ⟨w.heap.size,0,none⟩ (.int .i64 0)).setCell ⟨w.heap.size,1,none⟩ (.int .i64 0)).alloc (.cells #[.int .i64 0,.int .i64 0] 50)).heap[g]?=w1.heap[g]?/\w.heap.size<=g:=fun g hg hl=>⟨hold g z51a hl,by omega⟩;refine⟨?_,.inr (.inr ⟨HB.o,HD.o,w.heap.size+1+1,va,vn,vc,cs,rfl,by omega,(hold _ z51a lpb).trans hpb,hown.keep hk,Ao.keep hk _ _ hrep⟩)⟩;exact z2za
  ·clear hb;go_wp2_with fail
   refine(A1u _ HTk.o).mono ?_;rintro e w2 ⟨rfl,A8⟩;have Ej:=Fu A8 HR.o;have Aa:Hid (Below w.heap.size w w2):=HBel.o.trans (A8.mono HBel.o.size);have Fe:=A8.size;have HBn:=A0 A8;clear x0 x1 fx lx y2 y3 ly A8;obtain⟨x0,x1,fx,lx⟩:=Is Ej;clear Ej;have Bk:Ry (nest ts 0)=1:=by unfold Ry;rw[if_neg hd]
   rw[Bk];have HD:=A0 hd;clear hd Bk;go_wp2;go_region
   all_goals go_wp2
   all_goals refine bodyPost_ret (v:=.tuple #[.pointer none,.agg #[.int .i64 1,.int .i64 (nest ts 0:Nat)]]) (by simp[results,Tryz.results50,go_sem,x0,x1,lx]) rfl ?_
   all_goals refine⟨?_,.inr (.inl ⟨HB.o,HD.o,rfl⟩)⟩
   all_goals repeat (first|exact Aa.o|refine Below.alloc ?_ z55a _|refine Below.setCell ?_ z56a _|refine Below.drew ?_)
 ·have hbc:O6 r.2.bad=2:=by unfold O6;rw[if_neg hb]
  rw[hbc]at y2;have HB:=A0 hb;clear hb hbc;go_wp2;go_region
  all_goals go_wp2
  all_goals refine bodyPost_ret (v:=.tuple #[.pointer none,.agg #[.int .i64 2,.int .i64 (r.2.bad:Nat)]]) (by simp[results,Tryz.results50,go_sem,x0,x1]) rfl ?_
  all_goals refine⟨?_,.inl ⟨HB.o,rfl⟩⟩
  all_goals repeat (first|exact HBel.o|refine Below.alloc ?_ z55a _|refine Below.setCell ?_ z56a _|refine Below.drew ?_)
end
end Go.Proofs.YtjdlndhfaaolaaaGreatDoor
