import Derived.Deep.DrawnRows
import Derived.Test.YtjdlndhfaaolaaaGreatDoorQ16
import Derived.Test.YtjdlndhfaaolaaaGreatDoorQ17
set_option maxHeartbeats 20000000
namespace Go.Proofs.YtjdlndhfaaolaaaGreatDoor
section
set_option maxRecDepth 100000
open Go.RowKit
open Go.Deep (BT)
theorem Vs{k a:Nat}(h:rowOf k=a+1):k=27\/k=29\/k=30\/k=31\/k=32\/k=33\/k=34\/k=35\/k=36\/k=37\/k=38\/k=39\/k=40:=by
 unfold rowOf at h;split at h
 ·omega
 split at h
 ·omega
 split at h
 ·omega
 split at h
 ·omega
 split at h
 ·omega
 split at h
 ·omega
 ·omega
theorem Aay{k:Nat}:rowOf k<=6:=by
 unfold rowOf;split
 ·omega
 split
 ·omega
 split
 ·omega
 split
 ·omega
 split
 ·omega
 split
 ·omega
 ·omega
theorem Uf{k a:Nat}(h:rowOf k=a+1):¬(100+k=31\/100+k=32)/\248=Cb (100+k)/\295=De (100+k):=by
 rcases Vs h with rfl|rfl|rfl|rfl|rfl|rfl|rfl|rfl|rfl|rfl|rfl|rfl|rfl <;> exact⟨by decide,rfl,rfl⟩
theorem Af2{k a:Nat}(h:rowOf k=a+1)(D:Nat->Prop)(w:World)(line:Nat)(x y:Value):Cr D w (Ba (100+k) line) #[Gc line,.int .i64 (k:Nat),x,y] [x,y]:=by
 rcases Vs h with rfl|rfl|rfl|rfl|rfl|rfl|rfl|rfl|rfl|rfl|rfl|rfl|rfl <;> exact⟨x,y,rfl,rfl⟩
def A3s(b tb cap te:Nat)(ts:List Tk)(a n:Nat)(r:BT A6×PS)(w:World)(k:Nat)(v:Value)(wr:World):Prop:=
 ∃(acc:BT A6) (st:PS) (ty:TypeId) (x:Value),v=.iface ty x/\k<=n/\Af k 1 a acc st=some r/\PR b tb cap te ts wr st/\A7 b w wr/\(st.bad=0->Al (fun g=>w.heap.size<=g) wr acc [.iface ty x])
theorem A4r{b tb cap te:Nat}{ts:List Tk}{n:Nat}(ih:∀m,m<=n->Ii b tb cap te ts m)(w:World)(s:PS)(a:Nat)(r:BT A6×PS)(ha:a<=6)(hs:PR b tb cap te ts w s)(hp:Af (n+1) 0 a .nil s=some r) :
  Calls Tryz.prog 232 #[.pointer (some ⟨b,0,none⟩),.int .i64 ((a+1:Nat):Nat)] w (H9 b tb cap te ts w r):=by
 have HS:=A0 hs;have lb:=hs.lt;by_cases c6:a=6
 ·subst c6;have HX:=A0 (fun(W:World) (h:PR b tb cap te ts W s)=>(ih n (Nat.le_refl _)).unary W s r h (Ua hp));clear hp hs ha;go_enter Tryz.func232,Tryz.ntmps232;go_wp2_with fail
  refine(HX.o _ HS.o).mono ?_;rintro e w1 ⟨ty1,x1,rfl,h1,Bw,Ap⟩;have Bu:=A0 Bw;have Az:Hid (A7 b w w1):=(A7.refl b w).trans Bu.o;have Dk:=Az.o.size;have F5:=A0 Ap;have H1:=A0 h1;clear h1 Bw Ap;go_wp2;go_ret;exact⟨_,_,rfl,H1.o,Az.o,fun hb=>Al.weak (by omega) (F5.o hb)⟩
 ·obtain⟨x,hx,hpr⟩:=Vt c6 hp;have HX:=A0 (fun(W:World) (h:PR b tb cap te ts W s)=>(ih n (Nat.le_refl _)).expr W s (a+1) x (by omega) h hx);have HP0:=A0 hpr;have t6:decide (6<((a+1:Nat):Int))=false:=decide_eq_false (by omega);clear hp hs hx hpr;go_enter Tryz.func232,Tryz.ntmps232;go_wp2_with fail
  refine(HX.o _ HS.o).mono ?_;rintro e w1 ⟨ty1,x1,rfl,h1,Bw,Ap⟩;have Bu:=A0 Bw;have Az:Hid (A7 b w w1):=(A7.refl b w).trans Bu.o;have Dk:=Az.o.size;have F5:=A0 Ap;have H1:=A0 h1;clear h1 Bw Ap;go_wp2;go_loopg [5] n (fun k v wr=>A3s b tb cap te ts a n r w k v wr)
  case atStart=>exact⟨x.1,x.2,ty1,x1,rfl,Nat.le_refl _,HP0.o,H1.o,Az.o,F5.o⟩
  case round=>
   clear HP0 H1 Az F5 Bu HX HS Dk;obtain⟨acc,st,ty,x0,rfl,hkn,hpk,hrs,hO,hrep⟩:=hrel;cases gk with
   | zero=>exact absurd hpk (G9 _ _ _ _ _)
   | succ m=>
   have HRS:=A0 hrs;have HOr:=A0 hO;have HRep:=A0 hrep;have lwr:=hO.size;have hk40:=hrs.R5;have hrl:=Aay (k:=kT st);by_cases cr:rowOf (kT st)=a+1
   ·obtain⟨z,Bv,By⟩:=A12 cr hpk;have HZ2:=A0 By;have HX:=A0 (fun(W:World) (h:PR b tb cap te ts W (Ao st))=>(ih m (by omega)).expr W (Ao st) (a+1) z (by omega) h Bv);have tk:((rowOf (kT st):Int)==((a+1:Nat):Int))=true:=by rw[cr];simp
    have Ae:Hid (st.bad=0):=hrs.Gt (by have:=Vs cr;omega);have HCr:=A0 cr;clear Bv By cr hpk hrs hO hrep;go_wp2_with fail
    refine(Dl HRS.o).mono ?_;rintro e w4 ⟨rfl,h4,B4⟩;have Cy:=A0 (Below.only (b:=b) B4);have C2:Hid (A7 b wr w4):=(A7.refl b wr).trans Cy.o;have lw4:=C2.o.size;have H4:=A0 h4;clear h4 B4;go_wp2_with fail
    refine(A0z _ hk40 _).mono ?_;rintro e w' ⟨rfl,rfl⟩;go_wp2_with fail
    refine(Gv H4.o).mono ?_;rintro e w5 ⟨ln5,nn5,S5,rfl,htk5,h5,E5⟩;have Eo:=A0 E5;have C4:Hid (A7 b wr w5):=C2.o.trans Eo.o;have lw5:=C4.o.size;have HTk5:=A0 htk5;have H5:=A0 h5;clear h5 E5 htk5;have Fu:=A0 (heap_alloc_new w5 (.cells #[.int .i64 (kT st:Nat),.int .i64 ln5,.string ⟨S5.toArray⟩,.int .i64 nn5] 198));go_wp2_with fail
    refine(HX.o _ (PR.alloc H5.o _)).mono ?_;rintro e w6 ⟨ty6,x6,rfl,h6,J4,hr6⟩;have HP6:=A0 J4;have Df:Hid (A7 b wr w6):=(C4.o.alloc _).trans HP6.o;have lw6:=Df.o.size;have HR6:=A0 hr6;have H6:=A0 h6;clear h6 J4 hr6;have hT6:=HP6.o.blk Fu.o (by omega);obtain⟨y0,y1,y2,y3,fy,ly⟩:=Dw hT6;clear hT6;go_wp2;go_roundg m
    case measure=>omega
    case rel=>
     refine⟨_,_,_,_,rfl,by omega,HZ2.o,PR.alloc H6.o _,(HOr.o.trans Df.o).alloc _,fun hb=>?_⟩;have hcl:=Hi (w:=w) (W:=w6) (r:=(nd (Ba (100+kT st) (B1 st).line) (E0 acc z.1),z.2)) (l:=Ba (100+kT st) (B1 st).line) (ch:=E0 acc z.1) (ks:=[.iface ty x0,.iface ty6 x6]) (cs:=#[Gc (B1 st).line,.int .i64 (kT st:Nat),.iface ty x0,.iface ty6 x6]) H6.o (HOr.o.trans Df.o) rfl (Uf HCr.o).1 (Uf HCr.o).2.1 (Uf HCr.o).2.2 (fun hb=>⟨Af2 HCr.o _ _ _ _ _,Al.app _ _ [_] [_] (Al.only (by omega) Df.o (HRep.o Ae.o)) (Al.weak (by simp;omega) (HR6.o hb))⟩);obtain⟨t',x',e',_,_,hrr⟩:=hcl;injection e' with e';rw[←e']at hrr;rw[(HTk5.o Ae.o).1];exact hrr hb
   ·have HE:=A0 (A06 cr hpk);have tk:((rowOf (kT st):Int)==((a+1:Nat):Int))=false:=by rw[beq_eq_false_iff_ne];omega
    clear cr hpk hrs hO hrep;go_wp2_with fail
    refine(Dl HRS.o).mono ?_;rintro e w4 ⟨rfl,h4,B4⟩;have Cy:=A0 (Below.only (b:=b) B4);have C2:Hid (A7 b wr w4):=(A7.refl b wr).trans Cy.o;have lw4:=C2.o.size;have H4:=A0 h4;clear h4 B4;go_wp2_with fail
    refine(A0z _ hk40 _).mono ?_;rintro e w' ⟨rfl,rfl⟩;go_wp2;go_ret;rw[HE.o];exact⟨_,_,rfl,H4.o,HOr.o.trans C2.o,fun hb=>Al.only (by omega) C2.o (HRep.o hb)⟩
theorem Pt(s:PS)(h:s.bad=0):(Ed s).ts=[Jj]:=by unfold Ed;rw[if_pos h]
theorem Aka{n:Nat}{s:PS}{r:BT A6×PS}(hk:kT s=0)(h:Af n 4 0 .nil s=some r):r.2=Ed s:=by
 cases n with
 | zero=>exact absurd h (G9 _ _ _ _ _)
 | succ n=>rw[Vu (by omega) (by omega) (by omega) (by omega) (by omega) (by omega) (by omega) (by omega) (by omega) (by omega) h]
theorem A9f{n:Nat}{s:PS}{r:BT A6×PS}(h0:s.bad=0)(hf:(Ed s).bad≠0)(hk:kT s=0)(h:Af n 2 0 .nil s=some r):r.2=Ed s:=by
 cases n with
 | zero=>exact absurd h (G9 _ _ _ _ _)
 | succ n=>
  obtain⟨x,h1,h2⟩:=Vv (by omega) (by omega) h;have e:=Aka hk h1;rw[Pn (by rw[e];exact Pt s h0) (by rw[e];exact hf) _ _ _ _ _ h2,e]
theorem Aew{s:PS}(h0:s.bad=0)(hf:(Ed s).bad≠0)(hk:kT s=0):∀n a r,Af n 0 a .nil s=some r->r.2=Ed s:=by
 intro n;induction n with
 | zero=>intro a r h;exact absurd h (G9 _ _ _ _ _)
 | succ n ih=>
  intro a r h;by_cases h6:a=6
  ·subst h6;exact A9f h0 hf hk (Ua h)
  ·obtain⟨x,h1,h2⟩:=Vt h6 h;have e:=ih _ _ h1;rw[Pn (by rw[e];exact Pt s h0) (by rw[e];exact hf) _ _ _ _ _ h2,e]
theorem A1j{s:PS}(h:s.bad≠0):Ed s=s:=by unfold Ed;rw[if_neg h]
theorem X9{k:Nat}{s:PS}(hk:k≠0)(h:s.bad≠0)(ht:s.ts=[Jj]):Bb k s=s:=by
 unfold Bb;rw[if_neg (by unfold kT B1;rw[ht];show ¬(0=k);omega),A1j h]
theorem Afm{n:Nat}{s:PS}{r:BT A6×PS}(h0:s.bad=0)(hf:(Ed s).bad≠0)(hk:kT s=0)(h:Af n 9 0 .nil s=some r):r.2=Ed s:=by
 cases n with
 | zero=>exact absurd h (G9 _ _ _ _ _)
 | succ n=>
  obtain⟨x,h1,h2⟩:=Vr (by omega) h;have e:=Aew h0 hf hk _ _ _ h1;have ek:kT x.2=0:=by rw[e];unfold Ed;rw[if_pos h0];rfl
  rcases h2 with⟨_,h3,_⟩|⟨_,h3,_⟩|⟨_,h3⟩
  ·omega
  ·omega
  ·rw[h3];show Bb 25 x.2=_;rw[X9 (by decide) (by rw[e];exact hf) (by rw[e];exact Pt s h0),e]
def Agc(b tb cap te:Nat)(ts:List Tk)(n:Nat)(r:BT A6×PS)(w:World)(k:Nat)(v:Value)(wr:World):Prop:=
 ∃(acc:BT A6) (st:PS) (va:Option Addr) (vn vc:Nat) (cs:List Value),v=.slice va vn vc/\k<=n/\Af k 8 0 acc st=some r/\PR b tb cap te ts wr st/\A7 b w wr/\cs.length+k<=n+1/\
  Co (fun g=>w.heap.size<=g) wr 142 1 (.slice va vn vc) cs.length cs/\(st.bad=0->Al (fun g=>w.heap.size<=g/\(Value.slice va vn vc).ownBlock≠some g) wr acc cs)
theorem A9g{b tb cap te:Nat}{ts:List Tk}{n:Nat}(ih:∀m,m<=n->Ii b tb cap te ts m)(hn:n<=500000)(w:World)(s:PS)(r:BT A6×PS)(hs:PR b tb cap te ts w s)(hp:Af (n+1) 7 0 .nil s=some r) :
  Calls Tryz.prog 185 #[.pointer (some ⟨b,0,none⟩)] w (Tr 142 b tb cap te ts w r):=by
 have HS:=A0 hs;obtain⟨lb,lt,lne⟩:=hs.lt;have HP0:=A0 (A08 hp);clear hp hs;go_enter Tryz.func185,Tryz.ntmps185;go_wp2_with fail
 refine(Is HS.o 20).mono ?_;rintro e w1 ⟨kk1,J5,nn1,S1,rfl,Fl,h1,Bw⟩;have Bu:=A0 Bw;have Az:Hid (A7 b w w1):=(A7.refl b w).trans Bu.o;have Dk:=Az.o.size;have J9:=A0 Fl;have H1:=A0 h1;clear h1 Bw Fl;go_wp2;go_loopg [3] n (fun k v wr=>Agc b tb cap te ts n r w k v wr)
 case atStart=>exact⟨.nil,_,none,0,0,[],rfl,Nat.le_refl _,HP0.o,H1.o,Az.o,by simp,O8 _ _ _ _,fun _=>rfl⟩
 case round=>
  clear HP0 H1 Az Bu HS Dk J9;obtain⟨acc,st,va,vn,vc,cs,rfl,hkn,hpk,hrs,hO,hcn,hown,hrep⟩:=hrel;cases gk with
  | zero=>exact absurd hpk (G9 _ _ _ _ _)
  | succ m=>
  have HRS:=A0 hrs;have HOr:=A0 hO;have HOwn:=A0 hown;have HRep:=A0 hrep;have lwr:=hO.size;have hne:(Value.slice va vn vc).ownBlock≠some b:=fun e=>by have h:w.heap.size<=b:=hown.2 b e;omega
  have HFb:Hid (st.bad=0->1<=(B1 st).line):=fun e=>(hrs.lines e).1;have HStk:=A0 hrs.M8;by_cases c21:kT st=21
  ·have HE:=A0 (Xm c21 hpk);have tk:((kT st:Int) !=21)=false:=by rw[c21];rfl
   have HW:Hid (Bb 21 st=Ao st):=by show _=_;unfold Bb;rw[if_pos c21]
   clear c21 hpk hrs hO hrep hown;go_wp2_with fail
   refine(Dl HRS.o).mono ?_;rintro e w4 ⟨rfl,h4,B4⟩;have Cy:=A0 (Below.only (b:=b) B4);have C2:Hid (A7 b wr w4):=(A7.refl b wr).trans Cy.o;have lw4:=C2.o.size;have H4:=A0 h4;clear h4 B4;go_wp2_with fail
   refine(Is H4.o 21).mono ?_;rintro e w5 ⟨kk5,ln5,nn5,S5,rfl,htk5,h5,E5⟩;have Eo:=A0 E5;have C4:Hid (A7 b wr w5):=C2.o.trans Eo.o;have lw5:=C4.o.size;have HTk5:=A0 htk5;have H5:=A0 h5;clear h5 E5 htk5;go_wp2;go_ret;rw[HE.o];refine⟨va,vn,vc,cs,rfl,⟨B3 HOwn.o.1 (fun k hk hl=>C4.o.block k hl (fun e=>hne (by rw[←e];exact hk))),HOwn.o.2⟩,by rw[←HW.o];exact H5.o,HOr.o.trans C4.o,fun hb=>?_⟩;rw[Q6]at hb;exact Al.keep (fun k hk hl=>⟨C4.o.block k hl (by omega),hk.1⟩) _ _ (HRep.o hb)
  by_cases c0:kT st=0
  ·have HE:Hid (r.2=Bb 21 st/\r.2.bad≠0):=by
    have hw:Bb 21 st=Ed st:=by unfold Bb;rw[if_neg c21]
    by_cases h0:st.bad=0
    ·obtain⟨x,hx,G3⟩:=V2 c21 h0 hpk;have hf:=Wk HFb.o;have e:=Afm h0 hf c0 hx;have e2:=Pn (by rw[e];exact Pt st h0) (by rw[e];exact hf) _ _ _ _ _ G3;rw[e2,e,hw];exact⟨rfl,hf⟩
    ·have e2:=Pn (HStk.o h0) h0 _ _ _ _ _ hpk;rw[e2,hw,A1j h0];exact⟨rfl,h0⟩
   have tk:((kT st:Int) !=21)=true:=by rw[c0];rfl
   have tk0:((kT st:Int) !=0)=false:=by rw[c0];rfl
   clear c21 c0 hpk hrs hO hrep hown;go_wp2_with fail
   refine(Dl HRS.o).mono ?_;rintro e w4 ⟨rfl,h4,B4⟩;have Cy:=A0 (Below.only (b:=b) B4);have C2:Hid (A7 b wr w4):=(A7.refl b wr).trans Cy.o;have lw4:=C2.o.size;have H4:=A0 h4;clear h4 B4;go_wp2_with fail
   refine(Dl H4.o).mono ?_;rintro e w5 ⟨rfl,h5,Cc⟩;have Eo:=A0 (Below.only (b:=b) Cc);have C4:Hid (A7 b wr w5):=C2.o.trans Eo.o;have lw5:=C4.o.size;have H5:=A0 h5;clear h5 Cc;go_wp2_with fail
   refine(Is H5.o 21).mono ?_;rintro e w6 ⟨kk6,ln6,nn6,S6,rfl,htk6,h6,J4⟩;have HP6:=A0 J4;have Df:Hid (A7 b wr w6):=C4.o.trans HP6.o;have lw6:=Df.o.size;have HTk6:=A0 htk6;have H6:=A0 h6;clear h6 J4 htk6;go_wp2;go_ret;refine⟨va,vn,vc,cs,rfl,⟨B3 HOwn.o.1 (fun k hk hl=>Df.o.block k hl (fun e=>hne (by rw[←e];exact hk))),HOwn.o.2⟩,by rw[HE.o.1];exact H6.o,HOr.o.trans Df.o,fun hb=>absurd hb HE.o.2⟩
  have Ae:Hid (st.bad=0):=hrs.Gt c0;obtain⟨z,Bv,By⟩:=V2 c21 Ae.o hpk;have HZ2:=A0 By;have HX:=A0 (fun(W:World) (h:PR b tb cap te ts W st)=>(ih m (by omega)).stmt W st z h Bv);have tk:((kT st:Int) !=21)=true:=by simp;omega
  have tk0:((kT st:Int) !=0)=true:=by simpa using c0
  clear c21 c0 hpk hrs hO hrep hown Bv By;go_wp2_with fail
  refine(Dl HRS.o).mono ?_;rintro e w4 ⟨rfl,h4,B4⟩;have Cy:=A0 (Below.only (b:=b) B4);have C2:Hid (A7 b wr w4):=(A7.refl b wr).trans Cy.o;have lw4:=C2.o.size;have H4:=A0 h4;clear h4 B4;go_wp2_with fail
  refine(Dl H4.o).mono ?_;rintro e w5 ⟨rfl,h5,Cc⟩;have Eo:=A0 (Below.only (b:=b) Cc);have C4:Hid (A7 b wr w5):=C2.o.trans Eo.o;have lw5:=C4.o.size;have H5:=A0 h5;clear h5 Cc;go_wp2_with fail
  refine(HX.o _ H5.o).mono ?_;rintro e w6 ⟨ty6,x6,rfl,h6,J4,hr6⟩;have HP6:=A0 J4;have Df:Hid (A7 b wr w6):=C4.o.trans HP6.o;have lw6:=Df.o.size;have HR6:=A0 hr6;have H6:=A0 h6;clear h6 J4 hr6;have hown5:w6.ownsRow 0 142 1 (.slice va vn vc) cs.length cs:=B3 HOwn.o.1 (fun k hk hl=>Df.o.block k hl (fun e=>hne (by rw[←e];exact hk)));go_wp2_with (at_builtin;refine K5 w6 #[.iface ty6 x6] 142 rfl (.tmp 14) (.tmp 17) 138 rfl 0 1 16 .nilIface Tryz.underlying138 Ut rfl (by omega) _ _ _ rfl rfl hown5 rfl (fun u hu=>by simp at hu;rw[hu];rfl) (by omega) (by omega) (Nat.zero_le _) ?_;intro g7 cap7 w7 hown7 hgrow7 hat7 hg7)
  replace hgrow7:w6.grownBy w7 (Value.slice va vn vc).ownBlock:=hgrow7;replace hat7:(Value.slice va vn vc).ownBlock=some g7\/g7=w6.heap.size+1:=hat7;have hrow:∀k,(Value.slice va vn vc).ownBlock=some k->k≠b/\k≠tb/\w.heap.size<=k:=fun k e=>by have h:w.heap.size<=k:=HOwn.o.2 k e;omega
  go_roundg m
  case measure=>omega
  case rel=>
   refine⟨E0 acc z.1,z.2,some ⟨g7,0,none⟩,cs.length+1,cap7,cs++[.iface ty6 x6],rfl,by omega,HZ2.o,PR.grown H6.o hgrow7 (fun e=>(hrow b e).1 rfl) (fun e=>(hrow tb e).2.1 rfl),(HOr.o.trans Df.o).grown hgrow7 (fun k e=>.inr (hrow k e).2.2),by simp;omega,⟨by simpa using hown7,fun k hk=>?_⟩,fun hb=>?_⟩
   ·simp only[Value.ownBlock,Option.some.injEq]at hk;rw[←hk];rcases hat7 with h|h
    ·exact(hrow g7 h).2.2
    ·show w.heap.size<=g7;omega
   ·exact Uv lb lwr (HRep.o Ae.o) Df.o (Al.weak (by omega) (HR6.o hb)) HOwn.o.1 hgrow7 hat7
end
section
set_option maxRecDepth 100000
open Go.RowKit
open Go.Deep (BT)
variable {b tb cap te:Nat}{ts:List Tk}{n:Nat}
theorem Al.blk{D:Nat->Prop}{w:World}{kd:Nat}(hk:kd=31\/kd=32){va:Option Addr}{vn vc:Nat}{cs:List Value}{f:BT A6}(ho:Co D w 142 1 (.slice va vn vc) cs.length cs)(hr:Al D w f cs):Al D w (nd (Ba kd 0) f) [.slice va vn vc]:=by
 refine Al.one ?_ hr;unfold Bo;rw[if_pos (show(Ba kd 0).kd=31\/(Ba kd 0).kd=32 from hk)];exact⟨⟨_,_,_,rfl⟩,ho⟩
theorem Abh(ih:Ii b tb cap te ts n)(w:World)(s:PS)(r:BT A6×PS)(hk:kT s=5)(hs:PR b tb cap te ts w s)(hp:Af (n+1) 9 0 .nil s=some r) :
  Calls Tryz.prog 186 #[.pointer (some ⟨b,0,none⟩)] w (H9 b tb cap te ts w r):=by
 obtain⟨x,hx,hr⟩:=Z7 hk hp;have HS:=A0 hs;have lb:=hs.lt;have HR:=A0 hr;have HXp:=A0 hx;have HW:Hid (Bb 5 s=Ao s):=by show _=_;unfold Bb;rw[if_pos hk]
 have HX:=A0 (fun(W:World) (h:PR b tb cap te ts W (Bb 26 (Bb 1 (Ao s))))=>Kk ih W (Bb 26 (Bb 1 (Ao s))) x h hx);clear hp hs hk hx hr;go_enter Tryz.func186,Tryz.ntmps186;go_wp2_with fail
 refine(Is HS.o 5).mono ?_;rintro e w1 ⟨kk1,J5,nn1,S1,rfl,Fl,h1,Bw⟩;have Bu:=A0 Bw;have Az:Hid (A7 b w w1):=(A7.refl b w).trans Bu.o;have Dk:=Az.o.size;have J9:=A0 Fl;rw[HW.o]at h1;have H1:=A0 h1;clear h1 Bw Fl;go_wp2_with fail
 refine(Rj H1.o).mono ?_;rintro e w2 ⟨Gq,S2,rfl,Es,h2,B8⟩;have Ay:=A0 B8;have Be:Hid (A7 b w w2):=Az.o.trans Ay.o;have Ey:=Be.o.size;have Eb:=A0 Es;have H2:=A0 h2;clear h2 B8 Es;have I6:=A0 (heap_alloc_new w2 (.cells #[.int .i64 Gq,.string ⟨S2.toArray⟩] 148));have lw2b:w2.heap.size<(w2.alloc (.cells #[.int .i64 Gq,.string ⟨S2.toArray⟩] 148)).heap.size:=by simp
 go_wp2_with fail
 refine(Is (PR.alloc H2.o _) 26).mono ?_;rintro e w3 ⟨kk3,ln3,nn3,S3,rfl,htk3,h3,Cl⟩;have Bl:=A0 Cl;have Cg:Hid (A7 b w w3):=(Be.o.alloc _).trans Bl.o;have lw3:=Cg.o.size;have HTk3:=A0 htk3;have H3:=A0 h3;clear h3 Cl htk3;have Ip:=A0 (Bl.o.blk I6.o (by omega));go_wp2_with fail
 refine(HX.o _ H3.o).mono ?_;rintro e w4 ⟨ty4,x4,rfl,h4,Cf,Fv⟩;have Cy:=A0 Cf;have C2:Hid (A7 b w w4):=Cg.o.trans Cy.o;have lw4:=C2.o.size;have Cm:=A0 Fv;have H4:=A0 h4;clear h4 Cf Fv;have HT4:=A0 (Cy.o.blk Ip.o (by omega));go_wp2_with fail
 refine(Is H4.o 25).mono ?_;rintro e w5 ⟨kk5,ln5,nn5,S5,rfl,htk5,h5,E5⟩;have Eo:=A0 E5;have C4:Hid (A7 b w w5):=C2.o.trans Eo.o;have lw5:=C4.o.size;have HTk5:=A0 htk5;have H5:=A0 h5;clear h5 E5 htk5;have hT5:=Eo.o.blk HT4.o (by omega);have y0:=A2 hT5 0 _ rfl;have y1:=A2 hT5 1 _ rfl;have ly:=A4 hT5;clear hT5;go_wp2;go_ret;rw[HR.o];refine Hi (l:=⟨21,(B1 (Ao s)).line,(B1 (Ao s)).s,0,[]⟩) (ch:=x.1) (ks:=[.iface ty4 x4]) H5.o C4.o rfl (by simp) rfl rfl (fun hb=>⟨⟨_,?_,rfl⟩,Al.later (by omega) (by omega) Eo.o (Cm.o (Lb hb))⟩);have hg:=Lb (Ou H3.o.M8 HXp.o (Lb hb));rw[(Eb.o hg).1,(Eb.o hg).2];rfl
theorem A94(ih:Ii b tb cap te ts n)(w:World)(s:PS)(r:BT A6×PS)(hk:kT s=8)(hs:PR b tb cap te ts w s)(hp:Af (n+1) 9 0 .nil s=some r) :
  Calls Tryz.prog 132 #[.pointer (some ⟨b,0,none⟩)] w (H9 b tb cap te ts w r):=by
 obtain⟨x,bl,hx,hbl,hr⟩:=A17 hk hp;have HS:=A0 hs;have lb:=hs.lt;have Ae:Hid (s.bad=0):=hs.Gt (by omega);have HR:=A0 hr;have HBp:=A0 hbl;have t5:((kT s:Int)==5)=false:=kn (c:=5) rfl (by omega);have t6:((kT s:Int)==6)=false:=kn (c:=6) rfl (by omega);have t8:((kT s:Int)==8)=true:=ke (c:=8) rfl hk;have HBl:=A0 (fun(W:World) (h:PR b tb cap te ts W x.2)=>ih.block W x.2 bl h hbl);have HX:=A0 (fun(W:World) (h:PR b tb cap te ts W (Ao s))=>Kk ih W (Ao s) x h hx);have I9:=L9;clear hp hs hk hx hbl hr;go_enter Tryz.func132,Tryz.ntmps132;go_wp2_with fail
 refine(Dl HS.o).mono ?_;rintro e w1 ⟨rfl,h1,A1⟩;have Bu:=A0 (Below.only (b:=b) A1);have Az:Hid (A7 b w w1):=(A7.refl b w).trans Bu.o;have Dk:=Az.o.size;have H1:=A0 h1;clear h1 A1;go_wp2_with fail
 refine(Gv H1.o).mono ?_;rintro e w2 ⟨Gq,nn2,S2,rfl,Es,h2,B8⟩;have Ay:=A0 B8;have Be:Hid (A7 b w w2):=Az.o.trans Ay.o;have Ey:=Be.o.size;have Eb:=A0 Es;have H2:=A0 h2;clear h2 B8 Es;go_wp2_with fail
 refine(HX.o _ H2.o).mono ?_;rintro e w3 ⟨ty3,x3,rfl,h3,Cl,C7⟩;have Bl:=A0 Cl;have Cg:Hid (A7 b w w3):=Be.o.trans Bl.o;have lw3:=Cg.o.size;have C1:=A0 C7;have H3:=A0 h3;clear h3 Cl C7;go_wp2_with fail
 refine(HBl.o _ H3.o).mono ?_;rintro e w4 ⟨va4,vn4,vc4,cs4,rfl,hown4,h4,Cf,Fv⟩;have Cy:=A0 Cf;have C2:Hid (A7 b w w4):=Cg.o.trans Cy.o;have lw4:=C2.o.size;have Cm:=A0 Fv;have HOwn4:=A0 hown4;have H4:=A0 h4;clear h4 Cf Fv hown4;go_wp2;go_ret;rw[HR.o];refine Hi (l:=Ba 23 (B1 s).line) (ch:=E0 x.1 (nd (Ba 32 0) bl.1)) (ks:=[.iface ty3 x3,.slice va4 vn4 vc4]) H4.o C2.o rfl (by simp[Ba]) rfl rfl (fun hb=>⟨⟨_,_,_,_,_,?_,rfl⟩,Al.app _ _ [_] [_] (Al.later (by omega) (by omega) Cy.o (C1.o (Ou H3.o.M8 HBp.o hb))) (Al.blk (.inr rfl) (HOwn4.o.keep (fun k hk _=>⟨rfl,by have h:w3.heap.size<=k:=hk;omega⟩)) (Al.weak (by omega) (Cm.o hb)))⟩);rw[(Eb.o Ae.o).1];rfl
theorem A5l(ih:Ii b tb cap te ts n)(w:World)(s:PS)(r:BT A6×PS)(hk:kT s=6)(x bl:BT A6×PS)(hx:Af n 0 0 .nil (Ao s)=some x)(hbl:Af n 7 0 .nil x.2=some bl)(h7:kT bl.2≠7)(hr:r=(nd (Ba 22 (B1 s).line) (E0 x.1 (nd (Ba 31 0) bl.1)),bl.2))(hs:PR b tb cap te ts w s) :
  Calls Tryz.prog 187 #[.pointer (some ⟨b,0,none⟩)] w (H9 b tb cap te ts w r):=by
 have HS:=A0 hs;have lb:=hs.lt;have Ae:Hid (s.bad=0):=hs.Gt (by omega);have HR:=A0 hr;have HBp:=A0 hbl;have HBl:=A0 (fun(W:World) (h:PR b tb cap te ts W x.2)=>ih.block W x.2 bl h hbl);have HX:=A0 (fun(W:World) (h:PR b tb cap te ts W (Ao s))=>Kk ih W (Ao s) x h hx);have I9:=L9;have tk:(kT bl.2==7)=false:=by simpa using h7
 have HM:Hid (Hq 7 bl.2=bl.2):=by show _=_;unfold Hq;rw[if_neg h7]
 clear hs hk hx hbl hr h7;go_enter Tryz.func187,Tryz.ntmps187;go_wp2_with fail
 refine(Gv HS.o).mono ?_;rintro e w1 ⟨J5,nn1,S1,rfl,Fl,h1,Bw⟩;have Bu:=A0 Bw;have Az:Hid (A7 b w w1):=(A7.refl b w).trans Bu.o;have Dk:=Az.o.size;have J9:=A0 Fl;have H1:=A0 h1;clear h1 Bw Fl;go_wp2_with fail
 refine(HX.o _ H1.o).mono ?_;rintro e w2 ⟨I4,x2,rfl,h2,B8,B0⟩;have Ay:=A0 B8;have Be:Hid (A7 b w w2):=Az.o.trans Ay.o;have Ey:=Be.o.size;have C9:=A0 B0;have H2:=A0 h2;clear h2 B8 B0;go_wp2_with fail
 refine(HBl.o _ H2.o).mono ?_;rintro e w3 ⟨va3,vn3,vc3,cs3,rfl,Im,h3,Cl,C7⟩;have Bl:=A0 Cl;have Cg:Hid (A7 b w w3):=Be.o.trans Bl.o;have lw3:=Cg.o.size;have C1:=A0 C7;have HOwn3:=A0 Im;have H3:=A0 h3;clear h3 Cl C7 Im;have Ip:=A0 (heap_alloc_new w3 (.cells #[.int .i64 J5,.iface I4 x2,.slice va3 vn3 vc3,.slice none 0 0] 314));have lw3b:w3.heap.size<(w3.alloc (.cells #[.int .i64 J5,.iface I4 x2,.slice va3 vn3 vc3,.slice none 0 0] 314)).heap.size:=by simp
 go_wp2_with fail
 refine(Mi (PR.alloc H3.o _) 7).mono ?_;rintro e w4 ⟨rfl,h4,Cf⟩;have Cy:=A0 Cf;have C2:Hid (A7 b w w4):=(Cg.o.alloc _).trans Cy.o;have lw4:=C2.o.size;rw[tk];rw[HM.o]at h4;have H4:=A0 h4;clear h4 Cf;have HT4:=A0 (Cy.o.blk Ip.o (by omega));go_wp2;go_ret;rw[HR.o];refine⟨_,_,rfl,H4.o,C2.o,fun hb=>?_⟩;have k2:∀g,w1.heap.size<=g->g<w2.heap.size->w4.heap[g]?=w2.heap[g]?/\w.heap.size<=g:=fun g hg hl=>⟨((Bl.o.alloc _).trans Cy.o).block g hl (by omega),by omega⟩;have k3:∀g,w2.heap.size<=g->g<w3.heap.size->w4.heap[g]?=w3.heap[g]?/\w.heap.size<=g:=fun g hg hl=>⟨(((A7.refl b w3).alloc _).trans Cy.o).block g hl (by omega),by omega⟩;refine Al.one (l:=Ba 22 (B1 s).line) (ks:=[.iface I4 x2,.slice va3 vn3 vc3]) (Bo.new (by simp[Ba]) (by show w.heap.size<=w3.heap.size;omega) HT4.o ⟨_,_,_,_,_,_,_,_,?_,.inl ⟨rfl,rfl⟩⟩) ?_
 ·rw[(J9.o Ae.o).1];rfl
 ·exact Al.app _ _ [_] [_] (Al.keep k2 _ _ (C9.o (Ou H2.o.M8 HBp.o hb))) (Al.blk (.inl rfl) (HOwn3.o.keep k3) (Al.keep k3 _ _ (C1.o hb)))
theorem Am0(ih:Ii b tb cap te ts n)(w:World)(s:PS)(r:BT A6×PS)(hk:kT s=6)(x bl:BT A6×PS)(hx:Af n 0 0 .nil (Ao s)=some x)(hbl:Af n 7 0 .nil x.2=some bl)(h7:kT bl.2=7)(c:BT A6×PS)(hc:Af n 7 0 .nil (Ao bl.2)=some c)(hr:r=(nd (Ba 22 (B1 s).line) (E0 x.1 (E0 (nd (Ba 31 0) bl.1) (nd (Ba 31 0) c.1))),c.2))(hs:PR b tb cap te ts w s) :
  Calls Tryz.prog 187 #[.pointer (some ⟨b,0,none⟩)] w (H9 b tb cap te ts w r):=by
 have HS:=A0 hs;have lb:=hs.lt;have Ae:Hid (s.bad=0):=hs.Gt (by omega);have HR:=A0 hr;have HBp:=A0 hbl;have HBl:=A0 (fun(W:World) (h:PR b tb cap te ts W x.2)=>ih.block W x.2 bl h hbl);have HX:=A0 (fun(W:World) (h:PR b tb cap te ts W (Ao s))=>Kk ih W (Ao s) x h hx);have I9:=L9;have tk:(kT bl.2==7)=true:=by simpa using h7
 have HM:Hid (Hq 7 bl.2=Ao bl.2):=by show _=_;unfold Hq;rw[if_pos h7]
 have HCl:=A0 (fun(W:World) (h:PR b tb cap te ts W (Ao bl.2))=>ih.block W (Ao bl.2) c h hc);have HCp:=A0 hc;clear hs hk hx hbl hr h7 hc;go_enter Tryz.func187,Tryz.ntmps187;go_wp2_with fail
 refine(Gv HS.o).mono ?_;rintro e w1 ⟨J5,nn1,S1,rfl,Fl,h1,Bw⟩;have Bu:=A0 Bw;have Az:Hid (A7 b w w1):=(A7.refl b w).trans Bu.o;have Dk:=Az.o.size;have J9:=A0 Fl;have H1:=A0 h1;clear h1 Bw Fl;go_wp2_with fail
 refine(HX.o _ H1.o).mono ?_;rintro e w2 ⟨I4,x2,rfl,h2,B8,B0⟩;have Ay:=A0 B8;have Be:Hid (A7 b w w2):=Az.o.trans Ay.o;have Ey:=Be.o.size;have C9:=A0 B0;have H2:=A0 h2;clear h2 B8 B0;go_wp2_with fail
 refine(HBl.o _ H2.o).mono ?_;rintro e w3 ⟨va3,vn3,vc3,cs3,rfl,Im,h3,Cl,C7⟩;have Bl:=A0 Cl;have Cg:Hid (A7 b w w3):=Be.o.trans Bl.o;have lw3:=Cg.o.size;have C1:=A0 C7;have HOwn3:=A0 Im;have H3:=A0 h3;clear h3 Cl C7 Im;have Ip:=A0 (heap_alloc_new w3 (.cells #[.int .i64 J5,.iface I4 x2,.slice va3 vn3 vc3,.slice none 0 0] 314));have lw3b:w3.heap.size<(w3.alloc (.cells #[.int .i64 J5,.iface I4 x2,.slice va3 vn3 vc3,.slice none 0 0] 314)).heap.size:=by simp
 go_wp2_with fail
 refine(Mi (PR.alloc H3.o _) 7).mono ?_;rintro e w4 ⟨rfl,h4,Cf⟩;have Cy:=A0 Cf;have C2:Hid (A7 b w w4):=(Cg.o.alloc _).trans Cy.o;have lw4:=C2.o.size;rw[tk];rw[HM.o]at h4;have H4:=A0 h4;clear h4 Cf;have HT4:=A0 (Cy.o.blk Ip.o (by omega));obtain⟨y0,y1,y2,y3,fy,ly⟩:=Dw HT4.o;go_wp2_with fail
 refine(HCl.o _ H4.o).mono ?_;rintro e w5 ⟨va5,vn5,vc5,cs5,rfl,hown5,h5,E5,hr5⟩;have Eo:=A0 E5;have C4:Hid (A7 b w w5):=C2.o.trans Eo.o;have lw5:=C4.o.size;have HR5:=A0 hr5;have HOwn5:=A0 hown5;have H5:=A0 h5;clear h5 E5 hr5 hown5;have HT5:=A0 (Eo.o.blk HT4.o (by omega));clear y0 y1 y2 y3 fy ly;obtain⟨y0,y1,y2,y3,fy,ly⟩:=Dw HT5.o;go_wp2;go_ret;rw[HR.o];have hold:∀k,k≠w3.heap.size->(w5.setCell ⟨w3.heap.size,3,none⟩ (.slice va5 vn5 vc5)).heap[k]?=w5.heap[k]?:=fun k hk=>Below.heap_setCell _ _ _ _ (by exact hk);refine⟨_,_,rfl,PR.other H5.o (by show b≠w3.heap.size;omega) (by show tb≠w3.heap.size;omega) _,A7.set (p:=⟨w3.heap.size,3,none⟩) C4.o (.inr (by show w.heap.size<=w3.heap.size;omega)) _,fun hb=>?_⟩;have B4:bl.2.bad=0:=by have:=Ou H4.o.M8 HCp.o hb;rw[Q6]at this;exact this
 have hnew:(w5.setCell ⟨w3.heap.size,3,none⟩ (.slice va5 vn5 vc5)).heap[w3.heap.size]?=some (.cells #[.int .i64 J5,.iface I4 x2,.slice va3 vn3 vc3,.slice va5 vn5 vc5] 314 (0,0)):=by
  have:=heap_set (j:=3) HT5.o (.slice va5 vn5 vc5);simpa using this
 have k2:∀g,w1.heap.size<=g->g<w2.heap.size->(w5.setCell ⟨w3.heap.size,3,none⟩ (.slice va5 vn5 vc5)).heap[g]?=w2.heap[g]?/\w.heap.size<=g:=fun g hg hl=>⟨(hold g (by have:=Bl.o.size;omega)).trans (((Bl.o.alloc _).trans (Cy.o.trans Eo.o)).block g hl (by omega)),by omega⟩;have k3:∀g,w2.heap.size<=g->g<w3.heap.size->(w5.setCell ⟨w3.heap.size,3,none⟩ (.slice va5 vn5 vc5)).heap[g]?=w3.heap[g]?/\w.heap.size<=g:=fun g hg hl=>⟨(hold g (by omega)).trans ((((A7.refl b w3).alloc _).trans (Cy.o.trans Eo.o)).block g hl (by omega)),by omega⟩;have k5:∀g,w4.heap.size<=g->g<w5.heap.size->(w5.setCell ⟨w3.heap.size,3,none⟩ (.slice va5 vn5 vc5)).heap[g]?=w5.heap[g]?/\w.heap.size<=g:=fun g hg hl=>⟨hold g (by have:=A4 HT4.o;omega),by omega⟩;refine Al.one (l:=Ba 22 (B1 s).line) (ks:=[.iface I4 x2,.slice va3 vn3 vc3,.slice va5 vn5 vc5]) (Bo.new (by simp[Ba]) (by show w.heap.size<=w3.heap.size;omega) hnew ⟨_,_,_,_,_,_,_,_,?_,.inr rfl⟩) ?_
 ·rw[(J9.o Ae.o).1];rfl
 ·refine Al.app _ _ [_] [_,_] (Al.keep k2 _ _ (C9.o (Ou H2.o.M8 HBp.o B4))) (Al.app _ _ [_] [_] (Al.blk (.inl rfl) (HOwn3.o.keep k3) (Al.keep k3 _ _ (C1.o B4))) (Al.blk (.inl rfl) (HOwn5.o.keep k5) (Al.keep k5 _ _ (HR5.o hb))))
end
section
set_option maxRecDepth 100000
open Go.RowKit
open Go.Deep (BT)
theorem Dv{P:Program}{T e xT:TypeId}(hu:P.underlying T=some (.pointer e))(v:Value)(w:World):(Instr.typeAssert (.iface T v) xT T true).run P w=.ok (.tuple #[v,.bool true]) w:=by
 simp[Instr.typeAssert,run_underlying hu]
theorem Bc{P:Program}{T e t xT:TypeId}{z:Value}(hu:P.underlying T=some (.pointer e))(hz:(P.info? T).map (·.zero)=some (some z))(h:t≠T)(v:Value)(w:World):(Instr.typeAssert (.iface t v) xT T true).run P w=.ok (.tuple #[z,.bool false]) w:=by
 obtain⟨i,hi,hz⟩:∃i,P.info? T=some i/\i.zero=some z:=by
  cases hi:P.info? T with
  | none=>rw[hi]at hz;cases hz
  | some i=>rw[hi]at hz;exact⟨i,rfl,Option.some.inj hz⟩
 simp[Instr.typeAssert,run_underlying hu,h,zeroValue,typeInfo,hi,hz]
def Ng(t:TypeId):Bool:=t==238||t==310
theorem Rq(t:TypeId)(x:Value)(w:World):Calls Tryz.prog 233 #[.iface t x] w fun e w'=>e=.returned (.bool (Ng t))/\w'=w:=by
 by_cases h1:t=238
 ·subst h1;have a1:=fun w=>Dv (P:=Tryz.prog) (xT:=150) Tryz.underlying238 x w;have a2:=fun w=>Bc (P:=Tryz.prog) (t:=238) (T:=310) (xT:=150) (z:=.pointer none) Tryz.underlying310 (by kernel_rfl) (by decide) x w;go_enter Tryz.func233,Tryz.ntmps233;go_wp2;go_ret;exact⟨rfl,rfl⟩
 by_cases h2:t=310
 ·subst h2;have a1:=fun w=>Bc (P:=Tryz.prog) (t:=310) (T:=238) (xT:=150) (z:=.pointer none) Tryz.underlying238 (by kernel_rfl) (by decide) x w;have a2:=fun w=>Dv (P:=Tryz.prog) (xT:=150) Tryz.underlying310 x w;clear h1;go_enter Tryz.func233,Tryz.ntmps233;go_wp2;go_ret;exact⟨rfl,rfl⟩
 ·have a1:=fun w=>Bc (P:=Tryz.prog) (t:=t) (T:=238) (xT:=150) (z:=.pointer none) Tryz.underlying238 (by kernel_rfl) h1 x w;have a2:=fun w=>Bc (P:=Tryz.prog) (t:=t) (T:=310) (xT:=150) (z:=.pointer none) Tryz.underlying310 (by kernel_rfl) h2 x w;have HC:Hid (Ng t=false):=by
   show _=_;unfold Ng;rw[beq_eq_false_iff_ne.2 h1,beq_eq_false_iff_ne.2 h2];rfl
  clear h1 h2;go_enter Tryz.func233,Tryz.ntmps233;go_wp2;go_ret;exact⟨Qi HC.o.symm,rfl⟩
theorem A4c(kd:Nat):Ng (Cb kd)=(kd==6||kd==12):=by
 by_cases h6:kd=6
 ·subst h6;rfl
 by_cases h12:kd=12
 ·subst h12;rfl
 rw[beq_eq_false_iff_ne.2 h6,beq_eq_false_iff_ne.2 h12];unfold Cb;split <;> first|rfl|(exfalso;omega)
theorem Vy{D:Nat->Prop}{W:World}{f v:BT A6}{t:TypeId}{x vv:Value}(h:Al D W f [.iface t x])(hv:Al D W v [vv]) :
  Ng t=Q1 f/\(Q1 f=true->∃l ch ks,setNode f v=nd l ch/\¬(l.kd=31\/l.kd=32)/\Cb l.kd=268/\De l.kd=322/\Cr D W l #[.iface t x,vv] ks/\Al D W ch ks):=by
 cases f with
 | nil=>rw[Al]at h;cases h
 | node x0 y0 l ch sib=>
  obtain⟨v0,ks,rest,e,h1,h2,h3⟩:=h;injection e with e1 e2;subst e1 e2;unfold Bo at h1;split at h1
  ·obtain⟨⟨_,_,_,e⟩,_⟩:=h1;cases e
  ·obtain⟨b2,cs,e,hD,hb,hl⟩:=h1;injection e with e1 e2;subst e1 e2;refine⟨A4c l.kd,fun hc=>?_⟩;have hc':(l.kd==6||l.kd==12)=true:=hc;simp only[Bool.or_eq_true,beq_iff_eq]at hc';rcases hc' with h6|h12
   ·unfold Cr at hl;rw[h6]at hl;simp only at hl;obtain⟨rfl,rfl⟩:=hl;have hb':W.heap[b2]?=some (.cells #[Gc l.line,Kw l.s] 240 (0,0)):=by rw[hb,h6];rfl
    refine⟨⟨28,l.line,l.s,0,[]⟩,v,[vv],?_,by simp,rfl,rfl,⟨b2,vv,?_,hD,hb',rfl⟩,hv⟩
    ·unfold setNode Jd;rw[if_pos h6]
    ·rw[h6];rfl
   ·unfold Cr at hl;rw[h12]at hl;simp only at hl;obtain⟨a,b,rfl,rfl⟩:=hl;have hb':W.heap[b2]?=some (.cells #[Gc l.line,a,b] 312 (0,0)):=by rw[hb,h12];rfl
    refine⟨Ba 29 l.line,E0 ch v,[a,b,vv],?_,by simp[Ba],rfl,rfl,⟨b2,a,b,vv,?_,hD,hb',rfl⟩,Al.app _ _ [a,b] [vv] h2 hv⟩
    ·unfold setNode Jd W6;rw[if_neg (show ¬l.kd=6 by omega)]
    ·rw[h12];rfl
end
section
set_option maxRecDepth 100000
open Go.RowKit
open Go.Deep (BT)
variable {b tb cap te:Nat}{ts:List Tk}{n:Nat}
theorem Io{w:World}{g:Nat}{a0 a1:Value}{t:TypeId}(h:w.heap[g]?=some (.cells #[a0,a1] t (0,0))) :
  w.cell? ⟨g,0,none⟩=some a0/\w.cell? ⟨g,1,none⟩=some a1/\(∀o,w.frozen? ⟨g,o,none⟩=false)/\g<w.heap.size:=
 ⟨A2 h 0 _ rfl,A2 h 1 _ rfl,Bd h,A4 h⟩
def Oi(b tb cap te:Nat)(ts:List Tk)(w:World)(r:BT A6×PS)(e:Ending)(w':World):Prop:=
 ∃r':BT A6×PS,H9 b tb cap te ts w r' e w'/\r.1=r'.1/\r.2=Bb 25 r'.2
theorem Amu(w:World)(s:PS)(r:BT A6×PS)(hk:kT s=9)(Cj:kT (Ao s)=25)(hs:PR b tb cap te ts w s)(hp:Af (n+1) 9 0 .nil s=some r) :
  Calls Tryz.prog 190 #[.pointer (some ⟨b,0,none⟩)] w (Oi b tb cap te ts w r):=by
 have HS:=A0 hs;have lb:=hs.lt;have I9:=L9;have HR:=A0 (A20 hk Cj hp);have Ae:Hid (s.bad=0):=hs.Gt (by omega);have t25:((kT (Ao s):Int) !=25)=false:=by rw[Cj];rfl
 have t9:((kT s:Int)==9)=true:=ke (c:=9) rfl hk;clear hp hs hk Cj;go_enter Tryz.func190,Tryz.ntmps190;go_wp2_with fail
 refine(Dl HS.o).mono ?_;rintro e w1 ⟨rfl,h1,A1⟩;have Bu:=A0 (Below.only (b:=b) A1);have Az:Hid (A7 b w w1):=(A7.refl b w).trans Bu.o;have Dk:=Az.o.size;have H1:=A0 h1;clear h1 A1;go_wp2_with fail
 refine(Gv H1.o).mono ?_;rintro e w2 ⟨Gq,nn2,S2,rfl,Es,h2,B8⟩;have Ay:=A0 B8;have Be:Hid (A7 b w w2):=Az.o.trans Ay.o;have Ey:=Be.o.size;have Eb:=A0 Es;have H2:=A0 h2;clear h2 B8 Es;have I6:=A0 (heap_alloc_new w2 (.cells #[.int .i64 Gq,.nilIface] 318));go_wp2_with fail
 refine(Dl (PR.alloc H2.o _)).mono ?_;rintro e w3 ⟨rfl,h3,Aj⟩;have Bl:=A0 (Below.only (b:=b) Aj);have Cg:Hid (A7 b w w3):=(Be.o.alloc _).trans Bl.o;have lw3:=Cg.o.size;have H3:=A0 h3;clear h3 Aj;go_wp2;go_ret;rw[HR.o];refine⟨(nd (Ba 24 (B1 s).line) .nil,Ao s),⟨_,_,rfl,H3.o,Cg.o,fun hb=>?_⟩,rfl,rfl⟩;refine Al.one (l:=Ba 24 (B1 s).line) (ks:=[]) (Bo.new (by simp[Ba]) (by show w.heap.size<=w2.heap.size;omega) (Bl.o.blk I6.o (by omega)) ⟨_,?_,.inl ⟨rfl,rfl⟩⟩) rfl;rw[(Eb.o Ae.o).1];rfl
theorem Amf(ih:Ii b tb cap te ts n)(w:World)(s:PS)(r:BT A6×PS)(hk:kT s=9)(Cj:kT (Ao s)≠25)(hs:PR b tb cap te ts w s)(hp:Af (n+1) 9 0 .nil s=some r) :
  Calls Tryz.prog 190 #[.pointer (some ⟨b,0,none⟩)] w (Oi b tb cap te ts w r):=by
 have HS:=A0 hs;have lb:=hs.lt;have I9:=L9;obtain⟨x,hx,hr⟩:=A28 hk Cj hp;have HR:=A0 hr;have Ae:Hid (s.bad=0):=hs.Gt (by omega);have t25:((kT (Ao s):Int) !=25)=true:=by simp;omega
 have HX:=A0 (fun(W:World) (h:PR b tb cap te ts W (Ao s))=>Kk ih W (Ao s) x h hx);have t9:((kT s:Int)==9)=true:=ke (c:=9) rfl hk;clear hp hs hk Cj hx hr;go_enter Tryz.func190,Tryz.ntmps190;go_wp2_with fail
 refine(Dl HS.o).mono ?_;rintro e w1 ⟨rfl,h1,A1⟩;have Bu:=A0 (Below.only (b:=b) A1);have Az:Hid (A7 b w w1):=(A7.refl b w).trans Bu.o;have Dk:=Az.o.size;have H1:=A0 h1;clear h1 A1;go_wp2_with fail
 refine(Gv H1.o).mono ?_;rintro e w2 ⟨Gq,nn2,S2,rfl,Es,h2,B8⟩;have Ay:=A0 B8;have Be:Hid (A7 b w w2):=Az.o.trans Ay.o;have Ey:=Be.o.size;have Eb:=A0 Es;have H2:=A0 h2;clear h2 B8 Es;have I6:=A0 (heap_alloc_new w2 (.cells #[.int .i64 Gq,.nilIface] 318));have lw2b:w2.heap.size<(w2.alloc (.cells #[.int .i64 Gq,.nilIface] 318)).heap.size:=by simp
 go_wp2_with fail
 refine(Dl (PR.alloc H2.o _)).mono ?_;rintro e w3 ⟨rfl,h3,Aj⟩;have Bl:=A0 (Below.only (b:=b) Aj);have Cg:Hid (A7 b w w3):=(Be.o.alloc _).trans Bl.o;have lw3:=Cg.o.size;have H3:=A0 h3;clear h3 Aj;have Ip:=A0 (Bl.o.blk I6.o (by omega));go_wp2_with fail
 refine(HX.o _ H3.o).mono ?_;rintro e w4 ⟨ty4,x4,rfl,h4,Cf,Fv⟩;have Cy:=A0 Cf;have C2:Hid (A7 b w w4):=Cg.o.trans Cy.o;have lw4:=C2.o.size;have Cm:=A0 Fv;have H4:=A0 h4;clear h4 Cf Fv;have HT4:=A0 (Cy.o.blk Ip.o (by omega));obtain⟨y0,y1,fy,ly⟩:=Io HT4.o;go_wp2;go_ret;rw[HR.o];have hold:∀k,k≠w2.heap.size->(w4.setCell ⟨w2.heap.size,1,none⟩ (.iface ty4 x4)).heap[k]?=w4.heap[k]?:=fun k hk=>Below.heap_setCell _ _ _ _ (by exact hk);refine⟨(nd (Ba 24 (B1 s).line) x.1,x.2),⟨_,_,rfl,PR.other H4.o (by show b≠w2.heap.size;omega) (by show tb≠w2.heap.size;omega) _,A7.set (p:=⟨w2.heap.size,1,none⟩) C2.o (.inr (by show w.heap.size<=w2.heap.size;omega)) _,fun hb=>?_⟩,rfl,rfl⟩;have hnew:(w4.setCell ⟨w2.heap.size,1,none⟩ (.iface ty4 x4)).heap[w2.heap.size]?=some (.cells #[.int .i64 Gq,.iface ty4 x4] 318 (0,0)):=by
  have:=heap_set (j:=1) HT4.o (.iface ty4 x4);simpa using this
 have lw3b:=A4 Ip.o;refine Al.one (l:=Ba 24 (B1 s).line) (ks:=[.iface ty4 x4]) (Bo.new (by simp[Ba]) (by show w.heap.size<=w2.heap.size;omega) hnew ⟨_,?_,.inr rfl⟩) (Al.keep (fun g (hg:w3.heap.size<=g) _=>⟨hold g (by omega),by omega⟩) _ _ (Cm.o hb));rw[(Eb.o Ae.o).1];rfl
theorem A85(w:World)(s:PS)(r:BT A6×PS)(hk:kT s=10)(hs:PR b tb cap te ts w s)(hp:Af (n+1) 9 0 .nil s=some r) :
  Calls Tryz.prog 190 #[.pointer (some ⟨b,0,none⟩)] w (Oi b tb cap te ts w r):=by
 have HS:=A0 hs;have lb:=hs.lt;have I9:=L9;have HR:=A0 (s9 hk hp);have Ae:Hid (s.bad=0):=hs.Gt (by omega);have t9:((kT s:Int)==9)=false:=kn (c:=9) rfl (by omega);have t10:((kT s:Int)==10)=true:=ke (c:=10) rfl hk;clear hp hs hk;go_enter Tryz.func190,Tryz.ntmps190;go_wp2_with fail
 refine(Dl HS.o).mono ?_;rintro e w1 ⟨rfl,h1,A1⟩;have Bu:=A0 (Below.only (b:=b) A1);have Az:Hid (A7 b w w1):=(A7.refl b w).trans Bu.o;have Dk:=Az.o.size;have H1:=A0 h1;clear h1 A1;go_wp2_with fail
 refine(Gv H1.o).mono ?_;rintro e w2 ⟨Gq,nn2,S2,rfl,Es,h2,B8⟩;have Ay:=A0 B8;have Be:Hid (A7 b w w2):=Az.o.trans Ay.o;have Ey:=Be.o.size;have Eb:=A0 Es;have H2:=A0 h2;clear h2 B8 Es;go_wp2;go_ret;rw[HR.o];refine⟨(nd (Ba 25 (B1 s).line) .nil,Ao s),Hi (l:=Ba 25 (B1 s).line) (ch:=.nil) (ks:=[]) H2.o Be.o rfl (by simp[Ba]) rfl rfl (fun _=>⟨⟨?_,rfl⟩,rfl⟩),rfl,rfl⟩;rw[(Eb.o Ae.o).1];rfl
theorem Aa1(w:World)(s:PS)(r:BT A6×PS)(hk:kT s=11)(hs:PR b tb cap te ts w s)(hp:Af (n+1) 9 0 .nil s=some r) :
  Calls Tryz.prog 190 #[.pointer (some ⟨b,0,none⟩)] w (Oi b tb cap te ts w r):=by
 have HS:=A0 hs;have lb:=hs.lt;have I9:=L9;have HR:=A0 (A2g hk hp);have Ae:Hid (s.bad=0):=hs.Gt (by omega);have t9:((kT s:Int)==9)=false:=kn (c:=9) rfl (by omega);have t10:((kT s:Int)==10)=false:=kn (c:=10) rfl (by omega);have t11:((kT s:Int)==11)=true:=ke (c:=11) rfl hk;clear hp hs hk;go_enter Tryz.func190,Tryz.ntmps190;go_wp2_with fail
 refine(Dl HS.o).mono ?_;rintro e w1 ⟨rfl,h1,A1⟩;have Bu:=A0 (Below.only (b:=b) A1);have Az:Hid (A7 b w w1):=(A7.refl b w).trans Bu.o;have Dk:=Az.o.size;have H1:=A0 h1;clear h1 A1;go_wp2_with fail
 refine(Gv H1.o).mono ?_;rintro e w2 ⟨Gq,nn2,S2,rfl,Es,h2,B8⟩;have Ay:=A0 B8;have Be:Hid (A7 b w w2):=Az.o.trans Ay.o;have Ey:=Be.o.size;have Eb:=A0 Es;have H2:=A0 h2;clear h2 B8 Es;go_wp2;go_ret;rw[HR.o];refine⟨(nd (Ba 26 (B1 s).line) .nil,Ao s),Hi (l:=Ba 26 (B1 s).line) (ch:=.nil) (ks:=[]) H2.o Be.o rfl (by simp[Ba]) rfl rfl (fun _=>⟨⟨?_,rfl⟩,rfl⟩),rfl,rfl⟩;rw[(Eb.o Ae.o).1];rfl
theorem Alv(ih:Ii b tb cap te ts n)(w:World)(s:PS)(r:BT A6×PS)(hk:kT s=12)(hs:PR b tb cap te ts w s)(hp:Af (n+1) 9 0 .nil s=some r) :
  Calls Tryz.prog 190 #[.pointer (some ⟨b,0,none⟩)] w (Oi b tb cap te ts w r):=by
 have HS:=A0 hs;have lb:=hs.lt;have I9:=L9;obtain⟨x,hx,hr⟩:=Y4 hk hp;have HR:=A0 hr;have Ae:Hid (s.bad=0):=hs.Gt (by omega);have HX:=A0 (fun(W:World) (h:PR b tb cap te ts W (Ao s))=>Kk ih W (Ao s) x h hx);have t9:((kT s:Int)==9)=false:=kn (c:=9) rfl (by omega);have t10:((kT s:Int)==10)=false:=kn (c:=10) rfl (by omega);have t11:((kT s:Int)==11)=false:=kn (c:=11) rfl (by omega);have t12:((kT s:Int)==12)=true:=ke (c:=12) rfl hk;clear hp hs hk hx hr;go_enter Tryz.func190,Tryz.ntmps190;go_wp2_with fail
 refine(Dl HS.o).mono ?_;rintro e w1 ⟨rfl,h1,A1⟩;have Bu:=A0 (Below.only (b:=b) A1);have Az:Hid (A7 b w w1):=(A7.refl b w).trans Bu.o;have Dk:=Az.o.size;have H1:=A0 h1;clear h1 A1;go_wp2_with fail
 refine(Gv H1.o).mono ?_;rintro e w2 ⟨Gq,nn2,S2,rfl,Es,h2,B8⟩;have Ay:=A0 B8;have Be:Hid (A7 b w w2):=Az.o.trans Ay.o;have Ey:=Be.o.size;have Eb:=A0 Es;have H2:=A0 h2;clear h2 B8 Es;go_wp2_with fail
 refine(HX.o _ H2.o).mono ?_;rintro e w3 ⟨ty3,x3,rfl,h3,Cl,C7⟩;have Bl:=A0 Cl;have Cg:Hid (A7 b w w3):=Be.o.trans Bl.o;have lw3:=Cg.o.size;have C1:=A0 C7;have H3:=A0 h3;clear h3 Cl C7;go_wp2;go_ret;rw[HR.o];refine⟨(nd (Ba 27 (B1 s).line) x.1,x.2),Hi (l:=Ba 27 (B1 s).line) (ch:=x.1) (ks:=[.iface ty3 x3]) H3.o Cg.o rfl (by simp[Ba]) rfl rfl (fun hb=>⟨⟨_,?_,rfl⟩,Al.weak (by omega) (C1.o hb)⟩),rfl,rfl⟩;rw[(Eb.o Ae.o).1];rfl
theorem Afc(ih:Ii b tb cap te ts n)(w:World)(s:PS)(r:BT A6×PS)(hk:¬(5<=kT s/\kT s<=12/\kT s≠7))(hs:PR b tb cap te ts w s)(hp:Af (n+1) 9 0 .nil s=some r) :
  Calls Tryz.prog 190 #[.pointer (some ⟨b,0,none⟩)] w (Oi b tb cap te ts w r):=by
 have HS:=A0 hs;have lb:=hs.lt;have I9:=L9;obtain⟨x,hx,hc⟩:=Vr hk hp;have HC:=A0 hc;have HX:=A0 (fun(W:World) (h:PR b tb cap te ts W s)=>Kk ih W s x h hx);have t9:((kT s:Int)==9)=false:=kn (c:=9) rfl (by omega);have t10:((kT s:Int)==10)=false:=kn (c:=10) rfl (by omega);have t11:((kT s:Int)==11)=false:=kn (c:=11) rfl (by omega);have t12:((kT s:Int)==12)=false:=kn (c:=12) rfl (by omega);clear hp hs hk hx hc I9;go_enter Tryz.func190,Tryz.ntmps190;go_wp2_with fail
 refine(Dl HS.o).mono ?_;rintro e w1 ⟨rfl,h1,A1⟩;have Bu:=A0 (Below.only (b:=b) A1);have Az:Hid (A7 b w w1):=(A7.refl b w).trans Bu.o;have Dk:=Az.o.size;have H1:=A0 h1;clear h1 A1;go_wp2_with fail
 refine(HX.o _ H1.o).mono ?_;rintro e w2 ⟨I4,x2,rfl,h2,B8,B0⟩;have Ay:=A0 B8;have Be:Hid (A7 b w w2):=Az.o.trans Ay.o;have Ey:=Be.o.size;have C9:=A0 B0;have H2:=A0 h2;clear h2 B8 B0;rcases HC.o with⟨c1,c2,v,hv,hr⟩|⟨c1,c2,v,hv,hr⟩|⟨c2,hr⟩
 ·have Bi:x.2.bad=0:=H2.o.Gt (by omega);have tc:Ng I4=true:=by rw[(Vy (C9.o Bi) (C9.o Bi)).1];exact c1
  have HCs:=A0 c1;have HB:=A0 Bi;have HR:=A0 hr;have tk:(kT x.2==26)=true:=by simpa using c2
  have HM:Hid (Hq 26 x.2=Ao x.2):=by show _=_;unfold Hq;rw[if_pos c2]
  have HV:=A0 (fun(W:World) (h:PR b tb cap te ts W (Ao x.2))=>Kk ih W (Ao x.2) v h hv);clear c1 c2 hv hr HC Bi;go_wp2_with fail
  refine(Rq _ _ _).mono ?_;rintro e w' ⟨rfl,rfl⟩;rw[tc];go_wp2_with fail
  refine(Mi H2.o 26).mono ?_;rintro e w3 ⟨rfl,h3,Cl⟩;have Bl:=A0 Cl;have Cg:Hid (A7 b w w3):=Be.o.trans Bl.o;have lw3:=Cg.o.size;rw[tk];rw[HM.o]at h3;have H3:=A0 h3;clear h3 Cl;go_wp2_with fail
  refine(HV.o _ H3.o).mono ?_;rintro e w4 ⟨ty4,x4,rfl,h4,Cf,Fv⟩;have Cy:=A0 Cf;have C2:Hid (A7 b w w4):=Cg.o.trans Cy.o;have lw4:=C2.o.size;have Cm:=A0 Fv;have H4:=A0 h4;clear h4 Cf Fv;go_wp2;go_ret;rw[HR.o];refine⟨(setNode x.1 v.1,v.2),⟨_,_,rfl,PR.alloc H4.o _,C2.o.alloc _,fun hb=>?_⟩,rfl,rfl⟩;have r2:Al (fun g=>w.heap.size<=g) w4 x.1 [.iface I4 x2]:=Al.later (by omega) (by omega) (Bl.o.trans Cy.o) (C9.o HB.o);have r4:Al (fun g=>w.heap.size<=g) w4 v.1 [.iface ty4 x4]:=Al.weak (by omega) (Cm.o hb);obtain⟨l,ch,ks,e1,e2,e3,e4,e5,e6⟩:=(Vy r2 r4).2 HCs.o;have hcl:=Hi (w:=w) (W:=w4) (r:=(setNode x.1 v.1,v.2)) (l:=l) (ch:=ch) (ks:=ks) (cs:=#[.iface I4 x2,.iface ty4 x4]) (t:=268) (tt:=322) H4.o C2.o e1 e2 e3.symm e4.symm (fun _=>⟨e5,e6⟩);obtain⟨t',x',e',_,_,hrr⟩:=hcl;injection e' with e';rw[←e']at hrr;exact hrr hb
 ·have Bi:x.2.bad=0:=H2.o.Gt (by omega);have tc:Ng I4=false:=by rw[(Vy (C9.o Bi) (C9.o Bi)).1];exact c1
  have hf:(Ed x.2).bad≠0:=Wk (fun e=>(H2.o.lines e).1);have H8:v.2=Ed x.2:=Pn (Pt _ Bi) hf _ _ _ _ _ hv;have hw:Bb 25 v.2=Bb 25 x.2:=by
   rw[H8,X9 (by decide) hf (Pt _ Bi)];unfold Bb;rw[if_neg (by omega)]
  have HR:Hid (r=(nd (Ba 30 (Jd x.1).line) x.1,Bb 25 x.2)):=by show _=_;rw[hr,hw]
  clear c1 c2 hv hr HC Bi hf H8 hw;go_wp2_with fail
  refine(Rq _ _ _).mono ?_;rintro e w' ⟨rfl,rfl⟩;rw[tc];go_wp2;go_ret;rw[HR.o];refine⟨(nd (Ba 30 (Jd x.1).line) x.1,x.2),?_,rfl,rfl⟩;exact Hi (l:=Ba 30 (Jd x.1).line) (ch:=x.1) (ks:=[.iface I4 x2]) H2.o Be.o rfl (by simp[Ba]) rfl rfl (fun hb=>⟨⟨_,rfl,rfl⟩,Al.weak (by omega) (C9.o hb)⟩)
 ·have HR:=A0 hr;have tk:(kT x.2==26)=false:=by simpa using c2
  have HM:Hid (Hq 26 x.2=x.2):=by show _=_;unfold Hq;rw[if_neg c2]
  clear c2 hr HC;cases tc:Ng I4
  ·go_wp2_with fail
   refine(Rq _ _ _).mono ?_;rintro e w' ⟨rfl,rfl⟩;rw[tc];go_wp2;go_ret;rw[HR.o];refine⟨(nd (Ba 30 (Jd x.1).line) x.1,x.2),?_,rfl,rfl⟩;exact Hi (l:=Ba 30 (Jd x.1).line) (ch:=x.1) (ks:=[.iface I4 x2]) H2.o Be.o rfl (by simp[Ba]) rfl rfl (fun hb=>⟨⟨_,rfl,rfl⟩,Al.weak (by omega) (C9.o hb)⟩)
  ·go_wp2_with fail
   refine(Rq _ _ _).mono ?_;rintro e w' ⟨rfl,rfl⟩;rw[tc];go_wp2_with fail
   refine(Mi H2.o 26).mono ?_;rintro e w3 ⟨rfl,h3,Cl⟩;have Bl:=A0 Cl;have Cg:Hid (A7 b w w3):=Be.o.trans Bl.o;have lw3:=Cg.o.size;rw[tk];rw[HM.o]at h3;have H3:=A0 h3;clear h3 Cl;go_wp2;go_ret;rw[HR.o];refine⟨(nd (Ba 30 (Jd x.1).line) x.1,x.2),?_,rfl,rfl⟩;exact Hi (l:=Ba 30 (Jd x.1).line) (ch:=x.1) (ks:=[.iface I4 x2]) H3.o Cg.o rfl (by simp[Ba]) rfl rfl (fun hb=>⟨⟨_,rfl,rfl⟩,Al.later (by omega) (by omega) Bl.o (C9.o hb)⟩)
theorem Abe(ih:Ii b tb cap te ts n)(w:World)(s:PS)(r:BT A6×PS)(h5:kT s≠5)(h6:kT s≠6)(h8:kT s≠8)(hs:PR b tb cap te ts w s)(hp:Af (n+1) 9 0 .nil s=some r) :
  Calls Tryz.prog 190 #[.pointer (some ⟨b,0,none⟩)] w (Oi b tb cap te ts w r):=by
 by_cases c9:kT s=9
 ·by_cases c25:kT (Ao s)=25
  ·exact Amu w s r c9 c25 hs hp
  ·exact Amf ih w s r c9 c25 hs hp
 by_cases c10:kT s=10
 ·exact A85 w s r c10 hs hp
 by_cases c11:kT s=11
 ·exact Aa1 w s r c11 hs hp
 by_cases c12:kT s=12
 ·exact Alv ih w s r c12 hs hp
 exact Afc ih w s r (by omega) hs hp
theorem Ajz(ih:Ii b tb cap te ts n)(w:World)(s:PS)(r:BT A6×PS)(hs:PR b tb cap te ts w s)(hp:Af (n+1) 9 0 .nil s=some r) :
  Calls Tryz.prog 132 #[.pointer (some ⟨b,0,none⟩)] w (H9 b tb cap te ts w r):=by
 by_cases c8:kT s=8
 ·exact A94 ih w s r c8 hs hp
 have HS:=A0 hs;have lb:=hs.lt;by_cases c5:kT s=5
 ·have HX:=A0 (fun(W:World) (h:PR b tb cap te ts W s)=>Abh ih W s r c5 h hp);have t5:((kT s:Int)==5)=true:=ke (c:=5) rfl c5;clear hp hs c5 c8;go_enter Tryz.func132,Tryz.ntmps132;go_wp2_with fail
  refine(Dl HS.o).mono ?_;rintro e w1 ⟨rfl,h1,A1⟩;have Bu:=A0 (Below.only (b:=b) A1);have Az:Hid (A7 b w w1):=(A7.refl b w).trans Bu.o;have Dk:=Az.o.size;have H1:=A0 h1;clear h1 A1;go_wp2_with fail
  refine(HX.o _ H1.o).mono ?_;rintro e w2 ⟨I4,x2,rfl,h2,B8,B0⟩;have Ay:=A0 B8;have Be:Hid (A7 b w w2):=Az.o.trans Ay.o;have Ey:=Be.o.size;have C9:=A0 B0;have H2:=A0 h2;clear h2 B8 B0;go_wp2;go_ret;exact⟨_,_,rfl,H2.o,Be.o,fun hb=>Al.weak (by omega) (C9.o hb)⟩
 have t5:((kT s:Int)==5)=false:=kn (c:=5) rfl c5;by_cases c6:kT s=6
 ·have HX:Hid (∀W,PR b tb cap te ts W s->Calls Tryz.prog 187 #[.pointer (some ⟨b,0,none⟩)] W (H9 b tb cap te ts W r)):=by
   intro W h;obtain⟨x,bl,h1,h2,⟨h3,c,h4,e⟩|⟨h3,e⟩⟩:=Yz c6 hp
   ·exact Am0 ih W s r c6 x bl h1 h2 h3 c h4 e h
   ·exact A5l ih W s r c6 x bl h1 h2 h3 e h
  have t6:((kT s:Int)==6)=true:=ke (c:=6) rfl c6;clear hp hs c5 c8 c6;go_enter Tryz.func132,Tryz.ntmps132;go_wp2_with fail
  refine(Dl HS.o).mono ?_;rintro e w1 ⟨rfl,h1,A1⟩;have Bu:=A0 (Below.only (b:=b) A1);have Az:Hid (A7 b w w1):=(A7.refl b w).trans Bu.o;have Dk:=Az.o.size;have H1:=A0 h1;clear h1 A1;go_wp2_with fail
  refine(HX.o _ H1.o).mono ?_;rintro e w2 ⟨I4,x2,rfl,h2,B8,B0⟩;have Ay:=A0 B8;have Be:Hid (A7 b w w2):=Az.o.trans Ay.o;have Ey:=Be.o.size;have C9:=A0 B0;have H2:=A0 h2;clear h2 B8 B0;go_wp2;go_ret;exact⟨_,_,rfl,H2.o,Be.o,fun hb=>Al.weak (by omega) (C9.o hb)⟩
 have t6:((kT s:Int)==6)=false:=kn (c:=6) rfl c6;have t8:((kT s:Int)==8)=false:=kn (c:=8) rfl c8;have HX:=A0 (fun(W:World) (h:PR b tb cap te ts W s)=>Abe ih W s r c5 c6 c8 h hp);clear hp hs c5 c8 c6;go_enter Tryz.func132,Tryz.ntmps132;go_wp2_with fail
 refine(Dl HS.o).mono ?_;rintro e w1 ⟨rfl,h1,A1⟩;have Bu:=A0 (Below.only (b:=b) A1);have Az:Hid (A7 b w w1):=(A7.refl b w).trans Bu.o;have Dk:=Az.o.size;have H1:=A0 h1;clear h1 A1;go_wp2_with fail
 refine(HX.o _ H1.o).mono ?_;rintro e w2 ⟨r2,⟨I4,x2,rfl,h2,B8,B0⟩,e21,e22⟩;have Ay:=A0 B8;have Be:Hid (A7 b w w2):=Az.o.trans Ay.o;have Ey:=Be.o.size;have C9:=A0 B0;have HE1:=A0 e21;have HE2:=A0 e22;have H2:=A0 h2;clear h2 B8 B0 e21 e22;go_wp2_with fail
 refine(Is H2.o 25).mono ?_;rintro e w3 ⟨kk3,ln3,nn3,S3,rfl,htk3,h3,Cl⟩;have Bl:=A0 Cl;have Cg:Hid (A7 b w w3):=Be.o.trans Bl.o;have lw3:=Cg.o.size;have HTk3:=A0 htk3;have H3:=A0 h3;clear h3 Cl htk3;go_wp2;go_ret;refine⟨_,_,rfl,by rw[HE2.o];exact H3.o,Cg.o,fun hb=>?_⟩;rw[HE2.o]at hb;rw[HE1.o];exact Al.later (by omega) (by omega) Bl.o (C9.o (Lb hb))
theorem A2p{b tb cap te:Nat}{ts:List Tk}:∀N n,n<=N->n<=500000->Ii b tb cap te ts n:=by
 intro N;induction N with
 | zero=>
  intro n hn _;obtain rfl:n=0:=by omega
  exact⟨fun _ _ _ _ _ _ h=>absurd h (G9 _ _ _ _ _),fun _ _ _ _ h=>absurd h (G9 _ _ _ _ _),fun _ _ _ _ h=>absurd h (G9 _ _ _ _ _),fun _ _ _ _ _ h=>absurd h (G9 _ _ _ _ _),fun _ _ _ _ h=>absurd h (G9 _ _ _ _ _),fun _ _ _ _ h=>absurd h (G9 _ _ _ _ _)⟩
 | succ N ih=>
  intro n hn h5;cases n with
  | zero=>exact ih 0 (by omega) (by omega)
  | succ n=>
   have ihn:∀m,m<=n->Ii b tb cap te ts m:=fun m hm=>ih m (by omega) (by omega);exact⟨fun w s a r ha hs hp=>A4r ihn w s a r ha hs hp,fun w s r hs hp=>Acg ihn w s r hs hp,fun w s r hs hp=>A7y (ihn n (Nat.le_refl _)) w s r hs hp,
    fun w s a r hs hp=>Aek ihn (by omega) w s a r hs hp,fun w s r hs hp=>A9g ihn (by omega) w s r hs hp,fun w s r hs hp=>Ajz (ihn n (Nat.le_refl _)) w s r hs hp⟩
end
section
open Go.RowKit
open Go.Deep (BT)
theorem A6e{n:Nat}{acc:List (Nat×List UInt8)}{s:PS}{r:List (Nat×List UInt8)×PS}(hk:kT (Bb 1 s)=24)(h:L0 (n+1) acc s=some r):L0 n (acc++[((B1 s).line,(B1 s).s)]) (Ao (Bb 1 s))=some r:=by
 rw[L0,if_pos hk]at h;exact h
theorem Aap{n:Nat}{acc:List (Nat×List UInt8)}{s:PS}{r:List (Nat×List UInt8)×PS}(hk:kT (Bb 1 s)≠24)(h:L0 (n+1) acc s=some r):r=(acc++[((B1 s).line,(B1 s).s)],Bb 19 (Bb 1 s)):=by
 rw[L0,if_neg hk]at h;exact(Option.some.inj h).symm
end
end Go.Proofs.YtjdlndhfaaolaaaGreatDoor
