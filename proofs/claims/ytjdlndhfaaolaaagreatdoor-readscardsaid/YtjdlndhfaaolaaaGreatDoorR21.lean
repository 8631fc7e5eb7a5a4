import Derived.Test.YtjdlndhfaaolaaaGreatDoorR19
import Derived.Test.YtjdlndhfaaolaaaGreatDoorR20
set_option maxHeartbeats 20000000
namespace Go.Proofs.YtjdlndhfaaolaaaGreatDoor
section
set_option maxRecDepth 100000
open Go.RowKit
open Go.Deep (BT)
theorem W1{k a:Nat}(h:rowOf k=a+1):k=27\/k=29\/k=30\/k=31\/k=32\/k=33\/k=34\/k=35\/k=36\/k=37\/k=38\/k=39\/k=40:=by
 unfold rowOf at h;split at h
 ·omega
 split at h
 ·omega
 split at h
 ·omega
 split at h
 ·omega
 split at h
 ·omega
 split at h
 ·omega
 ·omega
theorem Aa9{k:Nat}:rowOf k<=6:=by
 unfold rowOf;split
 ·omega
 split
 ·omega
 split
 ·omega
 split
 ·omega
 split
 ·omega
 split
 ·omega
 ·omega
theorem Ur{k a:Nat}(h:rowOf k=a+1):¬(100+k=31\/100+k=32)/\248=C3 (100+k)/\295=Db (100+k):=by
 rcases W1 h with rfl|rfl|rfl|rfl|rfl|rfl|rfl|rfl|rfl|rfl|rfl|rfl|rfl <;> exact⟨by decide,rfl,rfl⟩
theorem A2a{k a:Nat}(h:rowOf k=a+1)(D:Nat->Prop)(w:World)(line:Nat)(x y:Value):Ck D w (Ao (100+k) line) #[Gz line,.int .i64 (k:Nat),x,y] [x,y]:=by
 rcases W1 h with rfl|rfl|rfl|rfl|rfl|rfl|rfl|rfl|rfl|rfl|rfl|rfl|rfl <;> exact⟨x,y,rfl,rfl⟩
def A0p(b tb cap te:Nat)(ts:List Tk)(a n:Nat)(r:BT A2×PS)(w:World)(k:Nat)(v:Value)(wr:World):Prop:=
 ∃(acc:BT A2) (st:PS) (ty:TypeId) (x:Value),v=.iface ty x/\k<=n/\A7 k 1 a acc st=some r/\PR b tb cap te ts wr st/\A1 b w wr/\(st.bad=0->Aj (fun g=>w.heap.size<=g) wr acc [.iface ty x])
theorem A8d{b tb cap te:Nat}{ts:List Tk}{n:Nat}(ih:∀m,m<=n->Jt b tb cap te ts m)(w:World)(s:PS)(a:Nat)(r:BT A2×PS)(ha:a<=6)(hs:PR b tb cap te ts w s)(hp:A7 (n+1) 0 a .nil s=some r) :
  Calls Tryz.prog 232 #[.pointer (some ⟨b,0,none⟩),.int .i64 ((a+1:Nat):Nat)] w (Il b tb cap te ts w r):=by
 have HS:=A0 hs;have lb:=hs.lt;by_cases c6:a=6
 ·subst c6;have HX:=A0 (fun(W:World) (h:PR b tb cap te ts W s)=>(ih n (Nat.le_refl _)).unary W s r h (P4 hp));clear hp hs ha;go_enter Tryz.func232,Tryz.ntmps232;go_wp2_with fail
  refine(HX.o _ HS.o).mono ?_;rintro e w1 ⟨ty1,x1,rfl,h1,B5,B0⟩;have Bh:=A0 B5;have Ae:Hid (A1 b w w1):=(A1.refl b w).trans Bh.o;have Cz:=Ae.o.size;have HR1:=A0 B0;have H1:=A0 h1;clear h1 B5 B0;go_wp2;go_ret;exact⟨_,_,rfl,H1.o,Ae.o,fun hb=>Aj.weak (by omega) (HR1.o hb)⟩
 ·obtain⟨x,hx,hpr⟩:=P3 c6 hp;have HX:=A0 (fun(W:World) (h:PR b tb cap te ts W s)=>(ih n (Nat.le_refl _)).expr W s (a+1) x (by omega) h hx);have HP0:=A0 hpr;have t6:decide (6<((a+1:Nat):Int))=false:=decide_eq_false (by omega);clear hp hs hx hpr;go_enter Tryz.func232,Tryz.ntmps232;go_wp2_with fail
  refine(HX.o _ HS.o).mono ?_;rintro e w1 ⟨ty1,x1,rfl,h1,B5,B0⟩;have Bh:=A0 B5;have Ae:Hid (A1 b w w1):=(A1.refl b w).trans Bh.o;have Cz:=Ae.o.size;have HR1:=A0 B0;have H1:=A0 h1;clear h1 B5 B0;go_wp2;go_loopg [5] n (fun k v wr=>A0p b tb cap te ts a n r w k v wr)
  case atStart=>exact⟨x.1,x.2,ty1,x1,rfl,Nat.le_refl _,HP0.o,H1.o,Ae.o,HR1.o⟩
  case round=>
   clear HP0 H1 Ae HR1 Bh HX HS Cz;obtain⟨acc,st,ty,x0,rfl,hkn,hpk,hrs,hO,hrep⟩:=hrel;cases gk with
   | zero=>exact absurd hpk (Cc _ _ _ _ _)
   | succ m=>
   have HRS:=A0 hrs;have HOr:=A0 hO;have HRep:=A0 hrep;have lwr:=hO.size;have Fb:=hrs.N7;have hrl:=Aa9 (k:=kT st);by_cases cr:rowOf (kT st)=a+1
   ·obtain⟨z,C4,Bv⟩:=Pz cr hpk;have Cb:=A0 Bv;have HX:=A0 (fun(W:World) (h:PR b tb cap te ts W (Aa st))=>(ih m (by omega)).expr W (Aa st) (a+1) z (by omega) h C4);have tk:((rowOf (kT st):Int)==((a+1:Nat):Int))=true:=by rw[cr];simp
    have Br:Hid (st.bad=0):=hrs.E7 (by have:=W1 cr;omega);have HCr:=A0 cr;clear C4 Bv cr hpk hrs hO hrep;go_wp2_with fail
    refine(Dl HRS.o).mono ?_;rintro e w4 ⟨rfl,h4,Bc⟩;have Dv:=A0 (Below.only (b:=b) Bc);have B2:Hid (A1 b wr w4):=(A1.refl b wr).trans Dv.o;have lw4:=B2.o.size;have H4:=A0 h4;clear h4 Bc;go_wp2_with fail
    refine(n8 _ Fb _).mono ?_;rintro e w' ⟨rfl,rfl⟩;go_wp2_with fail
    refine(Ii H4.o).mono ?_;rintro e w5 ⟨Ff,Gb,S5,rfl,htk5,h5,Bd⟩;have Ei:=A0 Bd;have B9:Hid (A1 b wr w5):=B2.o.trans Ei.o;have lw5:=B9.o.size;have HTk5:=A0 htk5;have H5:=A0 h5;clear h5 Bd htk5;have Ip:=A0 (heap_alloc_new w5 (.cells #[.int .i64 (kT st:Nat),.int .i64 Ff,.string ⟨S5.toArray⟩,.int .i64 Gb] 198));go_wp2_with fail
    refine(HX.o _ (PR.alloc H5.o _)).mono ?_;rintro e w6 ⟨ty6,x6,rfl,h6,Bs,Kt⟩;have HP6:=A0 Bs;have Bn:Hid (A1 b wr w6):=(B9.o.alloc _).trans HP6.o;have lw6:=Bn.o.size;have HR6:=A0 Kt;have H6:=A0 h6;clear h6 Bs Kt;have hT6:=HP6.o.blk Ip.o (by omega);obtain⟨y0,y1,y2,y3,fy,ly⟩:=Ci hT6;clear hT6;go_wp2;go_roundg m
    case measure=>omega
    case rel=>
     refine⟨_,_,_,_,rfl,by omega,Cb.o,PR.alloc H6.o _,(HOr.o.trans Bn.o).alloc _,fun hb=>?_⟩;have hcl:=Ir (w:=w) (W:=w6) (r:=(nd (Ao (100+kT st) (A6 st).line) (B6 acc z.1),z.2)) (l:=Ao (100+kT st) (A6 st).line) (ch:=B6 acc z.1) (ks:=[.iface ty x0,.iface ty6 x6]) (cs:=#[Gz (A6 st).line,.int .i64 (kT st:Nat),.iface ty x0,.iface ty6 x6]) H6.o (HOr.o.trans Bn.o) rfl (Ur HCr.o).1 (Ur HCr.o).2.1 (Ur HCr.o).2.2 (fun hb=>⟨A2a HCr.o _ _ _ _ _,Aj.app _ _ [_] [_] (Aj.only (by omega) Bn.o (HRep.o Br.o)) (Aj.weak (by simp;omega) (HR6.o hb))⟩);obtain⟨t',x',e',_,_,hrr⟩:=hcl;injection e' with e';rw[←e']at hrr;rw[(HTk5.o Br.o).1];exact hrr hb
   ·have HE:=A0 (P5 cr hpk);have tk:((rowOf (kT st):Int)==((a+1:Nat):Int))=false:=by rw[beq_eq_false_iff_ne];omega
    clear cr hpk hrs hO hrep;go_wp2_with fail
    refine(Dl HRS.o).mono ?_;rintro e w4 ⟨rfl,h4,Bc⟩;have Dv:=A0 (Below.only (b:=b) Bc);have B2:Hid (A1 b wr w4):=(A1.refl b wr).trans Dv.o;have lw4:=B2.o.size;have H4:=A0 h4;clear h4 Bc;go_wp2_with fail
    refine(n8 _ Fb _).mono ?_;rintro e w' ⟨rfl,rfl⟩;go_wp2;go_ret;rw[HE.o];exact⟨_,_,rfl,H4.o,HOr.o.trans B2.o,fun hb=>Aj.only (by omega) B2.o (HRep.o hb)⟩
theorem Qr(s:PS)(h:s.bad=0):(Cm s).ts=[Iq]:=by unfold Cm;rw[if_pos h]
theorem A5c{n:Nat}{s:PS}{r:BT A2×PS}(hk:kT s=0)(h:A7 n 4 0 .nil s=some r):r.2=Cm s:=by
 cases n with
 | zero=>exact absurd h (Cc _ _ _ _ _)
 | succ n=>rw[Ns (by omega) (by omega) (by omega) (by omega) (by omega) (by omega) (by omega) (by omega) (by omega) (by omega) h]
theorem A5b{n:Nat}{s:PS}{r:BT A2×PS}(h0:s.bad=0)(hf:(Cm s).bad≠0)(hk:kT s=0)(h:A7 n 2 0 .nil s=some r):r.2=Cm s:=by
 cases n with
 | zero=>exact absurd h (Cc _ _ _ _ _)
 | succ n=>
  obtain⟨x,h1,h2⟩:=P6 (by omega) (by omega) h;have e:=A5c hk h1;rw[Lm (by rw[e];exact Qr s h0) (by rw[e];exact hf) _ _ _ _ _ h2,e]
theorem A5a{s:PS}(h0:s.bad=0)(hf:(Cm s).bad≠0)(hk:kT s=0):∀n a r,A7 n 0 a .nil s=some r->r.2=Cm s:=by
 intro n;induction n with
 | zero=>intro a r h;exact absurd h (Cc _ _ _ _ _)
 | succ n ih=>
  intro a r h;by_cases h6:a=6
  ·subst h6;exact A5b h0 hf hk (P4 h)
  ·obtain⟨x,h1,h2⟩:=P3 h6 h;have e:=ih _ _ h1;rw[Lm (by rw[e];exact Qr s h0) (by rw[e];exact hf) _ _ _ _ _ h2,e]
theorem Ym{s:PS}(h:s.bad≠0):Cm s=s:=by unfold Cm;rw[if_neg h]
theorem A09{k:Nat}{s:PS}(hk:k≠0)(h:s.bad≠0)(ht:s.ts=[Iq]):Ah k s=s:=by
 unfold Ah;rw[if_neg (by unfold kT A6;rw[ht];show ¬(0=k);omega),Ym h]
theorem A5d{n:Nat}{s:PS}{r:BT A2×PS}(h0:s.bad=0)(hf:(Cm s).bad≠0)(hk:kT s=0)(h:A7 n 9 0 .nil s=some r):r.2=Cm s:=by
 cases n with
 | zero=>exact absurd h (Cc _ _ _ _ _)
 | succ n=>
  obtain⟨x,h1,h2⟩:=S0 (by omega) h;have e:=A5a h0 hf hk _ _ _ h1;have ek:kT x.2=0:=by rw[e];unfold Cm;rw[if_pos h0];rfl
  rcases h2 with⟨_,h3,_⟩|⟨_,h3,_⟩|⟨_,h3⟩
  ·omega
  ·omega
  ·rw[h3];show Ah 25 x.2=_;rw[A09 (by decide) (by rw[e];exact hf) (by rw[e];exact Qr s h0),e]
def A0q(b tb cap te:Nat)(ts:List Tk)(n:Nat)(r:BT A2×PS)(w:World)(k:Nat)(v:Value)(wr:World):Prop:=
 ∃(acc:BT A2) (st:PS) (va:Option Addr) (vn vc:Nat) (cs:List Value),v=.slice va vn vc/\k<=n/\A7 k 8 0 acc st=some r/\PR b tb cap te ts wr st/\A1 b w wr/\cs.length+k<=n+1/\
  C1 (fun g=>w.heap.size<=g) wr 142 1 (.slice va vn vc) cs.length cs/\(st.bad=0->Aj (fun g=>w.heap.size<=g/\(Value.slice va vn vc).ownBlock≠some g) wr acc cs)
theorem A8e{b tb cap te:Nat}{ts:List Tk}{n:Nat}(ih:∀m,m<=n->Jt b tb cap te ts m)(hn:n<=500000)(w:World)(s:PS)(r:BT A2×PS)(hs:PR b tb cap te ts w s)(hp:A7 (n+1) 7 0 .nil s=some r) :
  Calls Tryz.prog 185 #[.pointer (some ⟨b,0,none⟩)] w (Sn 142 b tb cap te ts w r):=by
 have HS:=A0 hs;obtain⟨lb,lt,lne⟩:=hs.lt;have HP0:=A0 (Te hp);clear hp hs;go_enter Tryz.func185,Tryz.ntmps185;go_wp2_with fail
 refine(K2 HS.o 20).mono ?_;rintro e w1 ⟨kk1,Jp,nn1,S1,rfl,G8,h1,B5⟩;have Bh:=A0 B5;have Ae:Hid (A1 b w w1):=(A1.refl b w).trans Bh.o;have Cz:=Ae.o.size;have Kj:=A0 G8;have H1:=A0 h1;clear h1 B5 G8;go_wp2;go_loopg [3] n (fun k v wr=>A0q b tb cap te ts n r w k v wr)
 case atStart=>exact⟨.nil,_,none,0,0,[],rfl,Nat.le_refl _,HP0.o,H1.o,Ae.o,by simp,M7 _ _ _ _,fun _=>rfl⟩
 case round=>
  clear HP0 H1 Ae Bh HS Cz Kj;obtain⟨acc,st,va,vn,vc,cs,rfl,hkn,hpk,hrs,hO,hcn,hown,hrep⟩:=hrel;cases gk with
  | zero=>exact absurd hpk (Cc _ _ _ _ _)
  | succ m=>
  have HRS:=A0 hrs;have HOr:=A0 hO;have HOwn:=A0 hown;have HRep:=A0 hrep;have lwr:=hO.size;have hne:(Value.slice va vn vc).ownBlock≠some b:=fun e=>by have h:w.heap.size<=b:=hown.2 b e;omega
  have HFb:Hid (st.bad=0->1<=(A6 st).line):=fun e=>(hrs.lines e).1;have HStk:=A0 hrs.Jb;by_cases c21:kT st=21
  ·have HE:=A0 (Vm c21 hpk);have tk:((kT st:Int) !=21)=false:=by rw[c21];rfl
   have HW:Hid (Ah 21 st=Aa st):=by show _=_;unfold Ah;rw[if_pos c21]
   clear c21 hpk hrs hO hrep hown;go_wp2_with fail
   refine(Dl HRS.o).mono ?_;rintro e w4 ⟨rfl,h4,Bc⟩;have Dv:=A0 (Below.only (b:=b) Bc);have B2:Hid (A1 b wr w4):=(A1.refl b wr).trans Dv.o;have lw4:=B2.o.size;have H4:=A0 h4;clear h4 Bc;go_wp2_with fail
   refine(K2 H4.o 21).mono ?_;rintro e w5 ⟨kk5,Ff,Gb,S5,rfl,htk5,h5,Bd⟩;have Ei:=A0 Bd;have B9:Hid (A1 b wr w5):=B2.o.trans Ei.o;have lw5:=B9.o.size;have HTk5:=A0 htk5;have H5:=A0 h5;clear h5 Bd htk5;go_wp2;go_ret;rw[HE.o];refine⟨va,vn,vc,cs,rfl,⟨Bb HOwn.o.1 (fun k hk hl=>B9.o.block k hl (fun e=>hne (by rw[←e];exact hk))),HOwn.o.2⟩,by rw[←HW.o];exact H5.o,HOr.o.trans B9.o,fun hb=>?_⟩;rw[Ra]at hb;exact Aj.keep (fun k hk hl=>⟨B9.o.block k hl (by omega),hk.1⟩) _ _ (HRep.o hb)
  by_cases c0:kT st=0
  ·have HE:Hid (r.2=Ah 21 st/\r.2.bad≠0):=by
    have hw:Ah 21 st=Cm st:=by unfold Ah;rw[if_neg c21]
    by_cases h0:st.bad=0
    ·obtain⟨x,hx,G9⟩:=Tf c21 h0 hpk;have hf:=V4 HFb.o;have e:=A5d h0 hf c0 hx;have e2:=Lm (by rw[e];exact Qr st h0) (by rw[e];exact hf) _ _ _ _ _ G9;rw[e2,e,hw];exact⟨rfl,hf⟩
    ·have e2:=Lm (HStk.o h0) h0 _ _ _ _ _ hpk;rw[e2,hw,Ym h0];exact⟨rfl,h0⟩
   have tk:((kT st:Int) !=21)=true:=by rw[c0];rfl
   have tk0:((kT st:Int) !=0)=false:=by rw[c0];rfl
   clear c21 c0 hpk hrs hO hrep hown;go_wp2_with fail
   refine(Dl HRS.o).mono ?_;rintro e w4 ⟨rfl,h4,Bc⟩;have Dv:=A0 (Below.only (b:=b) Bc);have B2:Hid (A1 b wr w4):=(A1.refl b wr).trans Dv.o;have lw4:=B2.o.size;have H4:=A0 h4;clear h4 Bc;go_wp2_with fail
   refine(Dl H4.o).mono ?_;rintro e w5 ⟨rfl,h5,C7⟩;have Ei:=A0 (Below.only (b:=b) C7);have B9:Hid (A1 b wr w5):=B2.o.trans Ei.o;have lw5:=B9.o.size;have H5:=A0 h5;clear h5 C7;go_wp2_with fail
   refine(K2 H5.o 21).mono ?_;rintro e w6 ⟨kk6,Ih,Jr,S6,rfl,htk6,h6,Bs⟩;have HP6:=A0 Bs;have Bn:Hid (A1 b wr w6):=B9.o.trans HP6.o;have lw6:=Bn.o.size;have HTk6:=A0 htk6;have H6:=A0 h6;clear h6 Bs htk6;go_wp2;go_ret;refine⟨va,vn,vc,cs,rfl,⟨Bb HOwn.o.1 (fun k hk hl=>Bn.o.block k hl (fun e=>hne (by rw[←e];exact hk))),HOwn.o.2⟩,by rw[HE.o.1];exact H6.o,HOr.o.trans Bn.o,fun hb=>absurd hb HE.o.2⟩
  have Br:Hid (st.bad=0):=hrs.E7 c0;obtain⟨z,C4,Bv⟩:=Tf c21 Br.o hpk;have Cb:=A0 Bv;have HX:=A0 (fun(W:World) (h:PR b tb cap te ts W st)=>(ih m (by omega)).stmt W st z h C4);have tk:((kT st:Int) !=21)=true:=by simp;omega
  have tk0:((kT st:Int) !=0)=true:=by simpa using c0
  clear c21 c0 hpk hrs hO hrep hown C4 Bv;go_wp2_with fail
  refine(Dl HRS.o).mono ?_;rintro e w4 ⟨rfl,h4,Bc⟩;have Dv:=A0 (Below.only (b:=b) Bc);have B2:Hid (A1 b wr w4):=(A1.refl b wr).trans Dv.o;have lw4:=B2.o.size;have H4:=A0 h4;clear h4 Bc;go_wp2_with fail
  refine(Dl H4.o).mono ?_;rintro e w5 ⟨rfl,h5,C7⟩;have Ei:=A0 (Below.only (b:=b) C7);have B9:Hid (A1 b wr w5):=B2.o.trans Ei.o;have lw5:=B9.o.size;have H5:=A0 h5;clear h5 C7;go_wp2_with fail
  refine(HX.o _ H5.o).mono ?_;rintro e w6 ⟨ty6,x6,rfl,h6,Bs,Kt⟩;have HP6:=A0 Bs;have Bn:Hid (A1 b wr w6):=B9.o.trans HP6.o;have lw6:=Bn.o.size;have HR6:=A0 Kt;have H6:=A0 h6;clear h6 Bs Kt;have Fj:w6.ownsRow 0 142 1 (.slice va vn vc) cs.length cs:=Bb HOwn.o.1 (fun k hk hl=>Bn.o.block k hl (fun e=>hne (by rw[←e];exact hk)));go_wp2_with (at_builtin;refine F1 w6 #[.iface ty6 x6] 142 rfl (.tmp 14) (.tmp 17) 138 rfl 0 1 16 .nilIface Tryz.underlying138 V7 rfl (by omega) _ _ _ rfl rfl Fj rfl (fun u hu=>by simp at hu;rw[hu];rfl) (by omega) (by omega) (Nat.zero_le _) ?_;intro g7 cap7 w7 Fy hgrow7 hat7 hg7)
  replace hgrow7:w6.grownBy w7 (Value.slice va vn vc).ownBlock:=hgrow7;replace hat7:(Value.slice va vn vc).ownBlock=some g7\/g7=w6.heap.size+1:=hat7;have hrow:∀k,(Value.slice va vn vc).ownBlock=some k->k≠b/\k≠tb/\w.heap.size<=k:=fun k e=>by have h:w.heap.size<=k:=HOwn.o.2 k e;omega
  go_roundg m
  case measure=>omega
  case rel=>
   refine⟨B6 acc z.1,z.2,some ⟨g7,0,none⟩,cs.length+1,cap7,cs++[.iface ty6 x6],rfl,by omega,Cb.o,PR.grown H6.o hgrow7 (fun e=>(hrow b e).1 rfl) (fun e=>(hrow tb e).2.1 rfl),(HOr.o.trans Bn.o).grown hgrow7 (fun k e=>.inr (hrow k e).2.2),by simp;omega,⟨by simpa using Fy,fun k hk=>?_⟩,fun hb=>?_⟩
   ·simp only[Value.ownBlock,Option.some.injEq]at hk;rw[←hk];rcases hat7 with h|h
    ·exact(hrow g7 h).2.2
    ·show w.heap.size<=g7;omega
   ·exact Uo lb lwr (HRep.o Br.o) Bn.o (Aj.weak (by omega) (HR6.o hb)) HOwn.o.1 hgrow7 hat7
end
section
set_option maxRecDepth 100000
open Go.RowKit
open Go.Deep (BT)
variable {b tb cap te:Nat}{ts:List Tk}{n:Nat}
theorem Aj.blk{D:Nat->Prop}{w:World}{kd:Nat}(hk:kd=31\/kd=32){va:Option Addr}{vn vc:Nat}{cs:List Value}{f:BT A2}(ho:C1 D w 142 1 (.slice va vn vc) cs.length cs)(hr:Aj D w f cs):Aj D w (nd (Ao kd 0) f) [.slice va vn vc]:=by
 refine Aj.one ?_ hr;unfold Ba;rw[if_pos (show(Ao kd 0).kd=31\/(Ao kd 0).kd=32 from hk)];exact⟨⟨_,_,_,rfl⟩,ho⟩
theorem A8k(ih:Jt b tb cap te ts n)(w:World)(s:PS)(r:BT A2×PS)(hk:kT s=5)(hs:PR b tb cap te ts w s)(hp:A7 (n+1) 9 0 .nil s=some r) :
  Calls Tryz.prog 186 #[.pointer (some ⟨b,0,none⟩)] w (Il b tb cap te ts w r):=by
 obtain⟨x,hx,hr⟩:=Tl hk hp;have HS:=A0 hs;have lb:=hs.lt;have HR:=A0 hr;have HXp:=A0 hx;have HW:Hid (Ah 5 s=Aa s):=by show _=_;unfold Ah;rw[if_pos hk]
 have HX:=A0 (fun(W:World) (h:PR b tb cap te ts W (Ah 26 (Ah 1 (Aa s))))=>Ls ih W (Ah 26 (Ah 1 (Aa s))) x h hx);clear hp hs hk hx hr;go_enter Tryz.func186,Tryz.ntmps186;go_wp2_with fail
 refine(K2 HS.o 5).mono ?_;rintro e w1 ⟨kk1,Jp,nn1,S1,rfl,G8,h1,B5⟩;have Bh:=A0 B5;have Ae:Hid (A1 b w w1):=(A1.refl b w).trans Bh.o;have Cz:=Ae.o.size;have Kj:=A0 G8;rw[HW.o]at h1;have H1:=A0 h1;clear h1 B5 G8;go_wp2_with fail
 refine(T4 H1.o).mono ?_;rintro e w2 ⟨Gp,S2,rfl,F3,h2,Ap⟩;have Cp:=A0 Ap;have Al:Hid (A1 b w w2):=Ae.o.trans Cp.o;have Fg:=Al.o.size;have Ef:=A0 F3;have H2:=A0 h2;clear h2 Ap F3;have K5:=A0 (heap_alloc_new w2 (.cells #[.int .i64 Gp,.string ⟨S2.toArray⟩] 148));have lw2b:w2.heap.size<(w2.alloc (.cells #[.int .i64 Gp,.string ⟨S2.toArray⟩] 148)).heap.size:=by simp
 go_wp2_with fail
 refine(K2 (PR.alloc H2.o _) 26).mono ?_;rintro e w3 ⟨kk3,ln3,nn3,S3,rfl,htk3,h3,Af⟩;have De:=A0 Af;have Ay:Hid (A1 b w w3):=(Al.o.alloc _).trans De.o;have lw3:=Ay.o.size;have HTk3:=A0 htk3;have H3:=A0 h3;clear h3 Af htk3;have Hg:=A0 (De.o.blk K5.o (by omega));go_wp2_with fail
 refine(HX.o _ H3.o).mono ?_;rintro e w4 ⟨ty4,x4,rfl,h4,An,Ch⟩;have Dv:=A0 An;have B2:Hid (A1 b w w4):=Ay.o.trans Dv.o;have lw4:=B2.o.size;have I8:=A0 Ch;have H4:=A0 h4;clear h4 An Ch;have HT4:=A0 (Dv.o.blk Hg.o (by omega));go_wp2_with fail
 refine(K2 H4.o 25).mono ?_;rintro e w5 ⟨kk5,Ff,Gb,S5,rfl,htk5,h5,Bd⟩;have Ei:=A0 Bd;have B9:Hid (A1 b w w5):=B2.o.trans Ei.o;have lw5:=B9.o.size;have HTk5:=A0 htk5;have H5:=A0 h5;clear h5 Bd htk5;have hT5:=Ei.o.blk HT4.o (by omega);have y0:=Ac hT5 0 _ rfl;have y1:=Ac hT5 1 _ rfl;have ly:=A5 hT5;clear hT5;go_wp2;go_ret;rw[HR.o];refine Ir (l:=⟨21,(A6 (Aa s)).line,(A6 (Aa s)).s,0,[]⟩) (ch:=x.1) (ks:=[.iface ty4 x4]) H5.o B9.o rfl (by simp) rfl rfl (fun hb=>⟨⟨_,?_,rfl⟩,Aj.later (by omega) (by omega) Ei.o (I8.o (Mk hb))⟩);have hg:=Mk (Pv H3.o.Jb HXp.o (Mk hb));rw[(Ef.o hg).1,(Ef.o hg).2];rfl
theorem A98(ih:Jt b tb cap te ts n)(w:World)(s:PS)(r:BT A2×PS)(hk:kT s=8)(hs:PR b tb cap te ts w s)(hp:A7 (n+1) 9 0 .nil s=some r) :
  Calls Tryz.prog 132 #[.pointer (some ⟨b,0,none⟩)] w (Il b tb cap te ts w r):=by
 obtain⟨x,bl,hx,hbl,hr⟩:=Tp hk hp;have HS:=A0 hs;have lb:=hs.lt;have Br:Hid (s.bad=0):=hs.E7 (by omega);have HR:=A0 hr;have HBp:=A0 hbl;have t5:((kT s:Int)==5)=false:=kn (c:=5) rfl (by omega);have t6:((kT s:Int)==6)=false:=kn (c:=6) rfl (by omega);have t8:((kT s:Int)==8)=true:=ke (c:=8) rfl hk;have HBl:=A0 (fun(W:World) (h:PR b tb cap te ts W x.2)=>ih.block W x.2 bl h hbl);have HX:=A0 (fun(W:World) (h:PR b tb cap te ts W (Aa s))=>Ls ih W (Aa s) x h hx);have Jm:=Me;clear hp hs hk hx hbl hr;go_enter Tryz.func132,Tryz.ntmps132;go_wp2_with fail
 refine(Dl HS.o).mono ?_;rintro e w1 ⟨rfl,h1,A3⟩;have Bh:=A0 (Below.only (b:=b) A3);have Ae:Hid (A1 b w w1):=(A1.refl b w).trans Bh.o;have Cz:=Ae.o.size;have H1:=A0 h1;clear h1 A3;go_wp2_with fail
 refine(Ii H1.o).mono ?_;rintro e w2 ⟨Gp,nn2,S2,rfl,F3,h2,Ap⟩;have Cp:=A0 Ap;have Al:Hid (A1 b w w2):=Ae.o.trans Cp.o;have Fg:=Al.o.size;have Ef:=A0 F3;have H2:=A0 h2;clear h2 Ap F3;go_wp2_with fail
 refine(HX.o _ H2.o).mono ?_;rintro e w3 ⟨ty3,x3,rfl,h3,Af,Cs⟩;have De:=A0 Af;have Ay:Hid (A1 b w w3):=Al.o.trans De.o;have lw3:=Ay.o.size;have He:=A0 Cs;have H3:=A0 h3;clear h3 Af Cs;go_wp2_with fail
 refine(HBl.o _ H3.o).mono ?_;rintro e w4 ⟨D5,D7,D6,cs4,rfl,K0,h4,An,Ch⟩;have Dv:=A0 An;have B2:Hid (A1 b w w4):=Ay.o.trans Dv.o;have lw4:=B2.o.size;have I8:=A0 Ch;have HOwn4:=A0 K0;have H4:=A0 h4;clear h4 An Ch K0;go_wp2;go_ret;rw[HR.o];refine Ir (l:=Ao 23 (A6 s).line) (ch:=B6 x.1 (nd (Ao 32 0) bl.1)) (ks:=[.iface ty3 x3,.slice D5 D7 D6]) H4.o B2.o rfl (by simp[Ao]) rfl rfl (fun hb=>⟨⟨_,_,_,_,_,?_,rfl⟩,Aj.app _ _ [_] [_] (Aj.later (by omega) (by omega) Dv.o (He.o (Pv H3.o.Jb HBp.o hb))) (Aj.blk (.inr rfl) (HOwn4.o.keep (fun k hk _=>⟨rfl,by have h:w3.heap.size<=k:=hk;omega⟩)) (Aj.weak (by omega) (I8.o hb)))⟩);rw[(Ef.o Br.o).1];rfl
theorem A8g(ih:Jt b tb cap te ts n)(w:World)(s:PS)(r:BT A2×PS)(hk:kT s=6)(x bl:BT A2×PS)(hx:A7 n 0 0 .nil (Aa s)=some x)(hbl:A7 n 7 0 .nil x.2=some bl)(h7:kT bl.2≠7)(hr:r=(nd (Ao 22 (A6 s).line) (B6 x.1 (nd (Ao 31 0) bl.1)),bl.2))(hs:PR b tb cap te ts w s) :
  Calls Tryz.prog 187 #[.pointer (some ⟨b,0,none⟩)] w (Il b tb cap te ts w r):=by
 have HS:=A0 hs;have lb:=hs.lt;have Br:Hid (s.bad=0):=hs.E7 (by omega);have HR:=A0 hr;have HBp:=A0 hbl;have HBl:=A0 (fun(W:World) (h:PR b tb cap te ts W x.2)=>ih.block W x.2 bl h hbl);have HX:=A0 (fun(W:World) (h:PR b tb cap te ts W (Aa s))=>Ls ih W (Aa s) x h hx);have Jm:=Me;have tk:(kT bl.2==7)=false:=by simpa using h7
 have HM:Hid (F0 7 bl.2=bl.2):=by show _=_;unfold F0;rw[if_neg h7]
 clear hs hk hx hbl hr h7;go_enter Tryz.func187,Tryz.ntmps187;go_wp2_with fail
 refine(Ii HS.o).mono ?_;rintro e w1 ⟨Jp,nn1,S1,rfl,G8,h1,B5⟩;have Bh:=A0 B5;have Ae:Hid (A1 b w w1):=(A1.refl b w).trans Bh.o;have Cz:=Ae.o.size;have Kj:=A0 G8;have H1:=A0 h1;clear h1 B5 G8;go_wp2_with fail
 refine(HX.o _ H1.o).mono ?_;rintro e w2 ⟨Jd,x2,rfl,h2,Ap,Bt⟩;have Cp:=A0 Ap;have Al:Hid (A1 b w w2):=Ae.o.trans Cp.o;have Fg:=Al.o.size;have F9:=A0 Bt;have H2:=A0 h2;clear h2 Ap Bt;go_wp2_with fail
 refine(HBl.o _ H2.o).mono ?_;rintro e w3 ⟨va3,vn3,vc3,cs3,rfl,J6,h3,Af,Cs⟩;have De:=A0 Af;have Ay:Hid (A1 b w w3):=Al.o.trans De.o;have lw3:=Ay.o.size;have He:=A0 Cs;have HOwn3:=A0 J6;have H3:=A0 h3;clear h3 Af Cs J6;have Hg:=A0 (heap_alloc_new w3 (.cells #[.int .i64 Jp,.iface Jd x2,.slice va3 vn3 vc3,.slice none 0 0] 314));have lw3b:w3.heap.size<(w3.alloc (.cells #[.int .i64 Jp,.iface Jd x2,.slice va3 vn3 vc3,.slice none 0 0] 314)).heap.size:=by simp
 go_wp2_with fail
 refine(Ni (PR.alloc H3.o _) 7).mono ?_;rintro e w4 ⟨rfl,h4,An⟩;have Dv:=A0 An;have B2:Hid (A1 b w w4):=(Ay.o.alloc _).trans Dv.o;have lw4:=B2.o.size;rw[tk];rw[HM.o]at h4;have H4:=A0 h4;clear h4 An;have HT4:=A0 (Dv.o.blk Hg.o (by omega));go_wp2;go_ret;rw[HR.o];refine⟨_,_,rfl,H4.o,B2.o,fun hb=>?_⟩;have k2:∀g,w1.heap.size<=g->g<w2.heap.size->w4.heap[g]?=w2.heap[g]?/\w.heap.size<=g:=fun g hg hl=>⟨((De.o.alloc _).trans Dv.o).block g hl (by omega),by omega⟩;have k3:∀g,w2.heap.size<=g->g<w3.heap.size->w4.heap[g]?=w3.heap[g]?/\w.heap.size<=g:=fun g hg hl=>⟨(((A1.refl b w3).alloc _).trans Dv.o).block g hl (by omega),by omega⟩;refine Aj.one (l:=Ao 22 (A6 s).line) (ks:=[.iface Jd x2,.slice va3 vn3 vc3]) (Ba.new (by simp[Ao]) (by show w.heap.size<=w3.heap.size;omega) HT4.o ⟨_,_,_,_,_,_,_,_,?_,.inl ⟨rfl,rfl⟩⟩) ?_
 ·rw[(Kj.o Br.o).1];rfl
 ·exact Aj.app _ _ [_] [_] (Aj.keep k2 _ _ (F9.o (Pv H2.o.Jb HBp.o hb))) (Aj.blk (.inl rfl) (HOwn3.o.keep k3) (Aj.keep k3 _ _ (He.o hb)))
theorem A8h(ih:Jt b tb cap te ts n)(w:World)(s:PS)(r:BT A2×PS)(hk:kT s=6)(x bl:BT A2×PS)(hx:A7 n 0 0 .nil (Aa s)=some x)(hbl:A7 n 7 0 .nil x.2=some bl)(h7:kT bl.2=7)(c:BT A2×PS)(hc:A7 n 7 0 .nil (Aa bl.2)=some c)(hr:r=(nd (Ao 22 (A6 s).line) (B6 x.1 (B6 (nd (Ao 31 0) bl.1) (nd (Ao 31 0) c.1))),c.2))(hs:PR b tb cap te ts w s) :
  Calls Tryz.prog 187 #[.pointer (some ⟨b,0,none⟩)] w (Il b tb cap te ts w r):=by
 have HS:=A0 hs;have lb:=hs.lt;have Br:Hid (s.bad=0):=hs.E7 (by omega);have HR:=A0 hr;have HBp:=A0 hbl;have HBl:=A0 (fun(W:World) (h:PR b tb cap te ts W x.2)=>ih.block W x.2 bl h hbl);have HX:=A0 (fun(W:World) (h:PR b tb cap te ts W (Aa s))=>Ls ih W (Aa s) x h hx);have Jm:=Me;have tk:(kT bl.2==7)=true:=by simpa using h7
 have HM:Hid (F0 7 bl.2=Aa bl.2):=by show _=_;unfold F0;rw[if_pos h7]
 have HCl:=A0 (fun(W:World) (h:PR b tb cap te ts W (Aa bl.2))=>ih.block W (Aa bl.2) c h hc);have HCp:=A0 hc;clear hs hk hx hbl hr h7 hc;go_enter Tryz.func187,Tryz.ntmps187;go_wp2_with fail
 refine(Ii HS.o).mono ?_;rintro e w1 ⟨Jp,nn1,S1,rfl,G8,h1,B5⟩;have Bh:=A0 B5;have Ae:Hid (A1 b w w1):=(A1.refl b w).trans Bh.o;have Cz:=Ae.o.size;have Kj:=A0 G8;have H1:=A0 h1;clear h1 B5 G8;go_wp2_with fail
 refine(HX.o _ H1.o).mono ?_;rintro e w2 ⟨Jd,x2,rfl,h2,Ap,Bt⟩;have Cp:=A0 Ap;have Al:Hid (A1 b w w2):=Ae.o.trans Cp.o;have Fg:=Al.o.size;have F9:=A0 Bt;have H2:=A0 h2;clear h2 Ap Bt;go_wp2_with fail
 refine(HBl.o _ H2.o).mono ?_;rintro e w3 ⟨va3,vn3,vc3,cs3,rfl,J6,h3,Af,Cs⟩;have De:=A0 Af;have Ay:Hid (A1 b w w3):=Al.o.trans De.o;have lw3:=Ay.o.size;have He:=A0 Cs;have HOwn3:=A0 J6;have H3:=A0 h3;clear h3 Af Cs J6;have Hg:=A0 (heap_alloc_new w3 (.cells #[.int .i64 Jp,.iface Jd x2,.slice va3 vn3 vc3,.slice none 0 0] 314));have lw3b:w3.heap.size<(w3.alloc (.cells #[.int .i64 Jp,.iface Jd x2,.slice va3 vn3 vc3,.slice none 0 0] 314)).heap.size:=by simp
 go_wp2_with fail
 refine(Ni (PR.alloc H3.o _) 7).mono ?_;rintro e w4 ⟨rfl,h4,An⟩;have Dv:=A0 An;have B2:Hid (A1 b w w4):=(Ay.o.alloc _).trans Dv.o;have lw4:=B2.o.size;rw[tk];rw[HM.o]at h4;have H4:=A0 h4;clear h4 An;have HT4:=A0 (Dv.o.blk Hg.o (by omega));obtain⟨y0,y1,y2,y3,fy,ly⟩:=Ci HT4.o;go_wp2_with fail
 refine(HCl.o _ H4.o).mono ?_;rintro e w5 ⟨Ft,Fv,Fu,cs5,rfl,Fj,h5,Bd,hr5⟩;have Ei:=A0 Bd;have B9:Hid (A1 b w w5):=B2.o.trans Ei.o;have lw5:=B9.o.size;have HR5:=A0 hr5;have HOwn5:=A0 Fj;have H5:=A0 h5;clear h5 Bd hr5 Fj;have HT5:=A0 (Ei.o.blk HT4.o (by omega));clear y0 y1 y2 y3 fy ly;obtain⟨y0,y1,y2,y3,fy,ly⟩:=Ci HT5.o;go_wp2;go_ret;rw[HR.o];have hold:∀k,k≠w3.heap.size->(w5.setCell ⟨w3.heap.size,3,none⟩ (.slice Ft Fv Fu)).heap[k]?=w5.heap[k]?:=fun k hk=>Below.heap_setCell _ _ _ _ (by exact hk);refine⟨_,_,rfl,PR.other H5.o (by show b≠w3.heap.size;omega) (by show tb≠w3.heap.size;omega) _,A1.set (p:=⟨w3.heap.size,3,none⟩) B9.o (.inr (by show w.heap.size<=w3.heap.size;omega)) _,fun hb=>?_⟩;have Bc:bl.2.bad=0:=by have:=Pv H4.o.Jb HCp.o hb;rw[Ra]at this;exact this
 have hnew:(w5.setCell ⟨w3.heap.size,3,none⟩ (.slice Ft Fv Fu)).heap[w3.heap.size]?=some (.cells #[.int .i64 Jp,.iface Jd x2,.slice va3 vn3 vc3,.slice Ft Fv Fu] 314 (0,0)):=by
  have:=heap_set (j:=3) HT5.o (.slice Ft Fv Fu);simpa using this
 have k2:∀g,w1.heap.size<=g->g<w2.heap.size->(w5.setCell ⟨w3.heap.size,3,none⟩ (.slice Ft Fv Fu)).heap[g]?=w2.heap[g]?/\w.heap.size<=g:=fun g hg hl=>⟨(hold g (by have:=De.o.size;omega)).trans (((De.o.alloc _).trans (Dv.o.trans Ei.o)).block g hl (by omega)),by omega⟩;have k3:∀g,w2.heap.size<=g->g<w3.heap.size->(w5.setCell ⟨w3.heap.size,3,none⟩ (.slice Ft Fv Fu)).heap[g]?=w3.heap[g]?/\w.heap.size<=g:=fun g hg hl=>⟨(hold g (by omega)).trans ((((A1.refl b w3).alloc _).trans (Dv.o.trans Ei.o)).block g hl (by omega)),by omega⟩;have k5:∀g,w4.heap.size<=g->g<w5.heap.size->(w5.setCell ⟨w3.heap.size,3,none⟩ (.slice Ft Fv Fu)).heap[g]?=w5.heap[g]?/\w.heap.size<=g:=fun g hg hl=>⟨hold g (by have:=A5 HT4.o;omega),by omega⟩;refine Aj.one (l:=Ao 22 (A6 s).line) (ks:=[.iface Jd x2,.slice va3 vn3 vc3,.slice Ft Fv Fu]) (Ba.new (by simp[Ao]) (by show w.heap.size<=w3.heap.size;omega) hnew ⟨_,_,_,_,_,_,_,_,?_,.inr rfl⟩) ?_
 ·rw[(Kj.o Br.o).1];rfl
 ·refine Aj.app _ _ [_] [_,_] (Aj.keep k2 _ _ (F9.o (Pv H2.o.Jb HBp.o Bc))) (Aj.app _ _ [_] [_] (Aj.blk (.inl rfl) (HOwn3.o.keep k3) (Aj.keep k3 _ _ (He.o Bc))) (Aj.blk (.inl rfl) (HOwn5.o.keep k5) (Aj.keep k5 _ _ (HR5.o hb))))
end
section
set_option maxRecDepth 100000
open Go.RowKit
open Go.Deep (BT)
theorem Dz{P:Program}{T e xT:TypeId}(hu:P.underlying T=some (.pointer e))(v:Value)(w:World):(Instr.typeAssert (.iface T v) xT T true).run P w=.ok (.tuple #[v,.bool true]) w:=by
 simp[Instr.typeAssert,run_underlying hu]
theorem Az{P:Program}{T e t xT:TypeId}{z:Value}(hu:P.underlying T=some (.pointer e))(hz:(P.info? T).map (·.zero)=some (some z))(h:t≠T)(v:Value)(w:World):(Instr.typeAssert (.iface t v) xT T true).run P w=.ok (.tuple #[z,.bool false]) w:=by
 obtain⟨i,hi,hz⟩:∃i,P.info? T=some i/\i.zero=some z:=by
  cases hi:P.info? T with
  | none=>rw[hi]at hz;cases hz
  | some i=>rw[hi]at hz;exact⟨i,rfl,Option.some.inj hz⟩
 simp[Instr.typeAssert,run_underlying hu,h,zeroValue,typeInfo,hi,hz]
def Ol(t:TypeId):Bool:=t==238||t==310
theorem Ss(t:TypeId)(x:Value)(w:World):Calls Tryz.prog 233 #[.iface t x] w fun e w'=>e=.returned (.bool (Ol t))/\w'=w:=by
 by_cases h1:t=238
 ·subst h1;have a1:=fun w=>Dz (P:=Tryz.prog) (xT:=150) Tryz.underlying238 x w;have a2:=fun w=>Az (P:=Tryz.prog) (t:=238) (T:=310) (xT:=150) (z:=.pointer none) Tryz.underlying310 (by kernel_rfl) (by decide) x w;go_enter Tryz.func233,Tryz.ntmps233;go_wp2;go_ret;exact⟨rfl,rfl⟩
 by_cases h2:t=310
 ·subst h2;have a1:=fun w=>Az (P:=Tryz.prog) (t:=310) (T:=238) (xT:=150) (z:=.pointer none) Tryz.underlying238 (by kernel_rfl) (by decide) x w;have a2:=fun w=>Dz (P:=Tryz.prog) (xT:=150) Tryz.underlying310 x w;clear h1;go_enter Tryz.func233,Tryz.ntmps233;go_wp2;go_ret;exact⟨rfl,rfl⟩
 ·have a1:=fun w=>Az (P:=Tryz.prog) (t:=t) (T:=238) (xT:=150) (z:=.pointer none) Tryz.underlying238 (by kernel_rfl) h1 x w;have a2:=fun w=>Az (P:=Tryz.prog) (t:=t) (T:=310) (xT:=150) (z:=.pointer none) Tryz.underlying310 (by kernel_rfl) h2 x w;have HC:Hid (Ol t=false):=by
   show _=_;unfold Ol;rw[beq_eq_false_iff_ne.2 h1,beq_eq_false_iff_ne.2 h2];rfl
  clear h1 h2;go_enter Tryz.func233,Tryz.ntmps233;go_wp2;go_ret;exact⟨Nu HC.o.symm,rfl⟩
theorem A93(kd:Nat):Ol (C3 kd)=(kd==6||kd==12):=by
 by_cases h6:kd=6
 ·subst h6;rfl
 by_cases h12:kd=12
 ·subst h12;rfl
 rw[beq_eq_false_iff_ne.2 h6,beq_eq_false_iff_ne.2 h12];unfold C3;split <;> first|rfl|(exfalso;omega)
theorem W8{D:Nat->Prop}{W:World}{f v:BT A2}{t:TypeId}{x vv:Value}(h:Aj D W f [.iface t x])(hv:Aj D W v [vv]) :
  Ol t=Lh f/\(Lh f=true->∃l ch ks,setNode f v=nd l ch/\¬(l.kd=31\/l.kd=32)/\C3 l.kd=268/\Db l.kd=322/\Ck D W l #[.iface t x,vv] ks/\Aj D W ch ks):=by
 cases f with
 | nil=>rw[Aj]at h;cases h
 | node x0 y0 l ch sib=>
  obtain⟨v0,ks,rest,e,h1,h2,h3⟩:=h;injection e with e1 e2;subst e1 e2;unfold Ba at h1;split at h1
  ·obtain⟨⟨_,_,_,e⟩,_⟩:=h1;cases e
  ·obtain⟨b2,cs,e,hD,hb,hl⟩:=h1;injection e with e1 e2;subst e1 e2;refine⟨A93 l.kd,fun hc=>?_⟩;have hc':(l.kd==6||l.kd==12)=true:=hc;simp only[Bool.or_eq_true,beq_iff_eq]at hc';rcases hc' with h6|h12
   ·unfold Ck at hl;rw[h6]at hl;simp only at hl;obtain⟨rfl,rfl⟩:=hl;have hb':W.heap[b2]?=some (.cells #[Gz l.line,Ln l.s] 240 (0,0)):=by rw[hb,h6];rfl
    refine⟨⟨28,l.line,l.s,0,[]⟩,v,[vv],?_,by simp,rfl,rfl,⟨b2,vv,?_,hD,hb',rfl⟩,hv⟩
    ·unfold setNode Dd;rw[if_pos h6]
    ·rw[h6];rfl
   ·unfold Ck at hl;rw[h12]at hl;simp only at hl;obtain⟨a,b,rfl,rfl⟩:=hl;have hb':W.heap[b2]?=some (.cells #[Gz l.line,a,b] 312 (0,0)):=by rw[hb,h12];rfl
    refine⟨Ao 29 l.line,B6 ch v,[a,b,vv],?_,by simp[Ao],rfl,rfl,⟨b2,a,b,vv,?_,hD,hb',rfl⟩,Aj.app _ _ [a,b] [vv] h2 hv⟩
    ·unfold setNode Dd M6;rw[if_neg (show ¬l.kd=6 by omega)]
    ·rw[h12];rfl
end
section
set_option maxRecDepth 100000
open Go.RowKit
open Go.Deep (BT)
variable {b tb cap te:Nat}{ts:List Tk}{n:Nat}
theorem J2{w:World}{g:Nat}{a0 a1:Value}{t:TypeId}(h:w.heap[g]?=some (.cells #[a0,a1] t (0,0))) :
  w.cell? ⟨g,0,none⟩=some a0/\w.cell? ⟨g,1,none⟩=some a1/\(∀o,w.frozen? ⟨g,o,none⟩=false)/\g<w.heap.size:=
 ⟨Ac h 0 _ rfl,Ac h 1 _ rfl,Ce h,A5 h⟩
def Pd(b tb cap te:Nat)(ts:List Tk)(w:World)(r:BT A2×PS)(e:Ending)(w':World):Prop:=
 ∃r':BT A2×PS,Il b tb cap te ts w r' e w'/\r.1=r'.1/\r.2=Ah 25 r'.2
theorem Ac6(w:World)(s:PS)(r:BT A2×PS)(hk:kT s=9)(Bk:kT (Aa s)=25)(hs:PR b tb cap te ts w s)(hp:A7 (n+1) 9 0 .nil s=some r) :
  Calls Tryz.prog 190 #[.pointer (some ⟨b,0,none⟩)] w (Pd b tb cap te ts w r):=by
 have HS:=A0 hs;have lb:=hs.lt;have Jm:=Me;have HR:=A0 (To hk Bk hp);have Br:Hid (s.bad=0):=hs.E7 (by omega);have t25:((kT (Aa s):Int) !=25)=false:=by rw[Bk];rfl
 have t9:((kT s:Int)==9)=true:=ke (c:=9) rfl hk;clear hp hs hk Bk;go_enter Tryz.func190,Tryz.ntmps190;go_wp2_with fail
 refine(Dl HS.o).mono ?_;rintro e w1 ⟨rfl,h1,A3⟩;have Bh:=A0 (Below.only (b:=b) A3);have Ae:Hid (A1 b w w1):=(A1.refl b w).trans Bh.o;have Cz:=Ae.o.size;have H1:=A0 h1;clear h1 A3;go_wp2_with fail
 refine(Ii H1.o).mono ?_;rintro e w2 ⟨Gp,nn2,S2,rfl,F3,h2,Ap⟩;have Cp:=A0 Ap;have Al:Hid (A1 b w w2):=Ae.o.trans Cp.o;have Fg:=Al.o.size;have Ef:=A0 F3;have H2:=A0 h2;clear h2 Ap F3;have K5:=A0 (heap_alloc_new w2 (.cells #[.int .i64 Gp,.nilIface] 318));go_wp2_with fail
 refine(Dl (PR.alloc H2.o _)).mono ?_;rintro e w3 ⟨rfl,h3,Ar⟩;have De:=A0 (Below.only (b:=b) Ar);have Ay:Hid (A1 b w w3):=(Al.o.alloc _).trans De.o;have lw3:=Ay.o.size;have H3:=A0 h3;clear h3 Ar;go_wp2;go_ret;rw[HR.o];refine⟨(nd (Ao 24 (A6 s).line) .nil,Aa s),⟨_,_,rfl,H3.o,Ay.o,fun hb=>?_⟩,rfl,rfl⟩;refine Aj.one (l:=Ao 24 (A6 s).line) (ks:=[]) (Ba.new (by simp[Ao]) (by show w.heap.size<=w2.heap.size;omega) (De.o.blk K5.o (by omega)) ⟨_,?_,.inl ⟨rfl,rfl⟩⟩) rfl;rw[(Ef.o Br.o).1];rfl
theorem Ac7(ih:Jt b tb cap te ts n)(w:World)(s:PS)(r:BT A2×PS)(hk:kT s=9)(Bk:kT (Aa s)≠25)(hs:PR b tb cap te ts w s)(hp:A7 (n+1) 9 0 .nil s=some r) :
  Calls Tryz.prog 190 #[.pointer (some ⟨b,0,none⟩)] w (Pd b tb cap te ts w r):=by
 have HS:=A0 hs;have lb:=hs.lt;have Jm:=Me;obtain⟨x,hx,hr⟩:=Tn hk Bk hp;have HR:=A0 hr;have Br:Hid (s.bad=0):=hs.E7 (by omega);have t25:((kT (Aa s):Int) !=25)=true:=by simp;omega
 have HX:=A0 (fun(W:World) (h:PR b tb cap te ts W (Aa s))=>Ls ih W (Aa s) x h hx);have t9:((kT s:Int)==9)=true:=ke (c:=9) rfl hk;clear hp hs hk Bk hx hr;go_enter Tryz.func190,Tryz.ntmps190;go_wp2_with fail
 refine(Dl HS.o).mono ?_;rintro e w1 ⟨rfl,h1,A3⟩;have Bh:=A0 (Below.only (b:=b) A3);have Ae:Hid (A1 b w w1):=(A1.refl b w).trans Bh.o;have Cz:=Ae.o.size;have H1:=A0 h1;clear h1 A3;go_wp2_with fail
 refine(Ii H1.o).mono ?_;rintro e w2 ⟨Gp,nn2,S2,rfl,F3,h2,Ap⟩;have Cp:=A0 Ap;have Al:Hid (A1 b w w2):=Ae.o.trans Cp.o;have Fg:=Al.o.size;have Ef:=A0 F3;have H2:=A0 h2;clear h2 Ap F3;have K5:=A0 (heap_alloc_new w2 (.cells #[.int .i64 Gp,.nilIface] 318));have lw2b:w2.heap.size<(w2.alloc (.cells #[.int .i64 Gp,.nilIface] 318)).heap.size:=by simp
 go_wp2_with fail
 refine(Dl (PR.alloc H2.o _)).mono ?_;rintro e w3 ⟨rfl,h3,Ar⟩;have De:=A0 (Below.only (b:=b) Ar);have Ay:Hid (A1 b w w3):=(Al.o.alloc _).trans De.o;have lw3:=Ay.o.size;have H3:=A0 h3;clear h3 Ar;have Hg:=A0 (De.o.blk K5.o (by omega));go_wp2_with fail
 refine(HX.o _ H3.o).mono ?_;rintro e w4 ⟨ty4,x4,rfl,h4,An,Ch⟩;have Dv:=A0 An;have B2:Hid (A1 b w w4):=Ay.o.trans Dv.o;have lw4:=B2.o.size;have I8:=A0 Ch;have H4:=A0 h4;clear h4 An Ch;have HT4:=A0 (Dv.o.blk Hg.o (by omega));obtain⟨y0,y1,fy,ly⟩:=J2 HT4.o;go_wp2;go_ret;rw[HR.o];have hold:∀k,k≠w2.heap.size->(w4.setCell ⟨w2.heap.size,1,none⟩ (.iface ty4 x4)).heap[k]?=w4.heap[k]?:=fun k hk=>Below.heap_setCell _ _ _ _ (by exact hk);refine⟨(nd (Ao 24 (A6 s).line) x.1,x.2),⟨_,_,rfl,PR.other H4.o (by show b≠w2.heap.size;omega) (by show tb≠w2.heap.size;omega) _,A1.set (p:=⟨w2.heap.size,1,none⟩) B2.o (.inr (by show w.heap.size<=w2.heap.size;omega)) _,fun hb=>?_⟩,rfl,rfl⟩;have hnew:(w4.setCell ⟨w2.heap.size,1,none⟩ (.iface ty4 x4)).heap[w2.heap.size]?=some (.cells #[.int .i64 Gp,.iface ty4 x4] 318 (0,0)):=by
  have:=heap_set (j:=1) HT4.o (.iface ty4 x4);simpa using this
 have lw3b:=A5 Hg.o;refine Aj.one (l:=Ao 24 (A6 s).line) (ks:=[.iface ty4 x4]) (Ba.new (by simp[Ao]) (by show w.heap.size<=w2.heap.size;omega) hnew ⟨_,?_,.inr rfl⟩) (Aj.keep (fun g (hg:w3.heap.size<=g) _=>⟨hold g (by omega),by omega⟩) _ _ (I8.o hb));rw[(Ef.o Br.o).1];rfl
theorem Aah(w:World)(s:PS)(r:BT A2×PS)(hk:kT s=10)(hs:PR b tb cap te ts w s)(hp:A7 (n+1) 9 0 .nil s=some r) :
  Calls Tryz.prog 190 #[.pointer (some ⟨b,0,none⟩)] w (Pd b tb cap te ts w r):=by
 have HS:=A0 hs;have lb:=hs.lt;have Jm:=Me;have HR:=A0 (Th hk hp);have Br:Hid (s.bad=0):=hs.E7 (by omega);have t9:((kT s:Int)==9)=false:=kn (c:=9) rfl (by omega);have t10:((kT s:Int)==10)=true:=ke (c:=10) rfl hk;clear hp hs hk;go_enter Tryz.func190,Tryz.ntmps190;go_wp2_with fail
 refine(Dl HS.o).mono ?_;rintro e w1 ⟨rfl,h1,A3⟩;have Bh:=A0 (Below.only (b:=b) A3);have Ae:Hid (A1 b w w1):=(A1.refl b w).trans Bh.o;have Cz:=Ae.o.size;have H1:=A0 h1;clear h1 A3;go_wp2_with fail
 refine(Ii H1.o).mono ?_;rintro e w2 ⟨Gp,nn2,S2,rfl,F3,h2,Ap⟩;have Cp:=A0 Ap;have Al:Hid (A1 b w w2):=Ae.o.trans Cp.o;have Fg:=Al.o.size;have Ef:=A0 F3;have H2:=A0 h2;clear h2 Ap F3;go_wp2;go_ret;rw[HR.o];refine⟨(nd (Ao 25 (A6 s).line) .nil,Aa s),Ir (l:=Ao 25 (A6 s).line) (ch:=.nil) (ks:=[]) H2.o Al.o rfl (by simp[Ao]) rfl rfl (fun _=>⟨⟨?_,rfl⟩,rfl⟩),rfl,rfl⟩;rw[(Ef.o Br.o).1];rfl
theorem Aan(w:World)(s:PS)(r:BT A2×PS)(hk:kT s=11)(hs:PR b tb cap te ts w s)(hp:A7 (n+1) 9 0 .nil s=some r) :
  Calls Tryz.prog 190 #[.pointer (some ⟨b,0,none⟩)] w (Pd b tb cap te ts w r):=by
 have HS:=A0 hs;have lb:=hs.lt;have Jm:=Me;have HR:=A0 (Ti hk hp);have Br:Hid (s.bad=0):=hs.E7 (by omega);have t9:((kT s:Int)==9)=false:=kn (c:=9) rfl (by omega);have t10:((kT s:Int)==10)=false:=kn (c:=10) rfl (by omega);have t11:((kT s:Int)==11)=true:=ke (c:=11) rfl hk;clear hp hs hk;go_enter Tryz.func190,Tryz.ntmps190;go_wp2_with fail
 refine(Dl HS.o).mono ?_;rintro e w1 ⟨rfl,h1,A3⟩;have Bh:=A0 (Below.only (b:=b) A3);have Ae:Hid (A1 b w w1):=(A1.refl b w).trans Bh.o;have Cz:=Ae.o.size;have H1:=A0 h1;clear h1 A3;go_wp2_with fail
 refine(Ii H1.o).mono ?_;rintro e w2 ⟨Gp,nn2,S2,rfl,F3,h2,Ap⟩;have Cp:=A0 Ap;have Al:Hid (A1 b w w2):=Ae.o.trans Cp.o;have Fg:=Al.o.size;have Ef:=A0 F3;have H2:=A0 h2;clear h2 Ap F3;go_wp2;go_ret;rw[HR.o];refine⟨(nd (Ao 26 (A6 s).line) .nil,Aa s),Ir (l:=Ao 26 (A6 s).line) (ch:=.nil) (ks:=[]) H2.o Al.o rfl (by simp[Ao]) rfl rfl (fun _=>⟨⟨?_,rfl⟩,rfl⟩),rfl,rfl⟩;rw[(Ef.o Br.o).1];rfl
theorem Ac2(ih:Jt b tb cap te ts n)(w:World)(s:PS)(r:BT A2×PS)(hk:kT s=12)(hs:PR b tb cap te ts w s)(hp:A7 (n+1) 9 0 .nil s=some r) :
  Calls Tryz.prog 190 #[.pointer (some ⟨b,0,none⟩)] w (Pd b tb cap te ts w r):=by
 have HS:=A0 hs;have lb:=hs.lt;have Jm:=Me;obtain⟨x,hx,hr⟩:=Tm hk hp;have HR:=A0 hr;have Br:Hid (s.bad=0):=hs.E7 (by omega);have HX:=A0 (fun(W:World) (h:PR b tb cap te ts W (Aa s))=>Ls ih W (Aa s) x h hx);have t9:((kT s:Int)==9)=false:=kn (c:=9) rfl (by omega);have t10:((kT s:Int)==10)=false:=kn (c:=10) rfl (by omega);have t11:((kT s:Int)==11)=false:=kn (c:=11) rfl (by omega);have t12:((kT s:Int)==12)=true:=ke (c:=12) rfl hk;clear hp hs hk hx hr;go_enter Tryz.func190,Tryz.ntmps190;go_wp2_with fail
 refine(Dl HS.o).mono ?_;rintro e w1 ⟨rfl,h1,A3⟩;have Bh:=A0 (Below.only (b:=b) A3);have Ae:Hid (A1 b w w1):=(A1.refl b w).trans Bh.o;have Cz:=Ae.o.size;have H1:=A0 h1;clear h1 A3;go_wp2_with fail
 refine(Ii H1.o).mono ?_;rintro e w2 ⟨Gp,nn2,S2,rfl,F3,h2,Ap⟩;have Cp:=A0 Ap;have Al:Hid (A1 b w w2):=Ae.o.trans Cp.o;have Fg:=Al.o.size;have Ef:=A0 F3;have H2:=A0 h2;clear h2 Ap F3;go_wp2_with fail
 refine(HX.o _ H2.o).mono ?_;rintro e w3 ⟨ty3,x3,rfl,h3,Af,Cs⟩;have De:=A0 Af;have Ay:Hid (A1 b w w3):=Al.o.trans De.o;have lw3:=Ay.o.size;have He:=A0 Cs;have H3:=A0 h3;clear h3 Af Cs;go_wp2;go_ret;rw[HR.o];refine⟨(nd (Ao 27 (A6 s).line) x.1,x.2),Ir (l:=Ao 27 (A6 s).line) (ch:=x.1) (ks:=[.iface ty3 x3]) H3.o Ay.o rfl (by simp[Ao]) rfl rfl (fun hb=>⟨⟨_,?_,rfl⟩,Aj.weak (by omega) (He.o hb)⟩),rfl,rfl⟩;rw[(Ef.o Br.o).1];rfl
theorem Ac8(ih:Jt b tb cap te ts n)(w:World)(s:PS)(r:BT A2×PS)(hk:¬(5<=kT s/\kT s<=12/\kT s≠7))(hs:PR b tb cap te ts w s)(hp:A7 (n+1) 9 0 .nil s=some r) :
  Calls Tryz.prog 190 #[.pointer (some ⟨b,0,none⟩)] w (Pd b tb cap te ts w r):=by
 have HS:=A0 hs;have lb:=hs.lt;have Jm:=Me;obtain⟨x,hx,hc⟩:=S0 hk hp;have HC:=A0 hc;have HX:=A0 (fun(W:World) (h:PR b tb cap te ts W s)=>Ls ih W s x h hx);have t9:((kT s:Int)==9)=false:=kn (c:=9) rfl (by omega);have t10:((kT s:Int)==10)=false:=kn (c:=10) rfl (by omega);have t11:((kT s:Int)==11)=false:=kn (c:=11) rfl (by omega);have t12:((kT s:Int)==12)=false:=kn (c:=12) rfl (by omega);clear hp hs hk hx hc Jm;go_enter Tryz.func190,Tryz.ntmps190;go_wp2_with fail
 refine(Dl HS.o).mono ?_;rintro e w1 ⟨rfl,h1,A3⟩;have Bh:=A0 (Below.only (b:=b) A3);have Ae:Hid (A1 b w w1):=(A1.refl b w).trans Bh.o;have Cz:=Ae.o.size;have H1:=A0 h1;clear h1 A3;go_wp2_with fail
 refine(HX.o _ H1.o).mono ?_;rintro e w2 ⟨Jd,x2,rfl,h2,Ap,Bt⟩;have Cp:=A0 Ap;have Al:Hid (A1 b w w2):=Ae.o.trans Cp.o;have Fg:=Al.o.size;have F9:=A0 Bt;have H2:=A0 h2;clear h2 Ap Bt;rcases HC.o with⟨c1,c2,v,hv,hr⟩|⟨c1,c2,v,hv,hr⟩|⟨c2,hr⟩
 ·have Cf:x.2.bad=0:=H2.o.E7 (by omega);have tc:Ol Jd=true:=by rw[(W8 (F9.o Cf) (F9.o Cf)).1];exact c1
  have HCs:=A0 c1;have HB:=A0 Cf;have HR:=A0 hr;have tk:(kT x.2==26)=true:=by simpa using c2
  have HM:Hid (F0 26 x.2=Aa x.2):=by show _=_;unfold F0;rw[if_pos c2]
  have HV:=A0 (fun(W:World) (h:PR b tb cap te ts W (Aa x.2))=>Ls ih W (Aa x.2) v h hv);clear c1 c2 hv hr HC Cf;go_wp2_with fail
  refine(Ss _ _ _).mono ?_;rintro e w' ⟨rfl,rfl⟩;rw[tc];go_wp2_with fail
  refine(Ni H2.o 26).mono ?_;rintro e w3 ⟨rfl,h3,Af⟩;have De:=A0 Af;have Ay:Hid (A1 b w w3):=Al.o.trans De.o;have lw3:=Ay.o.size;rw[tk];rw[HM.o]at h3;have H3:=A0 h3;clear h3 Af;go_wp2_with fail
  refine(HV.o _ H3.o).mono ?_;rintro e w4 ⟨ty4,x4,rfl,h4,An,Ch⟩;have Dv:=A0 An;have B2:Hid (A1 b w w4):=Ay.o.trans Dv.o;have lw4:=B2.o.size;have I8:=A0 Ch;have H4:=A0 h4;clear h4 An Ch;go_wp2;go_ret;rw[HR.o];refine⟨(setNode x.1 v.1,v.2),⟨_,_,rfl,PR.alloc H4.o _,B2.o.alloc _,fun hb=>?_⟩,rfl,rfl⟩;have r2:Aj (fun g=>w.heap.size<=g) w4 x.1 [.iface Jd x2]:=Aj.later (by omega) (by omega) (De.o.trans Dv.o) (F9.o HB.o);have r4:Aj (fun g=>w.heap.size<=g) w4 v.1 [.iface ty4 x4]:=Aj.weak (by omega) (I8.o hb);obtain⟨l,ch,ks,e1,e2,e3,e4,e5,e6⟩:=(W8 r2 r4).2 HCs.o;have hcl:=Ir (w:=w) (W:=w4) (r:=(setNode x.1 v.1,v.2)) (l:=l) (ch:=ch) (ks:=ks) (cs:=#[.iface Jd x2,.iface ty4 x4]) (t:=268) (tt:=322) H4.o B2.o e1 e2 e3.symm e4.symm (fun _=>⟨e5,e6⟩);obtain⟨t',x',e',_,_,hrr⟩:=hcl;injection e' with e';rw[←e']at hrr;exact hrr hb
 ·have Cf:x.2.bad=0:=H2.o.E7 (by omega);have tc:Ol Jd=false:=by rw[(W8 (F9.o Cf) (F9.o Cf)).1];exact c1
  have hf:(Cm x.2).bad≠0:=V4 (fun e=>(H2.o.lines e).1);have hv2:v.2=Cm x.2:=Lm (Qr _ Cf) hf _ _ _ _ _ hv;have hw:Ah 25 v.2=Ah 25 x.2:=by
   rw[hv2,A09 (by decide) hf (Qr _ Cf)];unfold Ah;rw[if_neg (by omega)]
  have HR:Hid (r=(nd (Ao 30 (Dd x.1).line) x.1,Ah 25 x.2)):=by show _=_;rw[hr,hw]
  clear c1 c2 hv hr HC Cf hf hv2 hw;go_wp2_with fail
  refine(Ss _ _ _).mono ?_;rintro e w' ⟨rfl,rfl⟩;rw[tc];go_wp2;go_ret;rw[HR.o];refine⟨(nd (Ao 30 (Dd x.1).line) x.1,x.2),?_,rfl,rfl⟩;exact Ir (l:=Ao 30 (Dd x.1).line) (ch:=x.1) (ks:=[.iface Jd x2]) H2.o Al.o rfl (by simp[Ao]) rfl rfl (fun hb=>⟨⟨_,rfl,rfl⟩,Aj.weak (by omega) (F9.o hb)⟩)
 ·have HR:=A0 hr;have tk:(kT x.2==26)=false:=by simpa using c2
  have HM:Hid (F0 26 x.2=x.2):=by show _=_;unfold F0;rw[if_neg c2]
  clear c2 hr HC;cases tc:Ol Jd
  ·go_wp2_with fail
   refine(Ss _ _ _).mono ?_;rintro e w' ⟨rfl,rfl⟩;rw[tc];go_wp2;go_ret;rw[HR.o];refine⟨(nd (Ao 30 (Dd x.1).line) x.1,x.2),?_,rfl,rfl⟩;exact Ir (l:=Ao 30 (Dd x.1).line) (ch:=x.1) (ks:=[.iface Jd x2]) H2.o Al.o rfl (by simp[Ao]) rfl rfl (fun hb=>⟨⟨_,rfl,rfl⟩,Aj.weak (by omega) (F9.o hb)⟩)
  ·go_wp2_with fail
   refine(Ss _ _ _).mono ?_;rintro e w' ⟨rfl,rfl⟩;rw[tc];go_wp2_with fail
   refine(Ni H2.o 26).mono ?_;rintro e w3 ⟨rfl,h3,Af⟩;have De:=A0 Af;have Ay:Hid (A1 b w w3):=Al.o.trans De.o;have lw3:=Ay.o.size;rw[tk];rw[HM.o]at h3;have H3:=A0 h3;clear h3 Af;go_wp2;go_ret;rw[HR.o];refine⟨(nd (Ao 30 (Dd x.1).line) x.1,x.2),?_,rfl,rfl⟩;exact Ir (l:=Ao 30 (Dd x.1).line) (ch:=x.1) (ks:=[.iface Jd x2]) H3.o Ay.o rfl (by simp[Ao]) rfl rfl (fun hb=>⟨⟨_,rfl,rfl⟩,Aj.later (by omega) (by omega) De.o (F9.o hb)⟩)
theorem A90(ih:Jt b tb cap te ts n)(w:World)(s:PS)(r:BT A2×PS)(h5:kT s≠5)(h6:kT s≠6)(h8:kT s≠8)(hs:PR b tb cap te ts w s)(hp:A7 (n+1) 9 0 .nil s=some r) :
  Calls Tryz.prog 190 #[.pointer (some ⟨b,0,none⟩)] w (Pd b tb cap te ts w r):=by
 by_cases c9:kT s=9
 ·by_cases c25:kT (Aa s)=25
  ·exact Ac6 w s r c9 c25 hs hp
  ·exact Ac7 ih w s r c9 c25 hs hp
 by_cases c10:kT s=10
 ·exact Aah w s r c10 hs hp
 by_cases c11:kT s=11
 ·exact Aan w s r c11 hs hp
 by_cases c12:kT s=12
 ·exact Ac2 ih w s r c12 hs hp
 exact Ac8 ih w s r (by omega) hs hp
theorem A91(ih:Jt b tb cap te ts n)(w:World)(s:PS)(r:BT A2×PS)(hs:PR b tb cap te ts w s)(hp:A7 (n+1) 9 0 .nil s=some r) :
  Calls Tryz.prog 132 #[.pointer (some ⟨b,0,none⟩)] w (Il b tb cap te ts w r):=by
 by_cases c8:kT s=8
 ·exact A98 ih w s r c8 hs hp
 have HS:=A0 hs;have lb:=hs.lt;by_cases c5:kT s=5
 ·have HX:=A0 (fun(W:World) (h:PR b tb cap te ts W s)=>A8k ih W s r c5 h hp);have t5:((kT s:Int)==5)=true:=ke (c:=5) rfl c5;clear hp hs c5 c8;go_enter Tryz.func132,Tryz.ntmps132;go_wp2_with fail
  refine(Dl HS.o).mono ?_;rintro e w1 ⟨rfl,h1,A3⟩;have Bh:=A0 (Below.only (b:=b) A3);have Ae:Hid (A1 b w w1):=(A1.refl b w).trans Bh.o;have Cz:=Ae.o.size;have H1:=A0 h1;clear h1 A3;go_wp2_with fail
  refine(HX.o _ H1.o).mono ?_;rintro e w2 ⟨Jd,x2,rfl,h2,Ap,Bt⟩;have Cp:=A0 Ap;have Al:Hid (A1 b w w2):=Ae.o.trans Cp.o;have Fg:=Al.o.size;have F9:=A0 Bt;have H2:=A0 h2;clear h2 Ap Bt;go_wp2;go_ret;exact⟨_,_,rfl,H2.o,Al.o,fun hb=>Aj.weak (by omega) (F9.o hb)⟩
 have t5:((kT s:Int)==5)=false:=kn (c:=5) rfl c5;by_cases c6:kT s=6
 ·have HX:Hid (∀W,PR b tb cap te ts W s->Calls Tryz.prog 187 #[.pointer (some ⟨b,0,none⟩)] W (Il b tb cap te ts W r)):=by
   intro W h;obtain⟨x,bl,h1,h2,⟨h3,c,h4,e⟩|⟨h3,e⟩⟩:=Tj c6 hp
   ·exact A8h ih W s r c6 x bl h1 h2 h3 c h4 e h
   ·exact A8g ih W s r c6 x bl h1 h2 h3 e h
  have t6:((kT s:Int)==6)=true:=ke (c:=6) rfl c6;clear hp hs c5 c8 c6;go_enter Tryz.func132,Tryz.ntmps132;go_wp2_with fail
  refine(Dl HS.o).mono ?_;rintro e w1 ⟨rfl,h1,A3⟩;have Bh:=A0 (Below.only (b:=b) A3);have Ae:Hid (A1 b w w1):=(A1.refl b w).trans Bh.o;have Cz:=Ae.o.size;have H1:=A0 h1;clear h1 A3;go_wp2_with fail
  refine(HX.o _ H1.o).mono ?_;rintro e w2 ⟨Jd,x2,rfl,h2,Ap,Bt⟩;have Cp:=A0 Ap;have Al:Hid (A1 b w w2):=Ae.o.trans Cp.o;have Fg:=Al.o.size;have F9:=A0 Bt;have H2:=A0 h2;clear h2 Ap Bt;go_wp2;go_ret;exact⟨_,_,rfl,H2.o,Al.o,fun hb=>Aj.weak (by omega) (F9.o hb)⟩
 have t6:((kT s:Int)==6)=false:=kn (c:=6) rfl c6;have t8:((kT s:Int)==8)=false:=kn (c:=8) rfl c8;have HX:=A0 (fun(W:World) (h:PR b tb cap te ts W s)=>A90 ih W s r c5 c6 c8 h hp);clear hp hs c5 c8 c6;go_enter Tryz.func132,Tryz.ntmps132;go_wp2_with fail
 refine(Dl HS.o).mono ?_;rintro e w1 ⟨rfl,h1,A3⟩;have Bh:=A0 (Below.only (b:=b) A3);have Ae:Hid (A1 b w w1):=(A1.refl b w).trans Bh.o;have Cz:=Ae.o.size;have H1:=A0 h1;clear h1 A3;go_wp2_with fail
 refine(HX.o _ H1.o).mono ?_;rintro e w2 ⟨r2,⟨Jd,x2,rfl,h2,Ap,Bt⟩,e21,e22⟩;have Cp:=A0 Ap;have Al:Hid (A1 b w w2):=Ae.o.trans Cp.o;have Fg:=Al.o.size;have F9:=A0 Bt;have HE1:=A0 e21;have HE2:=A0 e22;have H2:=A0 h2;clear h2 Ap Bt e21 e22;go_wp2_with fail
 refine(K2 H2.o 25).mono ?_;rintro e w3 ⟨kk3,ln3,nn3,S3,rfl,htk3,h3,Af⟩;have De:=A0 Af;have Ay:Hid (A1 b w w3):=Al.o.trans De.o;have lw3:=Ay.o.size;have HTk3:=A0 htk3;have H3:=A0 h3;clear h3 Af htk3;go_wp2;go_ret;refine⟨_,_,rfl,by rw[HE2.o];exact H3.o,Ay.o,fun hb=>?_⟩;rw[HE2.o]at hb;rw[HE1.o];exact Aj.later (by omega) (by omega) De.o (F9.o (Mk hb))
theorem Xb{b tb cap te:Nat}{ts:List Tk}:∀N n,n<=N->n<=500000->Jt b tb cap te ts n:=by
 intro N;induction N with
 | zero=>
  intro n hn _;obtain rfl:n=0:=by omega
  exact⟨fun _ _ _ _ _ _ h=>absurd h (Cc _ _ _ _ _),fun _ _ _ _ h=>absurd h (Cc _ _ _ _ _),fun _ _ _ _ h=>absurd h (Cc _ _ _ _ _),fun _ _ _ _ _ h=>absurd h (Cc _ _ _ _ _),fun _ _ _ _ h=>absurd h (Cc _ _ _ _ _),fun _ _ _ _ h=>absurd h (Cc _ _ _ _ _)⟩
 | succ N ih=>
  intro n hn h5;cases n with
  | zero=>exact ih 0 (by omega) (by omega)
  | succ n=>
   have ihn:∀m,m<=n->Jt b tb cap te ts m:=fun m hm=>ih m (by omega) (by omega);exact⟨fun w s a r ha hs hp=>A8d ihn w s a r ha hs hp,fun w s r hs hp=>A94 ihn w s r hs hp,fun w s r hs hp=>A8c (ihn n (Nat.le_refl _)) w s r hs hp,
    fun w s a r hs hp=>A6g ihn (by omega) w s a r hs hp,fun w s r hs hp=>A8e ihn (by omega) w s r hs hp,fun w s r hs hp=>A91 (ihn n (Nat.le_refl _)) w s r hs hp⟩
end
end Go.Proofs.YtjdlndhfaaolaaaGreatDoor
