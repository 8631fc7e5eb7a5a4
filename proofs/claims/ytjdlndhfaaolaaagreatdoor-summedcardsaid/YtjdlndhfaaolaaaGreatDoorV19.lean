import Derived.Test.YtjdlndhfaaolaaaGreatDoorV17
import Derived.Test.YtjdlndhfaaolaaaGreatDoorV18
set_option maxHeartbeats 20000000
namespace Go.Proofs.YtjdlndhfaaolaaaGreatDoor
section
set_option maxRecDepth 100000
open Go.RowKit
open Go.Deep (BT)
theorem Apy{k:Nat}{s:PS}(h:(Be k s).bad≠0)(hs:s.bad≠0->s.ts=[Ij]):(Be k s).ts=[Ij]:=by
 unfold Be at h ⊢;split
 ·rename_i hk;rw[if_pos hk,Re]at h;unfold As;rw[if_pos (by unfold kT B6;rw[hs h];rfl)];exact hs h
 ·unfold Eg;split
  ·rfl
  ·rename_i h0;exact hs h0
def A5m(b tb cap te:Nat)(ts:List Tk)(w:World)(p:List (Nat×List UInt8)×PS)(e:Ending)(w':World):Prop:=
 ∃va vn vc m cs,e=.returned (.slice va vn vc)/\Cw (fun g=>w.heap.size<=g) w' 148 2 (.slice va vn vc) m cs/\PR b tb cap te ts w' p.2/\A9 b w w'/\(p.2.bad=0->m=p.1.length/\cs=Kt p.1)
def Z5(b tb cap te:Nat)(ts:List Tk)(n:Nat)(p:List (Nat×List UInt8)×PS)(w:World)(k:Nat)(v:Value)(wr:World):Prop:=
 ∃(acc:List (Nat×List UInt8)) (st:PS) (va:Option Addr) (vn vc m:Nat) (cs:List Value),v=.slice va vn vc/\k<=n/\Lb (k+1) acc st=some p/\PR b tb cap te ts wr (Be 1 st)/\A9 b w wr/\m+k<=n+1/\
  Cw (fun g=>w.heap.size<=g) wr 148 2 (.slice va vn vc) m cs/\((Be 1 st).bad=0->m=acc.length+1/\cs=Kt (acc++[((B6 st).line,(B6 st).s)]))
theorem Ahx(a b:List (Nat×List UInt8)):Kt (a++b)=Kt a++Kt b:=by simp[Kt]
theorem Ahp{b tb cap te:Nat}{ts:List Tk}{n:Nat}(hn:n<=500000)(w:World)(s:PS)(p:List (Nat×List UInt8)×PS)(hs:PR b tb cap te ts w s)(hp:params n (Be 18 s)=some p) :
  Calls Tryz.prog 184 #[.pointer (some ⟨b,0,none⟩)] w (A5m b tb cap te ts w p):=by
 have HS:=A0 hs;obtain⟨lb,lt,lne⟩:=hs.lt;by_cases c19:kT (Be 18 s)=19
 ·have HR:Hid (p=([],As (Be 18 s))):=by
   unfold params at hp;rw[if_pos c19]at hp;exact(Option.some.inj hp).symm
  have HW:Hid (Be 19 (Be 18 s)=As (Be 18 s)):=by show _=_;rw[Be,if_pos c19]
  have tk:((kT (Be 18 s):Int) !=19)=false:=by rw[c19];rfl
  clear c19 hp hs;go_enter Tryz.func184,Tryz.ntmps184;go_wp2_with fail
  refine(J0 HS.o 18).mono ?_;rintro e w1 ⟨kk1,Io,nn1,S1,rfl,Fs,h1,Bx⟩;have Bv:=A0 Bx;have B3:Hid (A9 b w w1):=(A9.refl b w).trans Bv.o;have Dt:=B3.o.size;have J9:=A0 Fs;have H1:=A0 h1;clear h1 Bx Fs;go_wp2_with fail
  refine(Ds H1.o).mono ?_;rintro e w2 ⟨rfl,h2,A8⟩;have B2:=A0 (Below.only (b:=b) A8);have Bh:Hid (A9 b w w2):=B3.o.trans B2.o;have Fa:=Bh.o.size;have H2:=A0 h2;clear h2 A8;go_wp2_with fail
  refine(J0 H2.o 19).mono ?_;rintro e w3 ⟨kk3,ln3,nn3,S3,rfl,htk3,h3,Cs⟩;have Bi:=A0 Cs;have Ck:Hid (A9 b w w3):=Bh.o.trans Bi.o;have lw3:=Ck.o.size;have HTk3:=A0 htk3;rw[HW.o]at h3;have H3:=A0 h3;clear h3 Cs htk3;go_wp2;go_ret;rw[HR.o];exact⟨none,0,0,0,[],rfl,P6 _ _ _ _,H3.o,Ck.o,fun _=>⟨rfl,rfl⟩⟩
 ·have hq:Lb n [] (Be 18 s)=some p:=by
   unfold params at hp;rw[if_neg c19]at hp;exact hp
  obtain⟨n,rfl⟩:∃n',n=n'+1:=by
   cases n with
   | zero=>rw[Lb]at hq;cases hq
   | succ n=>exact⟨n,rfl⟩
  have HQ:=A0 hq;have tk:((kT (Be 18 s):Int) !=19)=true:=by simp;omega
  clear c19 hp hs hq;go_enter Tryz.func184,Tryz.ntmps184;go_wp2_with fail
  refine(J0 HS.o 18).mono ?_;rintro e w1 ⟨kk1,Io,nn1,S1,rfl,Fs,h1,Bx⟩;have Bv:=A0 Bx;have B3:Hid (A9 b w w1):=(A9.refl b w).trans Bv.o;have Dt:=B3.o.size;have J9:=A0 Fs;have H1:=A0 h1;clear h1 Bx Fs;go_wp2_with fail
  refine(Ds H1.o).mono ?_;rintro e w2 ⟨rfl,h2,A8⟩;have B2:=A0 (Below.only (b:=b) A8);have Bh:Hid (A9 b w w2):=B3.o.trans B2.o;have Fa:=Bh.o.size;have H2:=A0 h2;clear h2 A8;go_wp2_with fail
  refine(Ue H2.o).mono ?_;rintro e w3 ⟨ln3,S3,rfl,htk3,h3,Cs⟩;have Bi:=A0 Cs;have Ck:Hid (A9 b w w3):=Bh.o.trans Bi.o;have lw3:=Ck.o.size;have HTk3:=A0 htk3;have H3:=A0 h3;clear h3 Cs htk3;go_wp2_with (at_builtin;refine Kj w3 #[.int .i64 ln3,.string ⟨S3.toArray⟩] 148 rfl (.tmp 9) (.tmp 12) 216 rfl 0 2 24 (.agg #[.int .i64 0,.string ⟨#[]⟩]) Tryz.underlying216 A19 rfl z4va (.slice none 0 0) 0 [] rfl rfl (World.ownsRow_nil _ _ _ _) rfl (fun u hu=>by simp at hu;rcases hu with rfl|rfl <;> rfl) z4va z4va (Nat.zero_le _) ?_;intro g cap1 w4 hown4 hgrow hat hg)
  replace hgrow:w3.grownBy w4 (Value.slice none 0 0).ownBlock:=hgrow;have hat:(Value.slice none 0 0).ownBlock=some g\/g=w3.heap.size+1:=hat;have HGg:Hid (g=w3.heap.size+1):=by rcases hat with h|h;simp[Value.ownBlock]at h;exact h
  have HRel:Hid (Z5 b tb cap te ts n p w n (.slice (some ⟨g,0,none⟩) 1 cap1) w4):=by
   refine⟨[],Be 18 s,some ⟨g,0,none⟩,1,cap1,1,_,rfl,Nat.le_refl _,HQ.o,PR.grown H3.o hgrow z5pa z5pa,Ck.o.grown hgrow z5pa,by omega,⟨hown4,fun k hk=>?_⟩,fun hb=>⟨rfl,?_⟩⟩
   ·simp only[Value.ownBlock,Option.some.injEq]at hk;have:=HGg.o;show w.heap.size<=k;omega
   ·rw[(HTk3.o hb).1,(HTk3.o hb).2];rfl
  clear hgrow hat hown4 hg;go_wp2;go_loopg [3] n (fun k v wr=>Z5 b tb cap te ts n p w k v wr)
  case atStart=>exact HRel.o
  case round=>
   clear HRel HQ H1 H2 H3 B3 Bh Ck Bv B2 Bi J9 HTk3 HS HGg;obtain⟨acc,st,va,vn,vc,m,cs,rfl,hkn,hpk,hrs,hO,hcn,hown,hrep⟩:=hrel;have HRS:=A0 hrs;have HOr:=A0 hO;have HOwn:=A0 hown;have HRep:=A0 hrep;have lwr:=hO.size;have hne:(Value.slice va vn vc).ownBlock≠some b:=fun e=>by have h:w.heap.size<=b:=hown.2 b e;omega
   by_cases c24:kT (Be 1 st)=24
   ·have hz:=Ai0 c24 hpk;cases gk with
    | zero=>rw[Lb]at hz;cases hz
    | succ q=>
    have HZ:=A0 hz;have tk:(kT (Be 1 st)==24)=true:=by simpa using c24
    have HM:Hid (Hz 24 (Be 1 st)=As (Be 1 st)):=by show _=_;unfold Hz;rw[if_pos c24]
    have Af:Hid ((Be 1 st).bad=0):=hrs.Gx z4va;clear hz c24 hpk hrs hO hown hrep;go_wp2_with fail
    refine(Mw HRS.o 24).mono ?_;rintro e w5 ⟨rfl,h5,Ea⟩;have Ey:=A0 Ea;have Cb:Hid (A9 b wr w5):=(A9.refl b wr).trans Ey.o;have lw5:=Cb.o.size;rw[tk];rw[HM.o]at h5;have H5:=A0 h5;clear h5 Ea;go_wp2_with fail
    refine(Ue H5.o).mono ?_;rintro e w6 ⟨ln6,S6,rfl,htk6,h6,Je⟩;have HP6:=A0 Je;have Dl:Hid (A9 b wr w6):=Cb.o.trans HP6.o;have lw6:=Dl.o.size;have HTk6:=A0 htk6;have H6:=A0 h6;clear h6 Je htk6;have hown6:w6.ownsRow 0 148 2 (.slice va vn vc) m cs:=B4 HOwn.o.1 (fun k hk hl=>Dl.o.block k hl (fun e=>hne z5la));go_wp2_with (at_builtin;refine Kj w6 #[.int .i64 ln6,.string ⟨S6.toArray⟩] 148 rfl (.tmp 16) (.tmp 19) 216 rfl 0 2 24 (.agg #[.int .i64 0,.string ⟨#[]⟩]) Tryz.underlying216 A19 rfl z4va _ _ _ rfl rfl hown6 rfl (fun u hu=>by simp at hu;rcases hu with rfl|rfl <;> rfl) z4va z4va (Nat.zero_le _) ?_;intro g7 cap7 w7 hown7 hgrow7 hat7 hg7)
    replace hgrow7:w6.grownBy w7 (Value.slice va vn vc).ownBlock:=hgrow7;replace hat7:(Value.slice va vn vc).ownBlock=some g7\/g7=w6.heap.size+1:=hat7;have hrow:∀k,(Value.slice va vn vc).ownBlock=some k->k≠b/\k≠tb/\w.heap.size<=k:=fun k e=>by have h:w.heap.size<=k:=HOwn.o.2 k e;omega
    go_roundg q
    case measure=>omega
    case rel=>
     refine⟨acc++[((B6 st).line,(B6 st).s)],As (Be 1 st),some ⟨g7,0,none⟩,m+1,cap7,m+1,_,rfl,by omega,HZ.o,PR.grown H6.o hgrow7 (fun e=>(hrow b e).1 rfl) (fun e=>(hrow tb e).2.1 rfl),(HOr.o.trans Dl.o).grown hgrow7 (fun k e=>.inr (hrow k e).2.2),by omega,⟨hown7,fun k hk=>?_⟩,fun hb=>?_⟩
     ·exact z3ba
     ·have h1:=HRep.o Af.o;refine⟨by rw[h1.1];simp,?_⟩;rw[h1.2,(HTk6.o hb).1,(HTk6.o hb).2,Ahx (acc++_)];rfl
   ·have HE:=A0 (Ahz c24 hpk);have tk:(kT (Be 1 st)==24)=false:=by simpa using c24
    have HM:Hid (Hz 24 (Be 1 st)=Be 1 st):=by show _=_;unfold Hz;rw[if_neg c24]
    clear c24 hpk hrs hO hown hrep;go_wp2_with fail
    refine(Mw HRS.o 24).mono ?_;rintro e w5 ⟨rfl,h5,Ea⟩;have Ey:=A0 Ea;have Cb:Hid (A9 b wr w5):=(A9.refl b wr).trans Ey.o;have lw5:=Cb.o.size;rw[tk];rw[HM.o]at h5;have H5:=A0 h5;clear h5 Ea;go_wp2_with fail
    refine(J0 H5.o 19).mono ?_;rintro e w6 ⟨kk6,ln6,nn6,S6,rfl,htk6,h6,Je⟩;have HP6:=A0 Je;have Dl:Hid (A9 b wr w6):=Cb.o.trans HP6.o;have lw6:=Dl.o.size;have HTk6:=A0 htk6;have H6:=A0 h6;clear h6 Je htk6;go_wp2;go_ret;rw[HE.o];refine⟨va,vn,vc,m,cs,rfl,⟨B4 HOwn.o.1 (fun k hk hl=>Dl.o.block k hl (fun e=>hne z5la)),HOwn.o.2⟩,H6.o,HOr.o.trans Dl.o,fun hb=>?_⟩;have h1:=HRep.o (Lv hb);exact⟨by rw[h1.1];simp,h1.2⟩
theorem Ah5{n:Nat}{s:PS}{p:List (Nat×List UInt8)×PS}(hs:s.bad≠0->s.ts=[Ij])(h:params n s=some p)(hb:p.2.bad=0):s.bad=0:=by
 by_cases h0:s.bad=0
 ·exact h0
 ·rw[A2b (hs h0) h0 n p h]at hb;exact absurd hb h0
theorem Ahg{b tb cap te:Nat}{ts:List Tk}{n:Nat}(ih:Is b tb cap te ts n)(hn:n<=500000)(w:World)(s:PS)(r:BT A6×PS)(hk:kT s=4)(hs:PR b tb cap te ts w s)(hp:Ah (n+1) 11 0 .nil s=some r) :
  Calls Tryz.prog 131 #[.pointer (some ⟨b,0,none⟩)] w (Hp b tb cap te ts w r):=by
 obtain⟨p,bl,hpm,hbl,hr⟩:=A2h hp;have HS:=A0 hs;have lb:=hs.lt;have HR:=A0 hr;have HBp:=A0 hbl;have HPp:=A0 hpm;have HW:Hid (Be 4 s=As s):=by show _=_;unfold Be;rw[if_pos hk]
 have HPm:=A0 (fun(W:World) (h:PR b tb cap te ts W (Be 1 (As s)))=>Ahp hn W (Be 1 (As s)) p h hpm);have HBl:=A0 (fun(W:World) (h:PR b tb cap te ts W p.2)=>ih.block W p.2 bl h hbl);clear hp hs hk hpm hbl hr;go_enter Tryz.func131,Tryz.ntmps131;go_wp2_with fail
 refine(J0 HS.o 4).mono ?_;rintro e w1 ⟨kk1,Io,nn1,S1,rfl,Fs,h1,Bx⟩;have Bv:=A0 Bx;have B3:Hid (A9 b w w1):=(A9.refl b w).trans Bv.o;have Dt:=B3.o.size;have J9:=A0 Fs;rw[HW.o]at h1;have H1:=A0 h1;clear h1 Bx Fs;go_wp2_with fail
 refine(Ue H1.o).mono ?_;rintro e w2 ⟨Gc,S2,rfl,F4,h2,Bb⟩;have B2:=A0 Bb;have Bh:Hid (A9 b w w2):=B3.o.trans B2.o;have Fa:=Bh.o.size;have Ef:=A0 F4;have H2:=A0 h2;clear h2 Bb F4;go_wp2_with fail
 refine(HPm.o _ H2.o).mono ?_;rintro e w3 ⟨va3,vn3,vc3,m3,cs3,rfl,hown3,h3,Cs,Ce⟩;have Bi:=A0 Cs;have Ck:Hid (A9 b w w3):=Bh.o.trans Bi.o;have lw3:=Ck.o.size;have C3:=A0 Ce;have HOwn3:=A0 hown3;have H3:=A0 h3;clear h3 Cs Ce hown3;go_wp2_with fail
 refine(HBl.o _ H3.o).mono ?_;rintro e w4 ⟨va4,vn4,vc4,cs4,rfl,hown4,h4,Cl,Fy⟩;have Cq:=A0 Cl;have C2:Hid (A9 b w w4):=Ck.o.trans Cq.o;have lw4:=C2.o.size;have Cu:=A0 Fy;have HOwn4:=A0 hown4;have H4:=A0 h4;clear h4 Cl Fy hown4;go_wp2;go_ret;rw[HR.o];refine Ht (l:=⟨20,(B6 (As s)).line,(B6 (As s)).s,0,p.1⟩) (ch:=bl.1) (ks:=cs4) (cs:=#[.int .i64 Gc,.string ⟨S2.toArray⟩,.slice va3 vn3 vc3,.slice va4 vn4 vc4]) H4.o C2.o rfl z50a rfl rfl (fun hb=>?_);have Aj:=Pz H3.o.Ml HBp.o hb;have A8:(Be 1 (As s)).bad=0:=Lv (Ah5 (fun h=>?_) HPp.o Aj)
 ·have h3:=C3.o Aj;refine⟨⟨.slice va3 vn3 vc3,.slice va4 vn4 vc4,?_,HOwn4.o.keep (fun k hk _=>⟨rfl,by have h:w3.heap.size<=k:=hk;omega⟩),?_⟩,An.weak z4va (Cu.o hb)⟩
  ·rw[(Ef.o A8).1,(Ef.o A8).2];rfl
  ·show Cw _ _ _ _ _ p.1.length (Kt p.1);rw[←h3.1,←h3.2];exact HOwn3.o.keep (fun k hk hl=>⟨Cq.o.block k hl (by have h:w2.heap.size<=k:=hk;omega),by have h:w2.heap.size<=k:=hk;omega⟩)
 ·exact Apy h H2.o.Ml
def A5l(b tb cap te:Nat)(ts:List Tk)(n:Nat)(r:BT A6×PS)(w:World)(k:Nat)(wr:World):Prop:=
 ∃(acc:BT A6) (st:PS) (va:Option Addr) (vn vc:Nat) (cs:List Value),k<=n/\Ah k 10 0 acc st=some r/\PR b tb cap te ts wr st/\A9 b w wr/\cs.length+k<=n+1/\
  wr.heap[w.heap.size]?=some (.cells #[.slice va vn vc] 140 (0,0))/\
  Cw (fun g=>w.heap.size<g) wr 142 1 (.slice va vn vc) cs.length cs/\(st.bad=0->An (fun g=>w.heap.size<g/\(Value.slice va vn vc).ownBlock≠some g) wr acc cs)
def A5k(b tb cap te:Nat)(ts:List Tk)(w:World)(r:BT A6×PS)(e:Ending)(w':World):Prop:=
 ∃va vn vc cs,e=.returned (.pointer (some ⟨w.heap.size,0,none⟩))/\w'.heap[w.heap.size]?=some (.cells #[.slice va vn vc] 140 (0,0))/\
  Cw (fun g=>w.heap.size<g) w' 142 1 (.slice va vn vc) cs.length cs/\PR b tb cap te ts w' r.2/\A9 b w w'/\(r.2.bad=0->An (fun g=>w.heap.size<g) w' r.1 cs)
theorem Qi{w:World}{g:Nat}{a0:Value}{t:TypeId}(h:w.heap[g]?=some (.cells #[a0] t (0,0))):w.cell? ⟨g,0,none⟩=some a0/\(∀o,w.frozen? ⟨g,o,none⟩=false)/\g<w.heap.size:=⟨A2 h 0 _ rfl,Bd h,A5 h⟩
theorem Zl{b n g X:Nat}{wr w4 w5:World}{T:TypeId}{v val:Value}{m:Nat}{cs cs0:List Value}{acc x:BT A6}(hb:b<=n)(hn:n<wr.heap.size)(hr:An (fun g=>n<g/\v.ownBlock≠some g) wr acc cs)(ho:A9 b wr w4)(hx:An (fun g=>wr.heap.size<=g) w4 x [val])(hown:wr.ownsRow 0 T 1 v m cs0)
  (hgrow:w4.grownBy w5 v.ownBlock) (hX:X<=n) (hat:v.ownBlock=some g\/g=w4.heap.size+1) (u:Value):An (fun k=>n<k/\(some g:Option Nat)≠some k) (w5.setCell ⟨X,0,none⟩ u) (Bu acc x) (cs++[val]):=by
 have hlt:=Bn hown;have hs:=ho.size;have hset:∀k,n<k->(w5.setCell ⟨X,0,none⟩ u).heap[k]?=w5.heap[k]?:=fun k hk=>Below.heap_setCell _ _ _ _ (by show k≠X;omega);refine An.app _ _ _ _ (An.keep ?_ _ _ hr) (An.keep ?_ _ _ hx)
 ·intro k ⟨h1,h2⟩ hk;refine⟨(hset k h1).trans ((hgrow.block k z4va (fun e=>h2 e.symm)).trans (ho.block k hk z4va)),h1,fun e=>?_⟩;have e:=Option.some.inj e;subst e;rcases hat with h|h
  ·exact h2 h
  ·omega
 ·intro k h1 hk;refine⟨(hset k z4va).trans (hgrow.block k hk (fun e=>?_)),by omega,fun e=>?_⟩
  ·have:=hlt k e.symm;omega
  ·exact z4ia
theorem z0ia {P:Prop} (h:P:=by
  have lw5:=Ea.size;replace lw5:w2.heap.size<=w5.heap.size:=lw5;have hb25:A9 b wr w5:=(Below.only Aa.o).drew.trans Ea;have hne6:∀k,k≠w.heap.size->(w6.setCell ⟨w.heap.size,0,none⟩ (.slice (some ⟨g6,0,none⟩) (cs.length+1) cap6)).heap[k]?=w6.heap[k]?:=fun k hk=>Below.heap_setCell _ _ _ _ z5sa;have hg6':w.heap.size<g6:=by
   rcases hat6 with h|h
   ·exact(HRow.o g6 h).2.2
   ·omega
  refine⟨Bu acc z.1,z.2,some ⟨g6,0,none⟩,cs.length+1,cap6,cs++[.iface ty5 x5],by omega,HZ2.o,PR.other (PR.grown h5 hgrow6 (fun e=>(HRow.o b e).1 rfl) (fun e=>(HRow.o tb e).2.1 rfl)) (by show b≠w.heap.size;omega) (by show tb≠w.heap.size;omega) _,A9.set (p:=⟨w.heap.size,0,none⟩) ((HOr.o.trans hb25).grown hgrow6 (fun k e=>.inr (by have:=(HRow.o k e).2.2;omega))) (.inr (Nat.le_refl _)) _,by simp;omega,?_,⟨B4 (by simpa using hown6) (fun k hk _=>hne6 k ?_),fun k hk=>?_⟩,fun hb=>?_⟩
  ·have:=heap_set (j:=0) HPb6.o (.slice (some ⟨g6,0,none⟩) (cs.length+1) cap6);simpa using this
  ·simp only[Value.ownBlock,Option.some.injEq]at hk;omega
  ·simp only[Value.ownBlock,Option.some.injEq]at hk;rw[←hk];exact hg6'
  ·exact Zl z4va lpb (HRep.o Af.o) hb25 (An.weak (by show wr.heap.size<=w2.heap.size;omega) (hr5 hb)) HOwn.o.1 hgrow6 (Nat.le_refl _) hat6 _):P:=h
theorem Ahq{b tb cap te:Nat}{ts:List Tk}{n:Nat}(hn:n<=500000)(w:World)(s:PS)(r:BT A6×PS)(hs:PR b tb cap te ts w s)(hp:Ah n 10 0 .nil s=some r) :
  Calls Tryz.prog 78 #[.pointer (some ⟨b,0,none⟩)] w (A5k b tb cap te ts w r):=by
 have HS:=A0 hs;obtain⟨lb,lt,lne⟩:=hs.lt;have HP0:=A0 hp;clear hp hs;go_enter Tryz.func78,Tryz.ntmps78;go_wp2;go_loopg [] n (fun k wr=>A5l b tb cap te ts n r w k wr)
 case atStart=>exact⟨.nil,s,none,0,0,[],Nat.le_refl _,HP0.o,PR.alloc HS.o _,(A9.refl _ _).alloc _,by simp,heap_alloc_new _ _,P6 _ _ _ _,fun _=>rfl⟩
 case round=>
  clear HP0 HS;obtain⟨acc,st,va,vn,vc,cs,hkn,hpk,hrs,hO,hcn,hpb,hown,hrep⟩:=hrel;cases gk with
  | zero=>exact absurd hpk (Gf _ _ _ _ _)
  | succ m=>
  have HRS:=A0 hrs;have HOr:=A0 hO;have HOwn:=A0 hown;have HRep:=A0 hrep;have HPb:=A0 hpb;have lwr:=hO.size;have hrow:∀k,(Value.slice va vn vc).ownBlock=some k->k≠b/\k≠tb/\w.heap.size<k:=fun k e=>by have h:w.heap.size<k:=hown.2 k e;omega
  have HRow:=A0 hrow;have lpb:=A5 hpb;by_cases c0:kT st=0
  ·have HE:=A0 (Ah6 c0 hpk);have tk:((kT st:Int) !=0)=false:=by rw[c0];rfl
   clear c0 hpk hrs hO hrep hown hpb;go_wp2_with fail
   refine(Ds HRS.o).mono ?_;rintro e w1 ⟨rfl,h1,A1⟩;have H1:=A0 h1;have Bv:=A0 A1;clear h1 A1;go_wp2;go_ret;rw[HE.o];exact⟨va,vn,vc,cs,rfl,Fq Bv.o HPb.o,HOwn.o.keep (fun k hk hl=>⟨Bv.o.block k hl,hk⟩),H1.o,HOr.o.trans (Below.only Bv.o),fun hb=>An.keep (fun k hk hl=>⟨Bv.o.block k hl,hk.1⟩) _ _ (HRep.o hb)⟩
  ·have Af:Hid (st.bad=0):=hrs.Gx c0;have tk:((kT st:Int) !=0)=true:=by simpa using c0
   by_cases c4:kT st=4
   ·obtain⟨z,By,C5⟩:=Ah7 c4 hpk;have hm0:m≠0:=by intro e;subst e;exact absurd By (Gf _ _ _ _ _)
    obtain⟨q,rfl⟩:∃q,m=q+1:=⟨m-1,by omega⟩;have HZ2:=A0 C5;have HX:=A0 (fun(W:World) (h:PR b tb cap te ts W st)=>Ahg (b8 q q (Nat.le_refl _) z4va) z4va W st z c4 h By);have tk4:((kT st:Int)==4)=true:=ke (c:=4) rfl c4;clear c0 c4 hpk hrs hO hrep hown By C5 hpb hrow;go_wp2_with fail
    refine(Ds HRS.o).mono ?_;rintro e w1 ⟨rfl,h1,A1⟩;have H1:=A0 h1;have Bv:=A0 A1;clear h1 A1;go_wp2_with fail
    refine(Ds H1.o).mono ?_;rintro e w2 ⟨rfl,h2,A8⟩;have H2:=A0 h2;have Aa:Hid (Below wr.heap.size wr w2):=Bv.o.trans (A8.mono Bv.o.size);have hpb2:=Fq Aa.o HPb.o;obtain⟨y0,fy,ly⟩:=Qi hpb2;have HPb2:=A0 hpb2;have Fa:=Aa.o.size;clear h2 A8 hpb2;have HXd:=A0 (HX.o _ H2.o.drew);go_wp2;go_region_law (first
     | (refine Nc _ w5.heap.size #[.iface ty5 x5] 142 (heap_alloc_new w5 (.cells #[.iface ty5 x5] 142)) rfl (.tmp 16) (.tmp 19) 138 rfl 0 1 16 .nilIface Tryz.underlying138 Xe rfl z4va (.slice va vn vc) cs.length cs rfl rfl (hown5.alloc _) rfl (fun u hu=>by simp at hu;rw[hu];rfl) z4va z4va (Nat.zero_le _) ?_;intro g6 cap6 w6 hown6 hgrow6' hat6' hg6;have hgrow6:w5.grownBy w6 (Value.slice va vn vc).ownBlock:=M5 (World.grownBy_alloc w5 (.cells #[.iface ty5 x5] 142) none) hgrow6';have hat6:(Value.slice va vn vc).ownBlock=some g6\/g6=w5.heap.size+1:=(hat6'.imp id (fun e=>e.trans z50a));have hpb6:=(hgrow6.block w.heap.size (A5 HPb5.o) (fun e=>by have:=HRow.o _ e.symm;omega)).trans HPb5.o;have HPb6:=A0 hpb6;obtain⟨q0,fq,lq⟩:=Qi hpb6;clear hpb6 hgrow6' hat6')
     | (refine Eo rfl 131 _ _ rfl #[.pointer (some ⟨b,0,none⟩)] (by kernel_rfl) HXd.o ?_;rintro e w5 ⟨ty5,x5,rfl,h5,Ea,hr5⟩;refine⟨_,rfl,?_⟩;have hpb5:=Ea.blk (show w2.drew.heap[w.heap.size]?=_ from HPb2.o) z4va;have HPb5:=A0 hpb5;obtain⟨z0,fz,lz⟩:=Qi hpb5;have hown5:w5.ownsRow 0 142 1 (.slice va vn vc) cs.length cs:=B4 HOwn.o.1 (fun k hk hl=>((Ea.block k (Nat.lt_of_lt_of_le hl Aa.o.size) (HRow.o k hk).1).trans (Aa.o.block k hl)));clear hpb5))
    all_goals
     go_wp2;go_roundg (q+1)
     case measure=>omega
     case rel=>
      exact z0ia
   ·obtain⟨z,By,C5⟩:=Ah8 c0 c4 hpk;have HZ2:=A0 C5;have HX:=A0 (fun(W:World) (h:PR b tb cap te ts W st)=>(b8 m m (Nat.le_refl _) z4va).stmt W st z h By);have tk4:((kT st:Int)==4)=false:=kn (c:=4) rfl c4;clear c0 c4 hpk hrs hO hrep hown By C5 hpb hrow;go_wp2_with fail
    refine(Ds HRS.o).mono ?_;rintro e w1 ⟨rfl,h1,A1⟩;have H1:=A0 h1;have Bv:=A0 A1;clear h1 A1;go_wp2_with fail
    refine(Ds H1.o).mono ?_;rintro e w2 ⟨rfl,h2,A8⟩;have H2:=A0 h2;have Aa:Hid (Below wr.heap.size wr w2):=Bv.o.trans (A8.mono Bv.o.size);have hpb2:=Fq Aa.o HPb.o;obtain⟨y0,fy,ly⟩:=Qi hpb2;have HPb2:=A0 hpb2;have Fa:=Aa.o.size;clear h2 A8 hpb2;have HXd:=A0 (HX.o _ H2.o.drew);go_wp2;go_region_law (first
     | (refine Nc _ w5.heap.size #[.iface ty5 x5] 142 (heap_alloc_new w5 (.cells #[.iface ty5 x5] 142)) rfl (.tmp 27) (.tmp 30) 138 rfl 0 1 16 .nilIface Tryz.underlying138 Xe rfl z4va (.slice va vn vc) cs.length cs rfl rfl (hown5.alloc _) rfl (fun u hu=>by simp at hu;rw[hu];rfl) z4va z4va (Nat.zero_le _) ?_;intro g6 cap6 w6 hown6 hgrow6' hat6' hg6;have hgrow6:w5.grownBy w6 (Value.slice va vn vc).ownBlock:=M5 (World.grownBy_alloc w5 (.cells #[.iface ty5 x5] 142) none) hgrow6';have hat6:(Value.slice va vn vc).ownBlock=some g6\/g6=w5.heap.size+1:=(hat6'.imp id (fun e=>e.trans z50a));have hpb6:=(hgrow6.block w.heap.size (A5 HPb5.o) (fun e=>by have:=HRow.o _ e.symm;omega)).trans HPb5.o;have HPb6:=A0 hpb6;obtain⟨q0,fq,lq⟩:=Qi hpb6;clear hpb6 hgrow6' hat6')
     | (refine Eo rfl 132 _ _ rfl #[.pointer (some ⟨b,0,none⟩)] (by kernel_rfl) HXd.o ?_;rintro e w5 ⟨ty5,x5,rfl,h5,Ea,hr5⟩;refine⟨_,rfl,?_⟩;have hpb5:=Ea.blk (show w2.drew.heap[w.heap.size]?=_ from HPb2.o) z4va;have HPb5:=A0 hpb5;obtain⟨z0,fz,lz⟩:=Qi hpb5;have hown5:w5.ownsRow 0 142 1 (.slice va vn vc) cs.length cs:=B4 HOwn.o.1 (fun k hk hl=>((Ea.block k (Nat.lt_of_lt_of_le hl Aa.o.size) (HRow.o k hk).1).trans (Aa.o.block k hl)));clear hpb5))
    all_goals
     go_wp2;go_roundg m
     case measure=>omega
     case rel=>
      exact z0ia
structure Lf (tb cap : Nat) (ts : List Tk) (w : World) : Prop where
 toks:Vf ts
 tok:∃cur,w.heap[tb]?=some (.cells cur 198 (0,0))/\cur.toList.take (ts.length*4)=L8 ts
 cap:ts.length<=cap
theorem Lf.cell{tb cap:Nat}{ts:List Tk}{w:World}(h:Lf tb cap ts w)(i j:Nat)(hi:i<ts.length)(hj:j<4):w.cell? ⟨tb,i*4+j,none⟩=(N1 ts[i])[j]?:=by
 exact z2ra
theorem Lf.lt{tb cap:Nat}{ts:List Tk}{w:World}(h:Lf tb cap ts w):tb<w.heap.size:=by
 obtain⟨cur,h1,_⟩:=h.tok;exact A5 h1
theorem Lf.keep{tb cap:Nat}{ts:List Tk}{w w':World}(h:Lf tb cap ts w)(hk:w'.heap[tb]?=w.heap[tb]?):Lf tb cap ts w':=by
 obtain⟨cur,h1,h2⟩:=h.tok;exact⟨h.toks,⟨cur,hk.trans h1,h2⟩,h.cap⟩
def Sp(n:Nat):Nat:=if n=0 then 0 else 1
def Z4(tb cap:Nat)(ts:List Tk)(w:World)(k:Nat)(o v:Value)(wr:World):Prop:=
 ∃(oi:Int) (n:Nat),o=.int .i64 oi/\v=.int .i64 n/\n+k=ts.length/\nest ts 0=nest (ts.drop n) oi/\-(n:Int)<=oi/\oi<=30/\Lf tb cap ts wr/\Below w.heap.size w wr/\wr.heap[w.heap.size]?=some (.cells #[.int .i64 0,.int .i64 0] 50 (0,0))
theorem z4za {P:Prop} (h:P:=by simp[World.setCell];omega):P:=h
theorem z2qa {P:Prop} (h:P:=by
  have hsz:=HSz.o;repeat (first|exact HB.o|refine Below.alloc ?_ z4za _|refine Below.setCell ?_ z50a _|refine Below.drew ?_)):P:=h
theorem z2da {P:Prop} (h:P:=by
  go_wp2;go_roundg (gk-1)
  case measure=>omega
  case rel=>exact HRel.o _ _ rfl HE.o z4va z4va _):P:=h
theorem A24{tb cap:Nat}{ts:List Tk}(w:World)(h:Lf tb cap ts w) :
  Calls Tryz.prog 79 #[.slice (some ⟨tb,0,none⟩) ts.length cap] w fun e w'=>e=.returned (.agg #[.int .i64 (Sp (nest ts 0):Nat),.int .i64 (nest ts 0:Nat)])/\Below w.heap.size w w':=by
 have hfew:=h.toks.Br;have HH:=A0 h;have ltb:=h.lt;clear h;go_enter Tryz.func79,Tryz.ntmps79;go_wp2;go_loopg [3,8] ts.length (fun k o v wr=>Z4 tb cap ts w k o v wr)
 case atStart=>
  exact⟨0,0,rfl,rfl,by omega,rfl,by omega,by omega,HH.o.keep (Below.heap_alloc _ _ _ ltb),(Below.refl _ _).alloc (Nat.le_refl _) _,heap_alloc_new _ _⟩
 case round=>
  clear HH;obtain⟨oi,n,rfl,rfl,hnk,hnest,Bx,Bb,ht,hb,hz⟩:=hrel;have HT:=A0 ht;have HB:=A0 hb;have HN:=A0 hnest;have HZ:=A0 hz;have hcap:=ht.cap;obtain⟨z0,z1,fz,lz⟩:=Iu hz;have HSz:=A0 hb.size;clear ht hb hnest hz;by_cases hlt:n<ts.length
  ·have HS:=A0 (Agj ts n hlt oi);have d0:=HT.o.cell n 0 hlt z4va;have d1:=HT.o.cell n 1 hlt z4va;have d2:=HT.o.cell n 2 hlt z4va;have d3:=HT.o.cell n 3 hlt z4va;have hlo:=HT.o.lt;have hline:=HT.o.toks.line ts[n] (List.getElem_mem hlt);rw[N1]at d0 d1 d2 d3;simp only[Nat.add_zero,List.getElem?_cons_zero,List.getElem?_cons_succ]at d0 d1 d2 d3;have HRel:Hid (∀(o:Int) (q:Nat),q=n+1->nest ts 0=nest (ts.drop q) o->-(q:Int)<=o->o<=30->∀O:Obj,Z4 tb cap ts w (gk-1) (.int .i64 o) (.int .i64 q) (wr.alloc O)):=by
    intro o q hq h1 h2 h3 O;exact⟨o,q,rfl,rfl,by omega,h1,h2,h3,HT.o.keep (Below.heap_alloc _ _ _ hlo),HB.o.alloc HSz.o _,alloc_old HZ.o⟩
   generalize ts[n]=x at *;by_cases hop:x.k=18\/x.k=22\/x.k=20
   ·have HOp:Hid (opens x.k=true):=by
     show _=_;unfold opens;rcases hop with e|e|e <;> rw[e] <;> rfl
    by_cases h30:oi=30
    ·subst h30;have HE:Hid (nest ts 0=x.line):=by
      show _=_;rw[HN.o,HS.o,HOp.o,if_pos rfl,if_pos z4va]
     rcases hop with e|e|e;all_goals
      rw[e]at d0;clear e;go_wp2;refine bodyPost_ret (v:=.agg #[.int .i64 1,.int .i64 (x.line:Nat)]) (by simp[results,Tryz.results79,go_sem,z0,z1,lz]) rfl ?_;refine⟨?_,?_⟩
      ·rw[HE.o,Sp,if_neg z4va];rfl
      ·exact z2qa
    ·have h30':(oi==30)=false:=by rw[beq_eq_false_iff_ne];exact h30
     have HE:Hid (nest ts 0=nest (ts.drop (n+1)) (oi+1)):=by
      show _=_;rw[HN.o,HS.o,HOp.o,if_pos rfl,if_neg z4va]
     rcases hop with e|e|e;all_goals
      rw[e]at d0;clear e;exact z2da
   ·have HOp:Hid (opens x.k=false):=by
     show _=_;unfold opens;simp only[Bool.or_eq_false_iff,beq_eq_false_iff_ne];omega
    have t18:((x.k:Int)==18)=false:=kn (c:=18) rfl z4va;have t22:((x.k:Int)==22)=false:=kn (c:=22) rfl z4va;have t20:((x.k:Int)==20)=false:=kn (c:=20) rfl z4va;by_cases hcl:x.k=19\/x.k=23\/x.k=21
    ·have HE:Hid (nest ts 0=nest (ts.drop (n+1)) (oi-1)):=by
      show _=_;have hc:Pm x.k=true:=by
       unfold Pm;rcases hcl with e|e|e <;> rw[e] <;> rfl
      rw[HN.o,HS.o,HOp.o,hc];rfl
     clear hop;rcases hcl with e|e|e;all_goals
      rw[e]at d0 t18 t20 t22;clear e;exact z2da
    ·have HE:Hid (nest ts 0=nest (ts.drop (n+1)) oi):=by
      show _=_;have hc:Pm x.k=false:=by
       unfold Pm;simp only[Bool.or_eq_false_iff,beq_eq_false_iff_ne];omega
      rw[HN.o,HS.o,HOp.o,hc];rfl
     have t19:((x.k:Int)==19)=false:=kn (c:=19) rfl z4va;have t23:((x.k:Int)==23)=false:=kn (c:=23) rfl z4va;have t21:((x.k:Int)==21)=false:=kn (c:=21) rfl z4va;clear hop hcl;exact z2da
  ·have HE:Hid (nest ts 0=0):=by
    show _=_;rw[HN.o,Agi ts n z4va oi]
   go_wp2;refine bodyPost_ret (v:=.agg #[.int .i64 0,.int .i64 0]) (by simp[results,Tryz.results79,go_sem,z0,z1]) rfl ?_;refine⟨?_,?_⟩
   ·rw[HE.o];rfl
   ·exact z2qa
theorem Ahs{tb cap:Nat}{ts:List Tk}{w:World}(h:Lf tb cap ts w)(h1:0<ts.length)(te:Nat) :
  PR w.heap.size tb cap te ts (w.alloc (.cells #[.slice (some ⟨tb,0,none⟩) ts.length cap,.int .i64 0,.int .i64 0,.int .i64 0] te)) ⟨ts,0⟩:=by
 obtain⟨cur,k1,k2⟩:=h.tok;have:=A5 k1;exact⟨0,h.toks,heap_alloc_new w _,⟨cur,alloc_old k1,k2⟩,by omega,h1,h.cap,fun _=>rfl,fun e=>absurd rfl e⟩
def A5i(w:World)(ts:List Tk)(r:BT A6×PS)(e:Ending)(w':World):Prop:=
 Below w.heap.size w w'/\((r.2.bad≠0/\e=.returned (.tuple #[.pointer none,.agg #[.int .i64 2,.int .i64 (r.2.bad:Nat)]]))\/(r.2.bad=0/\nest ts 0≠0/\e=.returned (.tuple #[.pointer none,.agg #[.int .i64 1,.int .i64 (nest ts 0:Nat)]]))\/
  (r.2.bad=0/\nest ts 0=0/\∃pb va vn vc cs,e=.returned (.tuple #[.pointer (some ⟨pb,0,none⟩),.agg #[.int .i64 0,.int .i64 0]])/\w.heap.size<=pb/\w'.heap[pb]?=some (.cells #[.slice va vn vc] 140 (0,0))/\
   Cw (fun g=>w.heap.size<=g) w' 142 1 (.slice va vn vc) cs.length cs/\An (fun g=>w.heap.size<=g) w' r.1 cs))
theorem Ah3{tb cap:Nat}{ts:List Tk}{n:Nat}(hn:n<=500000)(w:World)(r:BT A6×PS)(h:Lf tb cap ts w)(h1:0<ts.length)(hp:Ah n 10 0 .nil ⟨ts,0⟩=some r) :
  Calls Tryz.prog 50 #[.slice (some ⟨tb,0,none⟩) ts.length cap] w (A5i w ts r):=by
 have HH:=A0 h;have ltb:=h.lt;have HC:Hid (Lf tb cap ts (w.alloc (.cells #[.int .i64 0,.int .i64 0] 50))):=h.keep (Below.heap_alloc _ _ _ ltb);have HS:=A0 (Ahs HC.o h1 203);have HX:=A0 (fun(W:World) (hs:PR (w.alloc (.cells #[.int .i64 0,.int .i64 0] 50)).heap.size tb cap 203 ts W ⟨ts,0⟩)=>Ahq hn W ⟨ts,0⟩ r hs hp);have hsz:(w.alloc (.cells #[.int .i64 0,.int .i64 0] 50)).heap.size=w.heap.size+1:=by simp
 have HSz:=A0 hsz;clear h hp hsz;go_enter Tryz.func50,Tryz.ntmps50;go_wp2_with fail
 rw[show(w.heap.size+1:Nat)=(w.alloc (.cells #[.int .i64 0,.int .i64 0] 50)).heap.size from HSz.o.symm];refine(HX.o _ HS.o).mono ?_;rintro e w1 ⟨va,vn,vc,cs,rfl,hpb,hown,hrs,hO,hrep⟩;have hR:=hO.blk (alloc_old (heap_alloc_new w (.cells #[.int .i64 0,.int .i64 0] 50))) z50a;have HTk:=A0 (HC.o.keep (w':=w1) ((hO.block tb z4ya z4ya).trans (Below.heap_alloc _ _ _ z4ya)));have HBel:Hid (Below w.heap.size w w1):=⟨hO.os,hO.tape,hO.output,by have:=hO.size;simp at this;omega,fun k hk=>(hO.block k z4ya z4ya).trans ((Below.heap_alloc _ _ _ z4ya).trans (Below.heap_alloc _ _ _ hk))⟩;obtain⟨x0,x1,fx,lx⟩:=Iu hR;have HR:=A0 hR;obtain⟨pl,hrt⟩:=hrs;have y2:=A2 hrt.rd 2 _ rfl;have y3:=A2 hrt.rd 3 _ rfl;have ly:=A5 hrt.rd;rw[HSz.o]at y2 y3 ly;have HPb:=A0 hpb;have HOwn:=A0 hown;have HRep:=A0 hrep;have lpb:=A5 hpb;have lbad:=PR.A8r ⟨pl,hrt⟩;clear hpb hown hrep hR hO hrt HS HX;by_cases hb:r.2.bad=0
 ·rw[hb]at y2 y3;have HB:=A0 hb;have t0:((Oh 0:Nat):Int)=0:=rfl;by_cases hd:nest ts 0=0
  ·clear hb;go_wp2_with fail
   refine(A24 _ HTk.o).mono ?_;rintro e w2 ⟨rfl,A8⟩;have Ei:=Fq A8 HR.o;have Aa:Hid (Below w.heap.size w w2):=HBel.o.trans (A8.mono HBel.o.size);have Fa:=A8.size;have HBn:=A0 A8;clear x0 x1 fx lx y2 y3 ly A8;obtain⟨x0,x1,fx,lx⟩:=Iu Ei;clear Ei;rw[hd];have HD:=A0 hd;clear hd;have tn:((Sp 0:Nat):Int)=0:=rfl;go_wp2;refine bodyPost_ret (v:=.tuple #[.pointer (some ⟨w.heap.size+1+1,0,none⟩),.agg #[.int .i64 0,.int .i64 0]]) (by simp[results,Tryz.results50,go_sem,x0,x1,lx]) rfl ?_;have hold:∀k,w.heap.size<k->k<w1.heap.size->(((w2.setCell ⟨w.heap.size,0,none⟩ (.int .i64 0)).setCell ⟨w.heap.size,1,none⟩ (.int .i64 0)).alloc (.cells #[.int .i64 0,.int .i64 0] 50)).heap[k]?=w1.heap[k]?:=by
    intro k h1 h2;rw[Below.heap_alloc _ _ _ z4za,Below.heap_setCell _ _ _ _ (by show k≠w.heap.size;omega),Below.heap_setCell _ _ _ _ (by show k≠w.heap.size;omega)];exact HBn.o.block k h2
   have B0:((w.alloc (.cells #[.int .i64 0,.int .i64 0] 50)).alloc (.cells #[.slice (some ⟨tb,0,none⟩) ts.length cap,.int .i64 0,.int .i64 0,.int .i64 0] 203)).heap.size=w.heap.size+1+1:=by simp
   have hpb:=HPb.o;have hown:=HOwn.o;have hrep:=HRep.o HB.o;rw[B0]at hpb hown hrep lpb;have hk:∀g,w.heap.size+1+1<g->g<w1.heap.size->(((w2.setCell ⟨w.heap.size,0,none⟩ (.int .i64 0)).setCell ⟨w.heap.size,1,none⟩ (.int .i64 0)).alloc (.cells #[.int .i64 0,.int .i64 0] 50)).heap[g]?=w1.heap[g]?/\w.heap.size<=g:=fun g hg hl=>⟨hold g z4va hl,by omega⟩;refine⟨?_,.inr (.inr ⟨HB.o,HD.o,w.heap.size+1+1,va,vn,vc,cs,rfl,by omega,(hold _ z4va lpb).trans hpb,hown.keep hk,An.keep hk _ _ hrep⟩)⟩;repeat (first|exact Aa.o|refine Below.alloc ?_ z4za _|refine Below.setCell ?_ z50a _|refine Below.drew ?_)
  ·clear hb;go_wp2_with fail
   refine(A24 _ HTk.o).mono ?_;rintro e w2 ⟨rfl,A8⟩;have Ei:=Fq A8 HR.o;have Aa:Hid (Below w.heap.size w w2):=HBel.o.trans (A8.mono HBel.o.size);have Fa:=A8.size;have HBn:=A0 A8;clear x0 x1 fx lx y2 y3 ly A8;obtain⟨x0,x1,fx,lx⟩:=Iu Ei;clear Ei;have Bl:Sp (nest ts 0)=1:=by unfold Sp;rw[if_neg hd]
   rw[Bl];have HD:=A0 hd;clear hd Bl;go_wp2;go_region
   all_goals go_wp2
   all_goals refine bodyPost_ret (v:=.tuple #[.pointer none,.agg #[.int .i64 1,.int .i64 (nest ts 0:Nat)]]) (by simp[results,Tryz.results50,go_sem,x0,x1,lx]) rfl ?_
   all_goals refine⟨?_,.inr (.inl ⟨HB.o,HD.o,rfl⟩)⟩
   all_goals repeat (first|exact Aa.o|refine Below.alloc ?_ z4za _|refine Below.setCell ?_ z50a _|refine Below.drew ?_)
 ·have hbc:Oh r.2.bad=2:=by unfold Oh;rw[if_neg hb]
  rw[hbc]at y2;have HB:=A0 hb;clear hb hbc;go_wp2;go_region
  all_goals go_wp2
  all_goals refine bodyPost_ret (v:=.tuple #[.pointer none,.agg #[.int .i64 2,.int .i64 (r.2.bad:Nat)]]) (by simp[results,Tryz.results50,go_sem,x0,x1]) rfl ?_
  all_goals refine⟨?_,.inl ⟨HB.o,rfl⟩⟩
  all_goals repeat (first|exact HBel.o|refine Below.alloc ?_ z4za _|refine Below.setCell ?_ z50a _|refine Below.drew ?_)
end
end Go.Proofs.YtjdlndhfaaolaaaGreatDoor
