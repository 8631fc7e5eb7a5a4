import Derived.Test.YtjdlndhfaaolaaaGreatDoorR21
import Derived.Test.YtjdlndhfaaolaaaGreatDoorR28
set_option maxHeartbeats 20000000
namespace Go.Proofs.YtjdlndhfaaolaaaGreatDoor
section
set_option maxRecDepth 100000
open Go.RowKit
open Go.Deep (BT)
theorem Adg{k:Nat}{s:PS}(h:(Ah k s).bad≠0)(hs:s.bad≠0->s.ts=[Iq]):(Ah k s).ts=[Iq]:=by
 unfold Ah at h ⊢;split
 ·rename_i hk;rw[if_pos hk,Ra]at h;unfold Aa;rw[if_pos (by unfold kT A6;rw[hs h];rfl)];exact hs h
 ·unfold Cm;split
  ·rfl
  ·rename_i h0;exact hs h0
def A18(b tb cap te:Nat)(ts:List Tk)(w:World)(p:List (Nat×List UInt8)×PS)(e:Ending)(w':World):Prop:=
 ∃va vn vc m cs,e=.returned (.slice va vn vc)/\C1 (fun g=>w.heap.size<=g) w' 148 2 (.slice va vn vc) m cs/\PR b tb cap te ts w' p.2/\A1 b w w'/\(p.2.bad=0->m=p.1.length/\cs=Lv p.1)
def Wu(b tb cap te:Nat)(ts:List Tk)(n:Nat)(p:List (Nat×List UInt8)×PS)(w:World)(k:Nat)(v:Value)(wr:World):Prop:=
 ∃(acc:List (Nat×List UInt8)) (st:PS) (va:Option Addr) (vn vc m:Nat) (cs:List Value),v=.slice va vn vc/\k<=n/\Ja (k+1) acc st=some p/\PR b tb cap te ts wr (Ah 1 st)/\A1 b w wr/\m+k<=n+1/\
  C1 (fun g=>w.heap.size<=g) wr 148 2 (.slice va vn vc) m cs/\((Ah 1 st).bad=0->m=acc.length+1/\cs=Lv (acc++[((A6 st).line,(A6 st).s)]))
theorem A8u(a b:List (Nat×List UInt8)):Lv (a++b)=Lv a++Lv b:=by simp[Lv]
theorem A8m{b tb cap te:Nat}{ts:List Tk}{n:Nat}(hn:n<=500000)(w:World)(s:PS)(p:List (Nat×List UInt8)×PS)(hs:PR b tb cap te ts w s)(hp:params n (Ah 18 s)=some p) :
  Calls Tryz.prog 184 #[.pointer (some ⟨b,0,none⟩)] w (A18 b tb cap te ts w p):=by
 have HS:=A0 hs;obtain⟨lb,lt,lne⟩:=hs.lt;by_cases c19:kT (Ah 18 s)=19
 ·have HR:Hid (p=([],Aa (Ah 18 s))):=by
   unfold params at hp;rw[if_pos c19]at hp;exact(Option.some.inj hp).symm
  have HW:Hid (Ah 19 (Ah 18 s)=Aa (Ah 18 s)):=by show _=_;rw[Ah,if_pos c19]
  have tk:((kT (Ah 18 s):Int) !=19)=false:=by rw[c19];rfl
  clear c19 hp hs;go_enter Tryz.func184,Tryz.ntmps184;go_wp2_with fail
  refine(K2 HS.o 18).mono ?_;rintro e w1 ⟨kk1,Jp,nn1,S1,rfl,G8,h1,B5⟩;have Bh:=A0 B5;have Ae:Hid (A1 b w w1):=(A1.refl b w).trans Bh.o;have Cz:=Ae.o.size;have Kj:=A0 G8;have H1:=A0 h1;clear h1 B5 G8;go_wp2_with fail
  refine(Dl H1.o).mono ?_;rintro e w2 ⟨rfl,h2,A9⟩;have Cp:=A0 (Below.only (b:=b) A9);have Al:Hid (A1 b w w2):=Ae.o.trans Cp.o;have Fg:=Al.o.size;have H2:=A0 h2;clear h2 A9;go_wp2_with fail
  refine(K2 H2.o 19).mono ?_;rintro e w3 ⟨kk3,ln3,nn3,S3,rfl,htk3,h3,Af⟩;have De:=A0 Af;have Ay:Hid (A1 b w w3):=Al.o.trans De.o;have lw3:=Ay.o.size;have HTk3:=A0 htk3;rw[HW.o]at h3;have H3:=A0 h3;clear h3 Af htk3;go_wp2;go_ret;rw[HR.o];exact⟨none,0,0,0,[],rfl,M7 _ _ _ _,H3.o,Ay.o,fun _=>⟨rfl,rfl⟩⟩
 ·have hq:Ja n [] (Ah 18 s)=some p:=by
   unfold params at hp;rw[if_neg c19]at hp;exact hp
  obtain⟨n,rfl⟩:∃n',n=n'+1:=by
   cases n with
   | zero=>rw[Ja]at hq;cases hq
   | succ n=>exact⟨n,rfl⟩
  have HQ:=A0 hq;have tk:((kT (Ah 18 s):Int) !=19)=true:=by simp;omega
  clear c19 hp hs hq;go_enter Tryz.func184,Tryz.ntmps184;go_wp2_with fail
  refine(K2 HS.o 18).mono ?_;rintro e w1 ⟨kk1,Jp,nn1,S1,rfl,G8,h1,B5⟩;have Bh:=A0 B5;have Ae:Hid (A1 b w w1):=(A1.refl b w).trans Bh.o;have Cz:=Ae.o.size;have Kj:=A0 G8;have H1:=A0 h1;clear h1 B5 G8;go_wp2_with fail
  refine(Dl H1.o).mono ?_;rintro e w2 ⟨rfl,h2,A9⟩;have Cp:=A0 (Below.only (b:=b) A9);have Al:Hid (A1 b w w2):=Ae.o.trans Cp.o;have Fg:=Al.o.size;have H2:=A0 h2;clear h2 A9;go_wp2_with fail
  refine(T4 H2.o).mono ?_;rintro e w3 ⟨ln3,S3,rfl,htk3,h3,Af⟩;have De:=A0 Af;have Ay:Hid (A1 b w w3):=Al.o.trans De.o;have lw3:=Ay.o.size;have HTk3:=A0 htk3;have H3:=A0 h3;clear h3 Af htk3;go_wp2_with (at_builtin;refine F1 w3 #[.int .i64 ln3,.string ⟨S3.toArray⟩] 148 rfl (.tmp 9) (.tmp 12) 216 rfl 0 2 24 (.agg #[.int .i64 0,.string ⟨#[]⟩]) Tryz.underlying216 Z6 rfl (by omega) (.slice none 0 0) 0 [] rfl rfl (World.ownsRow_nil _ _ _ _) rfl (fun u hu=>by simp at hu;rcases hu with rfl|rfl <;> rfl) (by omega) (by omega) (Nat.zero_le _) ?_;intro g Bw w4 K0 hgrow hat hg)
  replace hgrow:w3.grownBy w4 (Value.slice none 0 0).ownBlock:=hgrow;have hat:(Value.slice none 0 0).ownBlock=some g\/g=w3.heap.size+1:=hat;have HGg:Hid (g=w3.heap.size+1):=by rcases hat with h|h;simp[Value.ownBlock]at h;exact h
  have HRel:Hid (Wu b tb cap te ts n p w n (.slice (some ⟨g,0,none⟩) 1 Bw) w4):=by
   refine⟨[],Ah 18 s,some ⟨g,0,none⟩,1,Bw,1,_,rfl,Nat.le_refl _,HQ.o,PR.grown H3.o hgrow (by simp[Value.ownBlock]) (by simp[Value.ownBlock]),Ay.o.grown hgrow (by simp[Value.ownBlock]),by omega,⟨K0,fun k hk=>?_⟩,fun hb=>⟨rfl,?_⟩⟩
   ·simp only[Value.ownBlock,Option.some.injEq]at hk;have:=HGg.o;show w.heap.size<=k;omega
   ·rw[(HTk3.o hb).1,(HTk3.o hb).2];rfl
  clear hgrow hat K0 hg;go_wp2;go_loopg [3] n (fun k v wr=>Wu b tb cap te ts n p w k v wr)
  case atStart=>exact HRel.o
  case round=>
   clear HRel HQ H1 H2 H3 Ae Al Ay Bh Cp De Kj HTk3 HS HGg;obtain⟨acc,st,va,vn,vc,m,cs,rfl,hkn,hpk,hrs,hO,hcn,hown,hrep⟩:=hrel;have HRS:=A0 hrs;have HOr:=A0 hO;have HOwn:=A0 hown;have HRep:=A0 hrep;have lwr:=hO.size;have hne:(Value.slice va vn vc).ownBlock≠some b:=fun e=>by have h:w.heap.size<=b:=hown.2 b e;omega
   by_cases c24:kT (Ah 1 st)=24
   ·have hz:=Zx c24 hpk;cases gk with
    | zero=>rw[Ja]at hz;cases hz
    | succ q=>
    have HZ:=A0 hz;have tk:(kT (Ah 1 st)==24)=true:=by simpa using c24
    have HM:Hid (F0 24 (Ah 1 st)=Aa (Ah 1 st)):=by show _=_;unfold F0;rw[if_pos c24]
    have Br:Hid ((Ah 1 st).bad=0):=hrs.E7 (by omega);clear hz c24 hpk hrs hO hown hrep;go_wp2_with fail
    refine(Ni HRS.o 24).mono ?_;rintro e w5 ⟨rfl,h5,Bd⟩;have Ei:=A0 Bd;have B9:Hid (A1 b wr w5):=(A1.refl b wr).trans Ei.o;have lw5:=B9.o.size;rw[tk];rw[HM.o]at h5;have H5:=A0 h5;clear h5 Bd;go_wp2_with fail
    refine(T4 H5.o).mono ?_;rintro e w6 ⟨Ih,S6,rfl,htk6,h6,Bs⟩;have HP6:=A0 Bs;have Bn:Hid (A1 b wr w6):=B9.o.trans HP6.o;have lw6:=Bn.o.size;have HTk6:=A0 htk6;have H6:=A0 h6;clear h6 Bs htk6;have hown6:w6.ownsRow 0 148 2 (.slice va vn vc) m cs:=Bb HOwn.o.1 (fun k hk hl=>Bn.o.block k hl (fun e=>hne (by rw[←e];exact hk)));go_wp2_with (at_builtin;refine F1 w6 #[.int .i64 Ih,.string ⟨S6.toArray⟩] 148 rfl (.tmp 16) (.tmp 19) 216 rfl 0 2 24 (.agg #[.int .i64 0,.string ⟨#[]⟩]) Tryz.underlying216 Z6 rfl (by omega) _ _ _ rfl rfl hown6 rfl (fun u hu=>by simp at hu;rcases hu with rfl|rfl <;> rfl) (by omega) (by omega) (Nat.zero_le _) ?_;intro g7 cap7 w7 Fy hgrow7 hat7 hg7)
    replace hgrow7:w6.grownBy w7 (Value.slice va vn vc).ownBlock:=hgrow7;replace hat7:(Value.slice va vn vc).ownBlock=some g7\/g7=w6.heap.size+1:=hat7;have hrow:∀k,(Value.slice va vn vc).ownBlock=some k->k≠b/\k≠tb/\w.heap.size<=k:=fun k e=>by have h:w.heap.size<=k:=HOwn.o.2 k e;omega
    go_roundg q
    case measure=>omega
    case rel=>
     refine⟨acc++[((A6 st).line,(A6 st).s)],Aa (Ah 1 st),some ⟨g7,0,none⟩,m+1,cap7,m+1,_,rfl,by omega,HZ.o,PR.grown H6.o hgrow7 (fun e=>(hrow b e).1 rfl) (fun e=>(hrow tb e).2.1 rfl),(HOr.o.trans Bn.o).grown hgrow7 (fun k e=>.inr (hrow k e).2.2),by omega,⟨Fy,fun k hk=>?_⟩,fun hb=>?_⟩
     ·simp only[Value.ownBlock,Option.some.injEq]at hk;rw[←hk];rcases hat7 with h|h
      ·exact(hrow g7 h).2.2
      ·show w.heap.size<=g7;omega
     ·have h1:=HRep.o Br.o;refine⟨by rw[h1.1];simp,?_⟩;rw[h1.2,(HTk6.o hb).1,(HTk6.o hb).2,A8u (acc++_)];rfl
   ·have HE:=A0 (Zw c24 hpk);have tk:(kT (Ah 1 st)==24)=false:=by simpa using c24
    have HM:Hid (F0 24 (Ah 1 st)=Ah 1 st):=by show _=_;unfold F0;rw[if_neg c24]
    clear c24 hpk hrs hO hown hrep;go_wp2_with fail
    refine(Ni HRS.o 24).mono ?_;rintro e w5 ⟨rfl,h5,Bd⟩;have Ei:=A0 Bd;have B9:Hid (A1 b wr w5):=(A1.refl b wr).trans Ei.o;have lw5:=B9.o.size;rw[tk];rw[HM.o]at h5;have H5:=A0 h5;clear h5 Bd;go_wp2_with fail
    refine(K2 H5.o 19).mono ?_;rintro e w6 ⟨kk6,Ih,Jr,S6,rfl,htk6,h6,Bs⟩;have HP6:=A0 Bs;have Bn:Hid (A1 b wr w6):=B9.o.trans HP6.o;have lw6:=Bn.o.size;have HTk6:=A0 htk6;have H6:=A0 h6;clear h6 Bs htk6;go_wp2;go_ret;rw[HE.o];refine⟨va,vn,vc,m,cs,rfl,⟨Bb HOwn.o.1 (fun k hk hl=>Bn.o.block k hl (fun e=>hne (by rw[←e];exact hk))),HOwn.o.2⟩,H6.o,HOr.o.trans Bn.o,fun hb=>?_⟩;have h1:=HRep.o (Mk hb);exact⟨by rw[h1.1];simp,h1.2⟩
theorem A81{n:Nat}{s:PS}{p:List (Nat×List UInt8)×PS}(hs:s.bad≠0->s.ts=[Iq])(h:params n s=some p)(hb:p.2.bad=0):s.bad=0:=by
 by_cases h0:s.bad=0
 ·exact h0
 ·rw[Vl (hs h0) h0 n p h]at hb;exact absurd hb h0
theorem A8f{b tb cap te:Nat}{ts:List Tk}{n:Nat}(ih:Jt b tb cap te ts n)(hn:n<=500000)(w:World)(s:PS)(r:BT A2×PS)(hk:kT s=4)(hs:PR b tb cap te ts w s)(hp:A7 (n+1) 11 0 .nil s=some r) :
  Calls Tryz.prog 131 #[.pointer (some ⟨b,0,none⟩)] w (Il b tb cap te ts w r):=by
 obtain⟨p,bl,hpm,hbl,hr⟩:=Rz hp;have HS:=A0 hs;have lb:=hs.lt;have HR:=A0 hr;have HBp:=A0 hbl;have HPp:=A0 hpm;have HW:Hid (Ah 4 s=Aa s):=by show _=_;unfold Ah;rw[if_pos hk]
 have HPm:=A0 (fun(W:World) (h:PR b tb cap te ts W (Ah 1 (Aa s)))=>A8m hn W (Ah 1 (Aa s)) p h hpm);have HBl:=A0 (fun(W:World) (h:PR b tb cap te ts W p.2)=>ih.block W p.2 bl h hbl);clear hp hs hk hpm hbl hr;go_enter Tryz.func131,Tryz.ntmps131;go_wp2_with fail
 refine(K2 HS.o 4).mono ?_;rintro e w1 ⟨kk1,Jp,nn1,S1,rfl,G8,h1,B5⟩;have Bh:=A0 B5;have Ae:Hid (A1 b w w1):=(A1.refl b w).trans Bh.o;have Cz:=Ae.o.size;have Kj:=A0 G8;rw[HW.o]at h1;have H1:=A0 h1;clear h1 B5 G8;go_wp2_with fail
 refine(T4 H1.o).mono ?_;rintro e w2 ⟨Gp,S2,rfl,F3,h2,Ap⟩;have Cp:=A0 Ap;have Al:Hid (A1 b w w2):=Ae.o.trans Cp.o;have Fg:=Al.o.size;have Ef:=A0 F3;have H2:=A0 h2;clear h2 Ap F3;go_wp2_with fail
 refine(HPm.o _ H2.o).mono ?_;rintro e w3 ⟨va3,vn3,vc3,m3,cs3,rfl,J6,h3,Af,Cs⟩;have De:=A0 Af;have Ay:Hid (A1 b w w3):=Al.o.trans De.o;have lw3:=Ay.o.size;have He:=A0 Cs;have HOwn3:=A0 J6;have H3:=A0 h3;clear h3 Af Cs J6;go_wp2_with fail
 refine(HBl.o _ H3.o).mono ?_;rintro e w4 ⟨D5,D7,D6,cs4,rfl,K0,h4,An,Ch⟩;have Dv:=A0 An;have B2:Hid (A1 b w w4):=Ay.o.trans Dv.o;have lw4:=B2.o.size;have I8:=A0 Ch;have HOwn4:=A0 K0;have H4:=A0 h4;clear h4 An Ch K0;go_wp2;go_ret;rw[HR.o];refine Ir (l:=⟨20,(A6 (Aa s)).line,(A6 (Aa s)).s,0,p.1⟩) (ch:=bl.1) (ks:=cs4) (cs:=#[.int .i64 Gp,.string ⟨S2.toArray⟩,.slice va3 vn3 vc3,.slice D5 D7 D6]) H4.o B2.o rfl (by simp) rfl rfl (fun hb=>?_);have Ar:=Pv H3.o.Jb HBp.o hb;have A9:(Ah 1 (Aa s)).bad=0:=Mk (A81 (fun h=>?_) HPp.o Ar)
 ·have h3:=He.o Ar;refine⟨⟨.slice va3 vn3 vc3,.slice D5 D7 D6,?_,HOwn4.o.keep (fun k hk _=>⟨rfl,by have h:w3.heap.size<=k:=hk;omega⟩),?_⟩,Aj.weak (by omega) (I8.o hb)⟩
  ·rw[(Ef.o A9).1,(Ef.o A9).2];rfl
  ·show C1 _ _ _ _ _ p.1.length (Lv p.1);rw[←h3.1,←h3.2];exact HOwn3.o.keep (fun k hk hl=>⟨Dv.o.block k hl (by have h:w2.heap.size<=k:=hk;omega),by have h:w2.heap.size<=k:=hk;omega⟩)
 ·exact Adg h H2.o.Jb
def A17(b tb cap te:Nat)(ts:List Tk)(n:Nat)(r:BT A2×PS)(w:World)(k:Nat)(wr:World):Prop:=
 ∃(acc:BT A2) (st:PS) (va:Option Addr) (vn vc:Nat) (cs:List Value),k<=n/\A7 k 10 0 acc st=some r/\PR b tb cap te ts wr st/\A1 b w wr/\cs.length+k<=n+1/\
  wr.heap[w.heap.size]?=some (.cells #[.slice va vn vc] 140 (0,0))/\
  C1 (fun g=>w.heap.size<g) wr 142 1 (.slice va vn vc) cs.length cs/\(st.bad=0->Aj (fun g=>w.heap.size<g/\(Value.slice va vn vc).ownBlock≠some g) wr acc cs)
def A16(b tb cap te:Nat)(ts:List Tk)(w:World)(r:BT A2×PS)(e:Ending)(w':World):Prop:=
 ∃va vn vc cs,e=.returned (.pointer (some ⟨w.heap.size,0,none⟩))/\w'.heap[w.heap.size]?=some (.cells #[.slice va vn vc] 140 (0,0))/\
  C1 (fun g=>w.heap.size<g) w' 142 1 (.slice va vn vc) cs.length cs/\PR b tb cap te ts w' r.2/\A1 b w w'/\(r.2.bad=0->Aj (fun g=>w.heap.size<g) w' r.1 cs)
theorem Qm{w:World}{g:Nat}{a0:Value}{t:TypeId}(h:w.heap[g]?=some (.cells #[a0] t (0,0))):w.cell? ⟨g,0,none⟩=some a0/\(∀o,w.frozen? ⟨g,o,none⟩=false)/\g<w.heap.size:=⟨Ac h 0 _ rfl,Ce h,A5 h⟩
theorem Ww{b n g X:Nat}{wr w4 w5:World}{T:TypeId}{v val:Value}{m:Nat}{cs cs0:List Value}{acc x:BT A2}(hb:b<=n)(hn:n<wr.heap.size)(hr:Aj (fun g=>n<g/\v.ownBlock≠some g) wr acc cs)(ho:A1 b wr w4)(hx:Aj (fun g=>wr.heap.size<=g) w4 x [val])(hown:wr.ownsRow 0 T 1 v m cs0)
  (hgrow:w4.grownBy w5 v.ownBlock) (hX:X<=n) (hat:v.ownBlock=some g\/g=w4.heap.size+1) (u:Value):Aj (fun k=>n<k/\(some g:Option Nat)≠some k) (w5.setCell ⟨X,0,none⟩ u) (B6 acc x) (cs++[val]):=by
 have hlt:=Ca hown;have hs:=ho.size;have hset:∀k,n<k->(w5.setCell ⟨X,0,none⟩ u).heap[k]?=w5.heap[k]?:=fun k hk=>Below.heap_setCell _ _ _ _ (by show k≠X;omega);refine Aj.app _ _ _ _ (Aj.keep ?_ _ _ hr) (Aj.keep ?_ _ _ hx)
 ·intro k ⟨h1,h2⟩ hk;refine⟨(hset k h1).trans ((hgrow.block k (by omega) (fun e=>h2 e.symm)).trans (ho.block k hk (by omega))),h1,fun e=>?_⟩;have e:=Option.some.inj e;subst e;rcases hat with h|h
  ·exact h2 h
  ·omega
 ·intro k h1 hk;refine⟨(hset k (by omega)).trans (hgrow.block k hk (fun e=>?_)),by omega,fun e=>?_⟩
  ·have:=hlt k e.symm;omega
  ·have e:=Option.some.inj e;subst e;rcases hat with h|h
   ·have:=hlt g h;omega
   ·omega
theorem A8n{b tb cap te:Nat}{ts:List Tk}{n:Nat}(hn:n<=500000)(w:World)(s:PS)(r:BT A2×PS)(hs:PR b tb cap te ts w s)(hp:A7 n 10 0 .nil s=some r) :
  Calls Tryz.prog 78 #[.pointer (some ⟨b,0,none⟩)] w (A16 b tb cap te ts w r):=by
 have HS:=A0 hs;obtain⟨lb,lt,lne⟩:=hs.lt;have HP0:=A0 hp;clear hp hs;go_enter Tryz.func78,Tryz.ntmps78;go_wp2;go_loopg [] n (fun k wr=>A17 b tb cap te ts n r w k wr)
 case atStart=>exact⟨.nil,s,none,0,0,[],Nat.le_refl _,HP0.o,PR.alloc HS.o _,(A1.refl _ _).alloc _,by simp,heap_alloc_new _ _,M7 _ _ _ _,fun _=>rfl⟩
 case round=>
  clear HP0 HS;obtain⟨acc,st,va,vn,vc,cs,hkn,hpk,hrs,hO,hcn,hpb,hown,hrep⟩:=hrel;cases gk with
  | zero=>exact absurd hpk (Cc _ _ _ _ _)
  | succ m=>
  have HRS:=A0 hrs;have HOr:=A0 hO;have HOwn:=A0 hown;have HRep:=A0 hrep;have HPb:=A0 hpb;have lwr:=hO.size;have hrow:∀k,(Value.slice va vn vc).ownBlock=some k->k≠b/\k≠tb/\w.heap.size<k:=fun k e=>by have h:w.heap.size<k:=hown.2 k e;omega
  have HRow:=A0 hrow;have lpb:=A5 hpb;by_cases c0:kT st=0
  ·have HE:=A0 (Zs c0 hpk);have tk:((kT st:Int) !=0)=false:=by rw[c0];rfl
   clear c0 hpk hrs hO hrep hown hpb;go_wp2_with fail
   refine(Dl HRS.o).mono ?_;rintro e w1 ⟨rfl,h1,A3⟩;have H1:=A0 h1;have Bh:=A0 A3;clear h1 A3;go_wp2;go_ret;rw[HE.o];exact⟨va,vn,vc,cs,rfl,Bg Bh.o HPb.o,HOwn.o.keep (fun k hk hl=>⟨Bh.o.block k hl,hk⟩),H1.o,HOr.o.trans (Below.only Bh.o),fun hb=>Aj.keep (fun k hk hl=>⟨Bh.o.block k hl,hk.1⟩) _ _ (HRep.o hb)⟩
  ·have Br:Hid (st.bad=0):=hrs.E7 c0;have tk:((kT st:Int) !=0)=true:=by simpa using c0
   by_cases c4:kT st=4
   ·obtain⟨z,C4,Bv⟩:=Zt c4 hpk;have hm0:m≠0:=by intro e;subst e;exact absurd C4 (Cc _ _ _ _ _)
    obtain⟨q,rfl⟩:∃q,m=q+1:=⟨m-1,by omega⟩;have Cb:=A0 Bv;have HX:=A0 (fun(W:World) (h:PR b tb cap te ts W st)=>A8f (Xb q q (Nat.le_refl _) (by omega)) (by omega) W st z c4 h C4);have tk4:((kT st:Int)==4)=true:=ke (c:=4) rfl c4;clear c0 c4 hpk hrs hO hrep hown C4 Bv hpb hrow;go_wp2_with fail
    refine(Dl HRS.o).mono ?_;rintro e w1 ⟨rfl,h1,A3⟩;have H1:=A0 h1;have Bh:=A0 A3;clear h1 A3;go_wp2_with fail
    refine(Dl H1.o).mono ?_;rintro e w2 ⟨rfl,h2,A9⟩;have H2:=A0 h2;have Ai:Hid (Below wr.heap.size wr w2):=Bh.o.trans (A9.mono Bh.o.size);have hpb2:=Bg Ai.o HPb.o;obtain⟨y0,fy,ly⟩:=Qm hpb2;have HPb2:=A0 hpb2;have Fg:=Ai.o.size;clear h2 A9 hpb2;have HXd:=A0 (HX.o _ H2.o.drew);go_wp2;go_region_law (first
     | (refine P9 _ w5.heap.size #[.iface ty5 x5] 142 (heap_alloc_new w5 (.cells #[.iface ty5 x5] 142)) rfl (.tmp 16) (.tmp 19) 138 rfl 0 1 16 .nilIface Tryz.underlying138 V7 rfl (by omega) (.slice va vn vc) cs.length cs rfl rfl (Fj.alloc _) rfl (fun u hu=>by simp at hu;rw[hu];rfl) (by omega) (by omega) (Nat.zero_le _) ?_;intro g6 cap6 w6 hown6 hgrow6' hat6' hg6;have hgrow6:w5.grownBy w6 (Value.slice va vn vc).ownBlock:=N6 (World.grownBy_alloc w5 (.cells #[.iface ty5 x5] 142) none) hgrow6';have hat6:(Value.slice va vn vc).ownBlock=some g6\/g6=w5.heap.size+1:=(hat6'.imp id (fun e=>e.trans (by simp)));have hpb6:=(hgrow6.block w.heap.size (A5 HPb5.o) (fun e=>by have:=HRow.o _ e.symm;omega)).trans HPb5.o;have HPb6:=A0 hpb6;obtain⟨q0,fq,lq⟩:=Qm hpb6;clear hpb6 hgrow6' hat6')
     | (refine Nf rfl 131 _ _ rfl #[.pointer (some ⟨b,0,none⟩)] (by kernel_rfl) HXd.o ?_;rintro e w5 ⟨ty5,x5,rfl,h5,Bd,hr5⟩;refine⟨_,rfl,?_⟩;have hpb5:=Bd.blk (show w2.drew.heap[w.heap.size]?=_ from HPb2.o) (by omega);have HPb5:=A0 hpb5;obtain⟨z0,fz,lz⟩:=Qm hpb5;have Fj:w5.ownsRow 0 142 1 (.slice va vn vc) cs.length cs:=Bb HOwn.o.1 (fun k hk hl=>((Bd.block k (Nat.lt_of_lt_of_le hl Ai.o.size) (HRow.o k hk).1).trans (Ai.o.block k hl)));clear hpb5))
    all_goals
     go_wp2;go_roundg (q+1)
     case measure=>omega
     case rel=>
      have lw5:=Bd.size;replace lw5:w2.heap.size<=w5.heap.size:=lw5;have hb25:A1 b wr w5:=(Below.only Ai.o).drew.trans Bd;have hne6:∀k,k≠w.heap.size->(w6.setCell ⟨w.heap.size,0,none⟩ (.slice (some ⟨g6,0,none⟩) (cs.length+1) cap6)).heap[k]?=w6.heap[k]?:=fun k hk=>Below.heap_setCell _ _ _ _ (by exact hk);have hg6':w.heap.size<g6:=by
       rcases hat6 with h|h
       ·exact(HRow.o g6 h).2.2
       ·omega
      refine⟨B6 acc z.1,z.2,some ⟨g6,0,none⟩,cs.length+1,cap6,cs++[.iface ty5 x5],by omega,Cb.o,PR.other (PR.grown h5 hgrow6 (fun e=>(HRow.o b e).1 rfl) (fun e=>(HRow.o tb e).2.1 rfl)) (by show b≠w.heap.size;omega) (by show tb≠w.heap.size;omega) _,A1.set (p:=⟨w.heap.size,0,none⟩) ((HOr.o.trans hb25).grown hgrow6 (fun k e=>.inr (by have:=(HRow.o k e).2.2;omega))) (.inr (Nat.le_refl _)) _,by simp;omega,?_,⟨Bb (by simpa using hown6) (fun k hk _=>hne6 k ?_),fun k hk=>?_⟩,fun hb=>?_⟩
      ·have:=heap_set (j:=0) HPb6.o (.slice (some ⟨g6,0,none⟩) (cs.length+1) cap6);simpa using this
      ·simp only[Value.ownBlock,Option.some.injEq]at hk;omega
      ·simp only[Value.ownBlock,Option.some.injEq]at hk;rw[←hk];exact hg6'
      ·exact Ww (by omega) lpb (HRep.o Br.o) hb25 (Aj.weak (by show wr.heap.size<=w2.heap.size;omega) (hr5 hb)) HOwn.o.1 hgrow6 (Nat.le_refl _) hat6 _
   ·obtain⟨z,C4,Bv⟩:=Zu c0 c4 hpk;have Cb:=A0 Bv;have HX:=A0 (fun(W:World) (h:PR b tb cap te ts W st)=>(Xb m m (Nat.le_refl _) (by omega)).stmt W st z h C4);have tk4:((kT st:Int)==4)=false:=kn (c:=4) rfl c4;clear c0 c4 hpk hrs hO hrep hown C4 Bv hpb hrow;go_wp2_with fail
    refine(Dl HRS.o).mono ?_;rintro e w1 ⟨rfl,h1,A3⟩;have H1:=A0 h1;have Bh:=A0 A3;clear h1 A3;go_wp2_with fail
    refine(Dl H1.o).mono ?_;rintro e w2 ⟨rfl,h2,A9⟩;have H2:=A0 h2;have Ai:Hid (Below wr.heap.size wr w2):=Bh.o.trans (A9.mono Bh.o.size);have hpb2:=Bg Ai.o HPb.o;obtain⟨y0,fy,ly⟩:=Qm hpb2;have HPb2:=A0 hpb2;have Fg:=Ai.o.size;clear h2 A9 hpb2;have HXd:=A0 (HX.o _ H2.o.drew);go_wp2;go_region_law (first
     | (refine P9 _ w5.heap.size #[.iface ty5 x5] 142 (heap_alloc_new w5 (.cells #[.iface ty5 x5] 142)) rfl (.tmp 27) (.tmp 30) 138 rfl 0 1 16 .nilIface Tryz.underlying138 V7 rfl (by omega) (.slice va vn vc) cs.length cs rfl rfl (Fj.alloc _) rfl (fun u hu=>by simp at hu;rw[hu];rfl) (by omega) (by omega) (Nat.zero_le _) ?_;intro g6 cap6 w6 hown6 hgrow6' hat6' hg6;have hgrow6:w5.grownBy w6 (Value.slice va vn vc).ownBlock:=N6 (World.grownBy_alloc w5 (.cells #[.iface ty5 x5] 142) none) hgrow6';have hat6:(Value.slice va vn vc).ownBlock=some g6\/g6=w5.heap.size+1:=(hat6'.imp id (fun e=>e.trans (by simp)));have hpb6:=(hgrow6.block w.heap.size (A5 HPb5.o) (fun e=>by have:=HRow.o _ e.symm;omega)).trans HPb5.o;have HPb6:=A0 hpb6;obtain⟨q0,fq,lq⟩:=Qm hpb6;clear hpb6 hgrow6' hat6')
     | (refine Nf rfl 132 _ _ rfl #[.pointer (some ⟨b,0,none⟩)] (by kernel_rfl) HXd.o ?_;rintro e w5 ⟨ty5,x5,rfl,h5,Bd,hr5⟩;refine⟨_,rfl,?_⟩;have hpb5:=Bd.blk (show w2.drew.heap[w.heap.size]?=_ from HPb2.o) (by omega);have HPb5:=A0 hpb5;obtain⟨z0,fz,lz⟩:=Qm hpb5;have Fj:w5.ownsRow 0 142 1 (.slice va vn vc) cs.length cs:=Bb HOwn.o.1 (fun k hk hl=>((Bd.block k (Nat.lt_of_lt_of_le hl Ai.o.size) (HRow.o k hk).1).trans (Ai.o.block k hl)));clear hpb5))
    all_goals
     go_wp2;go_roundg m
     case measure=>omega
     case rel=>
      have lw5:=Bd.size;replace lw5:w2.heap.size<=w5.heap.size:=lw5;have hb25:A1 b wr w5:=(Below.only Ai.o).drew.trans Bd;have hne6:∀k,k≠w.heap.size->(w6.setCell ⟨w.heap.size,0,none⟩ (.slice (some ⟨g6,0,none⟩) (cs.length+1) cap6)).heap[k]?=w6.heap[k]?:=fun k hk=>Below.heap_setCell _ _ _ _ (by exact hk);have hg6':w.heap.size<g6:=by
       rcases hat6 with h|h
       ·exact(HRow.o g6 h).2.2
       ·omega
      refine⟨B6 acc z.1,z.2,some ⟨g6,0,none⟩,cs.length+1,cap6,cs++[.iface ty5 x5],by omega,Cb.o,PR.other (PR.grown h5 hgrow6 (fun e=>(HRow.o b e).1 rfl) (fun e=>(HRow.o tb e).2.1 rfl)) (by show b≠w.heap.size;omega) (by show tb≠w.heap.size;omega) _,A1.set (p:=⟨w.heap.size,0,none⟩) ((HOr.o.trans hb25).grown hgrow6 (fun k e=>.inr (by have:=(HRow.o k e).2.2;omega))) (.inr (Nat.le_refl _)) _,by simp;omega,?_,⟨Bb (by simpa using hown6) (fun k hk _=>hne6 k ?_),fun k hk=>?_⟩,fun hb=>?_⟩
      ·have:=heap_set (j:=0) HPb6.o (.slice (some ⟨g6,0,none⟩) (cs.length+1) cap6);simpa using this
      ·simp only[Value.ownBlock,Option.some.injEq]at hk;omega
      ·simp only[Value.ownBlock,Option.some.injEq]at hk;rw[←hk];exact hg6'
      ·exact Ww (by omega) lpb (HRep.o Br.o) hb25 (Aj.weak (by show wr.heap.size<=w2.heap.size;omega) (hr5 hb)) HOwn.o.1 hgrow6 (Nat.le_refl _) hat6 _
structure Mb (tb cap : Nat) (ts : List Tk) (w : World) : Prop where
 toks:Uh ts
 tok:∃cur,w.heap[tb]?=some (.cells cur 198 (0,0))/\cur.toList.take (ts.length*4)=M3 ts
 cap:ts.length<=cap
theorem Mb.cell{tb cap:Nat}{ts:List Tk}{w:World}(h:Mb tb cap ts w)(i j:Nat)(hi:i<ts.length)(hj:j<4):w.cell? ⟨tb,i*4+j,none⟩=(Nn ts[i])[j]?:=by
 obtain⟨cur,h1,h2⟩:=h.tok;rw[cell_of_row w tb (i*4+j) cur _ _ h1,←Xh ts i j hi hj,←h2,List.getElem?_take,if_pos (by omega),Array.getElem?_toList]
theorem Mb.lt{tb cap:Nat}{ts:List Tk}{w:World}(h:Mb tb cap ts w):tb<w.heap.size:=by
 obtain⟨cur,h1,_⟩:=h.tok;exact A5 h1
theorem Mb.keep{tb cap:Nat}{ts:List Tk}{w w':World}(h:Mb tb cap ts w)(hk:w'.heap[tb]?=w.heap[tb]?):Mb tb cap ts w':=by
 obtain⟨cur,h1,h2⟩:=h.tok;exact⟨h.toks,⟨cur,hk.trans h1,h2⟩,h.cap⟩
def Rw(n:Nat):Nat:=if n=0 then 0 else 1
def Wt(tb cap:Nat)(ts:List Tk)(w:World)(k:Nat)(o v:Value)(wr:World):Prop:=
 ∃(oi:Int) (n:Nat),o=.int .i64 oi/\v=.int .i64 n/\n+k=ts.length/\nest ts 0=nest (ts.drop n) oi/\-(n:Int)<=oi/\oi<=30/\Mb tb cap ts wr/\Below w.heap.size w wr/\wr.heap[w.heap.size]?=some (.cells #[.int .i64 0,.int .i64 0] 50 (0,0))
theorem Zk{tb cap:Nat}{ts:List Tk}(w:World)(h:Mb tb cap ts w) :
  Calls Tryz.prog 79 #[.slice (some ⟨tb,0,none⟩) ts.length cap] w fun e w'=>e=.returned (.agg #[.int .i64 (Rw (nest ts 0):Nat),.int .i64 (nest ts 0:Nat)])/\Below w.heap.size w w':=by
 have hfew:=h.toks.few;have HH:=A0 h;have ltb:=h.lt;clear h;go_enter Tryz.func79,Tryz.ntmps79;go_wp2;go_loopg [3,8] ts.length (fun k o v wr=>Wt tb cap ts w k o v wr)
 case atStart=>
  exact⟨0,0,rfl,rfl,by omega,rfl,by omega,by omega,HH.o.keep (Below.heap_alloc _ _ _ ltb),(Below.refl _ _).alloc (Nat.le_refl _) _,heap_alloc_new _ _⟩
 case round=>
  clear HH;obtain⟨oi,n,rfl,rfl,hnk,hnest,B5,Ap,ht,hb,hz⟩:=hrel;have HT:=A0 ht;have HB:=A0 hb;have HN:=A0 hnest;have HZ:=A0 hz;have hcap:=ht.cap;obtain⟨z0,z1,fz,lz⟩:=J2 hz;have HSz:=A0 hb.size;clear ht hb hnest hz;by_cases hlt:n<ts.length
  ·have HS:=A0 (Zi ts n hlt oi);have d0:=HT.o.cell n 0 hlt (by omega);have d1:=HT.o.cell n 1 hlt (by omega);have d2:=HT.o.cell n 2 hlt (by omega);have d3:=HT.o.cell n 3 hlt (by omega);have hlo:=HT.o.lt;have hline:=HT.o.toks.line ts[n] (List.getElem_mem hlt);rw[Nn]at d0 d1 d2 d3;simp only[Nat.add_zero,List.getElem?_cons_zero,List.getElem?_cons_succ]at d0 d1 d2 d3;have HRel:Hid (∀(o:Int) (q:Nat),q=n+1->nest ts 0=nest (ts.drop q) o->-(q:Int)<=o->o<=30->∀O:Obj,Wt tb cap ts w (gk-1) (.int .i64 o) (.int .i64 q) (wr.alloc O)):=by
    intro o q hq h1 h2 h3 O;exact⟨o,q,rfl,rfl,by omega,h1,h2,h3,HT.o.keep (Below.heap_alloc _ _ _ hlo),HB.o.alloc HSz.o _,alloc_old HZ.o⟩
   generalize ts[n]=x at *;by_cases hop:x.k=18\/x.k=22\/x.k=20
   ·have HOp:Hid (opens x.k=true):=by
     show _=_;unfold opens;rcases hop with e|e|e <;> rw[e] <;> rfl
    by_cases h30:oi=30
    ·subst h30;have HE:Hid (nest ts 0=x.line):=by
      show _=_;rw[HN.o,HS.o,HOp.o,if_pos rfl,if_pos (by omega)]
     rcases hop with e|e|e;all_goals
      rw[e]at d0;clear e;go_wp2;refine bodyPost_ret (v:=.agg #[.int .i64 1,.int .i64 (x.line:Nat)]) (by simp[results,Tryz.results79,go_sem,z0,z1,lz]) rfl ?_;refine⟨?_,?_⟩
      ·rw[HE.o,Rw,if_neg (by omega)];rfl
      ·have hsz:=HSz.o;repeat (first|exact HB.o|refine Below.alloc ?_ (by simp[World.setCell];omega) _|refine Below.setCell ?_ (by simp) _|refine Below.drew ?_)
    ·have h30':(oi==30)=false:=by rw[beq_eq_false_iff_ne];exact h30
     have HE:Hid (nest ts 0=nest (ts.drop (n+1)) (oi+1)):=by
      show _=_;rw[HN.o,HS.o,HOp.o,if_pos rfl,if_neg (by omega)]
     rcases hop with e|e|e;all_goals
      rw[e]at d0;clear e;go_wp2;go_roundg (gk-1)
      case measure=>omega
      case rel=>exact HRel.o _ _ rfl HE.o (by omega) (by omega) _
   ·have HOp:Hid (opens x.k=false):=by
     show _=_;unfold opens;simp only[Bool.or_eq_false_iff,beq_eq_false_iff_ne];omega
    have t18:((x.k:Int)==18)=false:=kn (c:=18) rfl (by omega);have t22:((x.k:Int)==22)=false:=kn (c:=22) rfl (by omega);have t20:((x.k:Int)==20)=false:=kn (c:=20) rfl (by omega);by_cases hcl:x.k=19\/x.k=23\/x.k=21
    ·have HE:Hid (nest ts 0=nest (ts.drop (n+1)) (oi-1)):=by
      show _=_;have hc:M1 x.k=true:=by
       unfold M1;rcases hcl with e|e|e <;> rw[e] <;> rfl
      rw[HN.o,HS.o,HOp.o,hc];rfl
     clear hop;rcases hcl with e|e|e;all_goals
      rw[e]at d0 t18 t20 t22;clear e;go_wp2;go_roundg (gk-1)
      case measure=>omega
      case rel=>exact HRel.o _ _ rfl HE.o (by omega) (by omega) _
    ·have HE:Hid (nest ts 0=nest (ts.drop (n+1)) oi):=by
      show _=_;have hc:M1 x.k=false:=by
       unfold M1;simp only[Bool.or_eq_false_iff,beq_eq_false_iff_ne];omega
      rw[HN.o,HS.o,HOp.o,hc];rfl
     have t19:((x.k:Int)==19)=false:=kn (c:=19) rfl (by omega);have t23:((x.k:Int)==23)=false:=kn (c:=23) rfl (by omega);have t21:((x.k:Int)==21)=false:=kn (c:=21) rfl (by omega);clear hop hcl;go_wp2;go_roundg (gk-1)
     case measure=>omega
     case rel=>exact HRel.o _ _ rfl HE.o (by omega) (by omega) _
  ·have HE:Hid (nest ts 0=0):=by
    show _=_;rw[HN.o,Zh ts n (by omega) oi]
   go_wp2;refine bodyPost_ret (v:=.agg #[.int .i64 0,.int .i64 0]) (by simp[results,Tryz.results79,go_sem,z0,z1]) rfl ?_;refine⟨?_,?_⟩
   ·rw[HE.o];rfl
   ·have hsz:=HSz.o;repeat (first|exact HB.o|refine Below.alloc ?_ (by simp[World.setCell];omega) _|refine Below.setCell ?_ (by simp) _|refine Below.drew ?_)
theorem A8o{tb cap:Nat}{ts:List Tk}{w:World}(h:Mb tb cap ts w)(h1:0<ts.length)(te:Nat) :
  PR w.heap.size tb cap te ts (w.alloc (.cells #[.slice (some ⟨tb,0,none⟩) ts.length cap,.int .i64 0,.int .i64 0,.int .i64 0] te)) ⟨ts,0⟩:=by
 obtain⟨cur,k1,k2⟩:=h.tok;have:=A5 k1;exact⟨0,h.toks,heap_alloc_new w _,⟨cur,alloc_old k1,k2⟩,by omega,h1,h.cap,fun _=>rfl,fun e=>absurd rfl e⟩
def A14(w:World)(ts:List Tk)(r:BT A2×PS)(e:Ending)(w':World):Prop:=
 Below w.heap.size w w'/\((r.2.bad≠0/\e=.returned (.tuple #[.pointer none,.agg #[.int .i64 2,.int .i64 (r.2.bad:Nat)]]))\/(r.2.bad=0/\nest ts 0≠0/\e=.returned (.tuple #[.pointer none,.agg #[.int .i64 1,.int .i64 (nest ts 0:Nat)]]))\/
  (r.2.bad=0/\nest ts 0=0/\∃pb va vn vc cs,e=.returned (.tuple #[.pointer (some ⟨pb,0,none⟩),.agg #[.int .i64 0,.int .i64 0]])/\w.heap.size<=pb/\w'.heap[pb]?=some (.cells #[.slice va vn vc] 140 (0,0))/\
   C1 (fun g=>w.heap.size<=g) w' 142 1 (.slice va vn vc) cs.length cs/\Aj (fun g=>w.heap.size<=g) w' r.1 cs))
theorem A80{tb cap:Nat}{ts:List Tk}{n:Nat}(hn:n<=500000)(w:World)(r:BT A2×PS)(h:Mb tb cap ts w)(h1:0<ts.length)(hp:A7 n 10 0 .nil ⟨ts,0⟩=some r) :
  Calls Tryz.prog 50 #[.slice (some ⟨tb,0,none⟩) ts.length cap] w (A14 w ts r):=by
 have HH:=A0 h;have ltb:=h.lt;have HC:Hid (Mb tb cap ts (w.alloc (.cells #[.int .i64 0,.int .i64 0] 50))):=h.keep (Below.heap_alloc _ _ _ ltb);have HS:=A0 (A8o HC.o h1 203);have HX:=A0 (fun(W:World) (hs:PR (w.alloc (.cells #[.int .i64 0,.int .i64 0] 50)).heap.size tb cap 203 ts W ⟨ts,0⟩)=>A8n hn W ⟨ts,0⟩ r hs hp);have hsz:(w.alloc (.cells #[.int .i64 0,.int .i64 0] 50)).heap.size=w.heap.size+1:=by simp
 have HSz:=A0 hsz;clear h hp hsz;go_enter Tryz.func50,Tryz.ntmps50;go_wp2_with fail
 rw[show(w.heap.size+1:Nat)=(w.alloc (.cells #[.int .i64 0,.int .i64 0] 50)).heap.size from HSz.o.symm];refine(HX.o _ HS.o).mono ?_;rintro e w1 ⟨va,vn,vc,cs,rfl,hpb,hown,hrs,hO,hrep⟩;have hR:=hO.blk (alloc_old (heap_alloc_new w (.cells #[.int .i64 0,.int .i64 0] 50))) (by simp);have HTk:=A0 (HC.o.keep (w':=w1) ((hO.block tb (by simp;omega) (by simp;omega)).trans (Below.heap_alloc _ _ _ (by simp;omega))));have HBel:Hid (Below w.heap.size w w1):=⟨hO.os,hO.tape,hO.output,by have:=hO.size;simp at this;omega,fun k hk=>(hO.block k (by simp;omega) (by simp;omega)).trans ((Below.heap_alloc _ _ _ (by simp;omega)).trans (Below.heap_alloc _ _ _ hk))⟩;obtain⟨x0,x1,fx,lx⟩:=J2 hR;have HR:=A0 hR;obtain⟨pl,hrt⟩:=hrs;have y2:=Ac hrt.rd 2 _ rfl;have y3:=Ac hrt.rd 3 _ rfl;have ly:=A5 hrt.rd;rw[HSz.o]at y2 y3 ly;have HPb:=A0 hpb;have HOwn:=A0 hown;have HRep:=A0 hrep;have lpb:=A5 hpb;have lbad:=PR.A26 ⟨pl,hrt⟩;clear hpb hown hrep hR hO hrt HS HX;by_cases hb:r.2.bad=0
 ·rw[hb]at y2 y3;have HB:=A0 hb;have t0:((Oj 0:Nat):Int)=0:=rfl;by_cases hd:nest ts 0=0
  ·clear hb;go_wp2_with fail
   refine(Zk _ HTk.o).mono ?_;rintro e w2 ⟨rfl,A9⟩;have G6:=Bg A9 HR.o;have Ai:Hid (Below w.heap.size w w2):=HBel.o.trans (A9.mono HBel.o.size);have Fg:=A9.size;have HBn:=A0 A9;clear x0 x1 fx lx y2 y3 ly A9;obtain⟨x0,x1,fx,lx⟩:=J2 G6;clear G6;rw[hd];have HD:=A0 hd;clear hd;have tn:((Rw 0:Nat):Int)=0:=rfl;go_wp2;refine bodyPost_ret (v:=.tuple #[.pointer (some ⟨w.heap.size+1+1,0,none⟩),.agg #[.int .i64 0,.int .i64 0]]) (by simp[results,Tryz.results50,go_sem,x0,x1,lx]) rfl ?_;have hold:∀k,w.heap.size<k->k<w1.heap.size->(((w2.setCell ⟨w.heap.size,0,none⟩ (.int .i64 0)).setCell ⟨w.heap.size,1,none⟩ (.int .i64 0)).alloc (.cells #[.int .i64 0,.int .i64 0] 50)).heap[k]?=w1.heap[k]?:=by
    intro k h1 h2;rw[Below.heap_alloc _ _ _ (by simp[World.setCell];omega),Below.heap_setCell _ _ _ _ (by show k≠w.heap.size;omega),Below.heap_setCell _ _ _ _ (by show k≠w.heap.size;omega)];exact HBn.o.block k h2
   have Av:((w.alloc (.cells #[.int .i64 0,.int .i64 0] 50)).alloc (.cells #[.slice (some ⟨tb,0,none⟩) ts.length cap,.int .i64 0,.int .i64 0,.int .i64 0] 203)).heap.size=w.heap.size+1+1:=by simp
   have hpb:=HPb.o;have hown:=HOwn.o;have hrep:=HRep.o HB.o;rw[Av]at hpb hown hrep lpb;have hk:∀g,w.heap.size+1+1<g->g<w1.heap.size->(((w2.setCell ⟨w.heap.size,0,none⟩ (.int .i64 0)).setCell ⟨w.heap.size,1,none⟩ (.int .i64 0)).alloc (.cells #[.int .i64 0,.int .i64 0] 50)).heap[g]?=w1.heap[g]?/\w.heap.size<=g:=fun g hg hl=>⟨hold g (by omega) hl,by omega⟩;refine⟨?_,.inr (.inr ⟨HB.o,HD.o,w.heap.size+1+1,va,vn,vc,cs,rfl,by omega,(hold _ (by omega) lpb).trans hpb,hown.keep hk,Aj.keep hk _ _ hrep⟩)⟩;repeat (first|exact Ai.o|refine Below.alloc ?_ (by simp[World.setCell];omega) _|refine Below.setCell ?_ (by simp) _|refine Below.drew ?_)
  ·clear hb;go_wp2_with fail
   refine(Zk _ HTk.o).mono ?_;rintro e w2 ⟨rfl,A9⟩;have G6:=Bg A9 HR.o;have Ai:Hid (Below w.heap.size w w2):=HBel.o.trans (A9.mono HBel.o.size);have Fg:=A9.size;have HBn:=A0 A9;clear x0 x1 fx lx y2 y3 ly A9;obtain⟨x0,x1,fx,lx⟩:=J2 G6;clear G6;have B1:Rw (nest ts 0)=1:=by unfold Rw;rw[if_neg hd]
   rw[B1];have HD:=A0 hd;clear hd B1;go_wp2;go_region
   all_goals go_wp2
   all_goals refine bodyPost_ret (v:=.tuple #[.pointer none,.agg #[.int .i64 1,.int .i64 (nest ts 0:Nat)]]) (by simp[results,Tryz.results50,go_sem,x0,x1,lx]) rfl ?_
   all_goals refine⟨?_,.inr (.inl ⟨HB.o,HD.o,rfl⟩)⟩
   all_goals repeat (first|exact Ai.o|refine Below.alloc ?_ (by simp[World.setCell];omega) _|refine Below.setCell ?_ (by simp) _|refine Below.drew ?_)
 ·have hbc:Oj r.2.bad=2:=by unfold Oj;rw[if_neg hb]
  rw[hbc]at y2;have HB:=A0 hb;clear hb hbc;go_wp2;go_region
  all_goals go_wp2
  all_goals refine bodyPost_ret (v:=.tuple #[.pointer none,.agg #[.int .i64 2,.int .i64 (r.2.bad:Nat)]]) (by simp[results,Tryz.results50,go_sem,x0,x1]) rfl ?_
  all_goals refine⟨?_,.inl ⟨HB.o,rfl⟩⟩
  all_goals repeat (first|exact HBel.o|refine Below.alloc ?_ (by simp[World.setCell];omega) _|refine Below.setCell ?_ (by simp) _|refine Below.drew ?_)
end
end Go.Proofs.YtjdlndhfaaolaaaGreatDoor
