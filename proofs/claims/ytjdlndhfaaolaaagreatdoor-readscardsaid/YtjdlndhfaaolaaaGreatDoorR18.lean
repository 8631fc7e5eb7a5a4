import Derived.Deep.LoopGhost
import Derived.Test.YtjdlndhfaaolaaaGreatDoorR12
import Derived.Test.YtjdlndhfaaolaaaGreatDoorR13
set_option maxHeartbeats 20000000
namespace Go.Proofs.YtjdlndhfaaolaaaGreatDoor
section
set_option maxRecDepth 100000
open Go.RowKit
open Go.Deep (BT)
theorem Z5:(Tryz.prog.info? 150).map (fun i=>(i.zero,i.size,i.bytes))=some (some .nilIface,1,16):=by kernel_rfl
theorem V7:(Tryz.prog.info? 142).map (fun i=>(i.zero,i.size,i.bytes))=some (some .nilIface,1,16):=by kernel_rfl
theorem Z6:(Tryz.prog.info? 148).map (fun i=>(i.zero,i.size,i.bytes))=some (some (.agg #[.int .i64 0,.string ⟨#[]⟩]),2,24):=by kernel_rfl
theorem Uo{b n g:Nat}{wr w4 w5:World}{T:TypeId}{v val:Value}{m:Nat}{cs cs0:List Value}{acc x:BT A2}(hb:b<n)(hn:n<=wr.heap.size)(hr:Aj (fun g=>n<=g/\v.ownBlock≠some g) wr acc cs)(ho:A1 b wr w4)(hx:Aj (fun g=>wr.heap.size<=g) w4 x [val])(hown:wr.ownsRow 0 T 1 v m cs0)
  (hgrow:w4.grownBy w5 v.ownBlock) (hat:v.ownBlock=some g\/g=w4.heap.size+1):Aj (fun k=>n<=k/\(some g:Option Nat)≠some k) w5 (B6 acc x) (cs++[val]):=by
 have hlt:=Ca hown;have hs:=ho.size;refine Aj.app _ _ _ _ (Aj.keep ?_ _ _ hr) (Aj.keep ?_ _ _ hx)
 ·intro k ⟨h1,h2⟩ hk;refine⟨(hgrow.block k (by omega) (fun e=>h2 e.symm)).trans (ho.block k hk (by omega)),h1,fun e=>?_⟩;have e:=Option.some.inj e;subst e;rcases hat with h|h
  ·exact h2 h
  ·omega
 ·intro k h1 hk;refine⟨hgrow.block k hk (fun e=>?_),by omega,fun e=>?_⟩
  ·have:=hlt k e.symm;omega
  ·have e:=Option.some.inj e;subst e;rcases hat with h|h
   ·have:=hlt g h;omega
   ·omega
theorem Mk{k:Nat}{s:PS}(h:(Ah k s).bad=0):s.bad=0:=by
 by_cases h0:s.bad=0
 ·exact h0
 ·exfalso;unfold Ah at h;split at h
  ·rw[Ra]at h;exact h0 h
  ·unfold Cm at h;rw[if_neg h0]at h;exact h0 h
theorem Pv{n t a:Nat}{acc:BT A2}{s:PS}{r:BT A2×PS}(hs:s.bad≠0->s.ts=[Iq])(h:A7 n t a acc s=some r)(hb:r.2.bad=0):s.bad=0:=by
 by_cases h0:s.bad=0
 ·exact h0
 ·rw[Lm (hs h0) h0 _ _ _ _ _ h]at hb;exact absurd hb h0
theorem Ls{b tb cap te:Nat}{ts:List Tk}{n:Nat}(ih:Jt b tb cap te ts n)(w:World)(s:PS)(r:BT A2×PS)(hs:PR b tb cap te ts w s)(hp:A7 n 0 0 .nil s=some r) :
  Calls Tryz.prog 189 #[.pointer (some ⟨b,0,none⟩)] w (Il b tb cap te ts w r):=by
 have HC:=A0 (ih.expr w s 0 r (by omega) hs hp);clear hs hp;go_enter Tryz.func189,Tryz.ntmps189;go_wp2_with fail
 refine HC.o.mono ?_;rintro e w1 ⟨t,x,rfl,h1,B5,B0⟩;have HE:=A0 (And.intro h1 (And.intro B5 B0));clear h1 B5 B0;go_wp2;go_ret;exact⟨t,x,rfl,HE.o⟩
def Ws(a b tb cap te:Nat)(ts:List Tk)(n:Nat)(r:BT A2×PS)(w:World)(k:Nat)(v:Value)(wr:World):Prop:=
 ∃(acc:BT A2) (st:PS) (va:Option Addr) (vn vc:Nat) (cs:List Value),v=.slice va vn vc/\k<=n/\A7 k 6 a acc st=some r/\PR b tb cap te ts wr st/\A1 b w wr/\cs.length+k<=n+1/\
  C1 (fun g=>w.heap.size<=g) wr 150 1 (.slice va vn vc) cs.length cs/\(st.bad=0->Aj (fun g=>w.heap.size<=g/\(Value.slice va vn vc).ownBlock≠some g) wr acc cs)
theorem PR.grown{b tb cap te:Nat}{ts:List Tk}{w w':World}{s:PS}{row:Option Nat}(h:PR b tb cap te ts w s)(hg:w.grownBy w' row)(h1:row≠some b)(h2:row≠some tb):PR b tb cap te ts w' s:=
 h.keep (hg.block b h.lt.1 (fun e=>h1 e.symm)) (hg.block tb h.lt.2.1 (fun e=>h2 e.symm))
theorem A6g{b tb cap te:Nat}{ts:List Tk}{n:Nat}(ih:∀m,m<=n->Jt b tb cap te ts m)(hn:n<=500000)(w:World)(s:PS)(a:Nat)(r:BT A2×PS)(hs:PR b tb cap te ts w s)(hp:A7 (n+1) 5 a .nil s=some r) :
  Calls Tryz.prog 309 #[.pointer (some ⟨b,0,none⟩),.int .i64 (a:Nat)] w (Sn 150 b tb cap te ts w r):=by
 have HS:=A0 hs;obtain⟨lb,lt,lne⟩:=hs.lt;by_cases hc:kT s=a
 ·have t:((kT s:Int) !=(a:Int))=false:=by rw[hc];simp
  have HR:=A0 (Vp hc hp);have HW:Hid (Ah a s=Aa s):=by show _=_;unfold Ah;rw[if_pos hc]
  clear hc hp hs;go_enter Tryz.func309,Tryz.ntmps309;go_wp2_with fail
  refine(Dl HS.o).mono ?_;rintro e w1 ⟨rfl,h1,A3⟩;have H1:=A0 h1;have Ae:Hid (A1 b w w1):=Below.only A3;clear h1 A3;go_wp2_with fail
  refine(K2 H1.o a).mono ?_;rintro e w2 ⟨kk,ln,nn,S,rfl,htk,h2,Ap⟩;have Al:Hid (A1 b w w2):=Ae.o.trans Ap;rw[HW.o]at h2;have H2:=A0 h2;clear h2 htk Ap;go_wp2;go_ret;rw[HR.o];exact⟨none,0,0,[],rfl,M7 _ _ _ _,H2.o,Al.o,fun _=>rfl⟩
 ·have hpos:n≠0:=by
   intro e;subst e;obtain⟨y,hy,_⟩:=bind_some (Tg hc hp);exact Cc _ _ _ _ _ hy
  obtain⟨y,J8,Hu⟩:=bind_some (Tg hc hp);have t:((kT s:Int) !=(a:Int))=true:=by simp;omega
  have HY2:=A0 Hu;have HX:=A0 (fun(W:World) (h:PR b tb cap te ts W s)=>Ls (ih n (Nat.le_refl _)) W s y h J8);clear hc hp hs J8 Hu;go_enter Tryz.func309,Tryz.ntmps309;go_wp2_with fail
  refine(Dl HS.o).mono ?_;rintro e w1 ⟨rfl,h1,A3⟩;have H1:=A0 h1;have Ae:Hid (A1 b w w1):=Below.only A3;clear h1 A3;go_wp2_with fail
  refine(HX.o _ H1.o).mono ?_;rintro e w2 ⟨ty,x,rfl,h2,Ap,Bt⟩;have Al:Hid (A1 b w w2):=Ae.o.trans Ap;have HO2':=A0 Ap;have H2:=A0 h2;have F9:=A0 Bt;have Cz:=Ae.o.size;have Fg:=Ap.size;clear h2 Ap Bt;go_wp2_with (at_builtin;refine F1 w2 #[.iface ty x] 150 rfl (.tmp 10) (.tmp 13) 298 rfl 0 1 16 .nilIface Tryz.underlying298 Z5 rfl (by omega) (.slice none 0 0) 0 [] rfl rfl (World.ownsRow_nil _ _ _ _) rfl (fun u hu=>by simp at hu;rw[hu];rfl) (by omega) (by omega) (Nat.zero_le _) ?_;intro g Bw w3 J6 hgrow hat hg)
  replace hgrow:w2.grownBy w3 (Value.slice none 0 0).ownBlock:=hgrow;have hat:(Value.slice none 0 0).ownBlock=some g\/g=w2.heap.size+1:=hat;have HGg:Hid (g=w2.heap.size+1):=by rcases hat with h|h;simp[Value.ownBlock]at h;exact h
  have HRel:Hid (Ws a b tb cap te ts n r w n (.slice (some ⟨g,0,none⟩) 1 Bw) w3):=by
   refine⟨y.1,y.2,some ⟨g,0,none⟩,1,Bw,[.iface ty x],rfl,Nat.le_refl _,HY2.o,PR.grown H2.o hgrow (by simp[Value.ownBlock]) (by simp[Value.ownBlock]),Al.o.grown hgrow (by simp[Value.ownBlock]),by simp;omega,⟨J6,fun k hk=>?_⟩,fun hb=>?_⟩
   ·simp only[Value.ownBlock,Option.some.injEq]at hk;have:=HGg.o;omega
   ·have:=Uo (T:=150) (acc:=.nil) (cs:=[]) (n:=w.heap.size) lb Cz rfl HO2'.o (F9.o hb) (World.ownsRow_nil _ _ _ _) hgrow hat;exact this
  have HG:=A0 hgrow;clear hgrow hat J6 hg;go_wp2;go_loopg [5] n (fun k v wr=>Ws a b tb cap te ts n r w k v wr)
  case atStart=>exact HRel.o
  case round=>
   clear HRel HY2 HX F9 H2 Al H1 Ae HO2' HG;obtain⟨acc,st,va,vn,vc,cs,rfl,hkn,hpk,hrs,hO,hcn,hown,hrep⟩:=hrel;cases gk with
   | zero=>exact absurd hpk (Cc _ _ _ _ _)
   | succ m=>
   have HRS:=A0 hrs;have HO:=A0 hO;have HOwn:=A0 hown;have HRep:=A0 hrep;have lwr:=hO.size;by_cases h24:kT st=24
   ·obtain⟨z,C4,Bv⟩:=bind_some (Vq h24 hpk);have Cb:=A0 Bv;have HX:=A0 (fun(W:World) (h:PR b tb cap te ts W (Aa st))=>Ls (ih m (by omega)) W (Aa st) z h C4);have tk:(kT st==24)=true:=by simpa using h24
    have HM:Hid (F0 24 st=Aa st):=by show _=_;unfold F0;rw[if_pos h24]
    have Br:Hid (st.bad=0):=hrs.E7 (by omega);clear C4 Bv h24 hpk hrs hO hown hrep;go_wp2_with fail
    refine(Ni HRS.o 24).mono ?_;rintro e w4 ⟨rfl,h4,An⟩;rw[tk];rw[HM.o]at h4;have H4:=A0 h4;have B2:=A0 An;clear h4 An;go_wp2_with fail
    refine(HX.o _ H4.o).mono ?_;rintro e w5 ⟨ty5,x5,rfl,h5,Bd,hr5⟩;have B9:Hid (A1 b wr w5):=B2.o.trans Bd;have H5:=A0 h5;have HR5:=A0 hr5;have lw4:=B2.o.size;have lw5:=Bd.size;have hne:(Value.slice va vn vc).ownBlock≠some b:=fun e=>by have:=HOwn.o.2 b e;omega
    have Fj:w5.ownsRow 0 150 1 (.slice va vn vc) cs.length cs:=Bb HOwn.o.1 (fun k hk hl=>B9.o.block k hl (fun e=>hne (by rw[←e];exact hk)));clear h5 Bd hr5;go_wp2_with (at_builtin;refine F1 w5 #[.iface ty5 x5] 150 rfl (.tmp 17) (.tmp 20) 298 rfl 0 1 16 .nilIface Tryz.underlying298 Z5 rfl (by omega) _ _ _ rfl rfl Fj rfl (fun u hu=>by simp at hu;rw[hu];rfl) (by omega) (by omega) (Nat.zero_le _) ?_;intro g6 cap6 w6 hown6 hgrow6 hat6 hg6)
    replace hgrow6:w5.grownBy w6 (Value.slice va vn vc).ownBlock:=hgrow6;replace hat6:(Value.slice va vn vc).ownBlock=some g6\/g6=w5.heap.size+1:=hat6;have hrow:∀k,(Value.slice va vn vc).ownBlock=some k->k≠b/\k≠tb/\w.heap.size<=k:=fun k e=>by have:=HOwn.o.2 k e;omega
    go_roundg m
    case measure=>omega
    case rel=>
     refine⟨B6 acc z.1,z.2,some ⟨g6,0,none⟩,cs.length+1,cap6,cs++[.iface ty5 x5],rfl,by omega,Cb.o,PR.grown H5.o hgrow6 (fun e=>(hrow b e).1 rfl) (fun e=>(hrow tb e).2.1 rfl),(HO.o.trans B9.o).grown hgrow6 (fun k e=>.inr (hrow k e).2.2),by simp;omega,⟨by simpa using hown6,fun k hk=>?_⟩,fun hb=>?_⟩
     ·simp only[Value.ownBlock,Option.some.injEq]at hk;rw[←hk];rcases hat6 with h|h
      ·exact(hrow g6 h).2.2
      ·omega
     ·exact Uo lb lwr (HRep.o Br.o) B9.o (Aj.weak lw4 (HR5.o hb)) HOwn.o.1 hgrow6 hat6
   ·have HE:=A0 (Vo h24 hpk);have tk:(kT st==24)=false:=by simpa using h24
    have HM:Hid (F0 24 st=st):=by show _=_;unfold F0;rw[if_neg h24]
    clear h24 hpk hrs hO hown hrep;go_wp2_with fail
    refine(Ni HRS.o 24).mono ?_;rintro e w4 ⟨rfl,h4,An⟩;rw[tk];rw[HM.o]at h4;have H4:=A0 h4;have B2:=A0 An;clear h4 An;go_wp2_with fail
    refine(K2 H4.o a).mono ?_;rintro e w5 ⟨kk,ln,nn,S,rfl,htk,h5,Bd⟩;have B9:Hid (A1 b wr w5):=B2.o.trans Bd;have H5:=A0 h5;clear h5 Bd;go_wp2;go_ret;rw[HE.o];have hne:(Value.slice va vn vc).ownBlock≠some b:=fun e=>by have:=HOwn.o.2 b e;omega
    refine⟨va,vn,vc,cs,rfl,⟨Bb HOwn.o.1 (fun k hk hl=>B9.o.block k hl (fun e=>hne (by rw[←e];exact hk))),HOwn.o.2⟩,H5.o,HO.o.trans B9.o,fun hb=>?_⟩;exact Aj.keep (fun k hk hl=>⟨B9.o.block k hl (by omega),hk.1⟩) _ _ (HRep.o (Mk hb))
end
end Go.Proofs.YtjdlndhfaaolaaaGreatDoor
