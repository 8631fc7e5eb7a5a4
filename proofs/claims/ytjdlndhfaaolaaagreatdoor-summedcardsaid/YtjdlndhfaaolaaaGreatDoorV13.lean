import Derived.Deep.LoopGhost
import Derived.Test.YtjdlndhfaaolaaaGreatDoorV11
set_option maxHeartbeats 20000000
namespace Go.Proofs.YtjdlndhfaaolaaaGreatDoor
section
set_option maxRecDepth 100000
open Go.RowKit
open Go.Deep (BT)
theorem A18:(Tryz.prog.info? 150).map (fun i=>(i.zero,i.size,i.bytes))=some (some .nilIface,1,16):=by kernel_rfl
theorem Xe:(Tryz.prog.info? 142).map (fun i=>(i.zero,i.size,i.bytes))=some (some .nilIface,1,16):=by kernel_rfl
theorem A19:(Tryz.prog.info? 148).map (fun i=>(i.zero,i.size,i.bytes))=some (some (.agg #[.int .i64 0,.string ⟨#[]⟩]),2,24):=by kernel_rfl
theorem z4ia {P:Prop} (h:P:=by
  have e:=Option.some.inj e;subst e;rcases hat with h|h
  ·have:=hlt g h;omega
  ·omega):P:=h
theorem Vx{b n g:Nat}{wr w4 w5:World}{T:TypeId}{v val:Value}{m:Nat}{cs cs0:List Value}{acc x:BT A6}(hb:b<n)(hn:n<=wr.heap.size)(hr:An (fun g=>n<=g/\v.ownBlock≠some g) wr acc cs)(ho:A9 b wr w4)(hx:An (fun g=>wr.heap.size<=g) w4 x [val])(hown:wr.ownsRow 0 T 1 v m cs0)
  (hgrow:w4.grownBy w5 v.ownBlock) (hat:v.ownBlock=some g\/g=w4.heap.size+1):An (fun k=>n<=k/\(some g:Option Nat)≠some k) w5 (Bu acc x) (cs++[val]):=by
 have hlt:=Bn hown;have hs:=ho.size;refine An.app _ _ _ _ (An.keep ?_ _ _ hr) (An.keep ?_ _ _ hx)
 ·intro k ⟨h1,h2⟩ hk;refine⟨(hgrow.block k z4va (fun e=>h2 e.symm)).trans (ho.block k hk z4va),h1,fun e=>?_⟩;have e:=Option.some.inj e;subst e;rcases hat with h|h
  ·exact h2 h
  ·omega
 ·intro k h1 hk;refine⟨hgrow.block k hk (fun e=>?_),by omega,fun e=>?_⟩
  ·have:=hlt k e.symm;omega
  ·exact z4ia
theorem Lv{k:Nat}{s:PS}(h:(Be k s).bad=0):s.bad=0:=by
 by_cases h0:s.bad=0
 ·exact h0
 ·exfalso;unfold Be at h;split at h
  ·rw[Re]at h;exact h0 h
  ·unfold Eg at h;rw[if_neg h0]at h;exact h0 h
theorem Pz{n t a:Nat}{acc:BT A6}{s:PS}{r:BT A6×PS}(hs:s.bad≠0->s.ts=[Ij])(h:Ah n t a acc s=some r)(hb:r.2.bad=0):s.bad=0:=by
 by_cases h0:s.bad=0
 ·exact h0
 ·rw[R1 (hs h0) h0 _ _ _ _ _ h]at hb;exact absurd hb h0
theorem Kq{b tb cap te:Nat}{ts:List Tk}{n:Nat}(ih:Is b tb cap te ts n)(w:World)(s:PS)(r:BT A6×PS)(hs:PR b tb cap te ts w s)(hp:Ah n 0 0 .nil s=some r) :
  Calls Tryz.prog 189 #[.pointer (some ⟨b,0,none⟩)] w (Hp b tb cap te ts w r):=by
 have HC:=A0 (ih.expr w s 0 r z4va hs hp);clear hs hp;go_enter Tryz.func189,Tryz.ntmps189;go_wp2_with fail
 refine HC.o.mono ?_;rintro e w1 ⟨t,x,rfl,h1,Bx,At⟩;have HE:=A0 (And.intro h1 (And.intro Bx At));clear h1 Bx At;go_wp2;go_ret;exact⟨t,x,rfl,HE.o⟩
def Z1(a b tb cap te:Nat)(ts:List Tk)(n:Nat)(r:BT A6×PS)(w:World)(k:Nat)(v:Value)(wr:World):Prop:=
 ∃(acc:BT A6) (st:PS) (va:Option Addr) (vn vc:Nat) (cs:List Value),v=.slice va vn vc/\k<=n/\Ah k 6 a acc st=some r/\PR b tb cap te ts wr st/\A9 b w wr/\cs.length+k<=n+1/\
  Cw (fun g=>w.heap.size<=g) wr 150 1 (.slice va vn vc) cs.length cs/\(st.bad=0->An (fun g=>w.heap.size<=g/\(Value.slice va vn vc).ownBlock≠some g) wr acc cs)
theorem PR.grown{b tb cap te:Nat}{ts:List Tk}{w w':World}{s:PS}{row:Option Nat}(h:PR b tb cap te ts w s)(hg:w.grownBy w' row)(h1:row≠some b)(h2:row≠some tb):PR b tb cap te ts w' s:=
 h.keep (hg.block b h.lt.1 (fun e=>h1 e.symm)) (hg.block tb h.lt.2.1 (fun e=>h2 e.symm))
theorem z5la {P:Prop} (h:P:=by rw[←e];exact hk):P:=h
theorem z5pa {P:Prop} (h:P:=by simp[Value.ownBlock]):P:=h
theorem Aes{b tb cap te:Nat}{ts:List Tk}{n:Nat}(ih:∀m,m<=n->Is b tb cap te ts m)(hn:n<=500000)(w:World)(s:PS)(a:Nat)(r:BT A6×PS)(hs:PR b tb cap te ts w s)(hp:Ah (n+1) 5 a .nil s=some r) :
  Calls Tryz.prog 309 #[.pointer (some ⟨b,0,none⟩),.int .i64 (a:Nat)] w (Tm 150 b tb cap te ts w r):=by
 have HS:=A0 hs;obtain⟨lb,lt,lne⟩:=hs.lt;by_cases hc:kT s=a
 ·have t:((kT s:Int) !=(a:Int))=false:=by rw[hc];simp
  have HR:=A0 (A2o hc hp);have HW:Hid (Be a s=As s):=by show _=_;unfold Be;rw[if_pos hc]
  clear hc hp hs;go_enter Tryz.func309,Tryz.ntmps309;go_wp2_with fail
  refine(Ds HS.o).mono ?_;rintro e w1 ⟨rfl,h1,A1⟩;have H1:=A0 h1;have B3:Hid (A9 b w w1):=Below.only A1;clear h1 A1;go_wp2_with fail
  refine(J0 H1.o a).mono ?_;rintro e w2 ⟨kk,ln,nn,S,rfl,htk,h2,Bb⟩;have Bh:Hid (A9 b w w2):=B3.o.trans Bb;rw[HW.o]at h2;have H2:=A0 h2;clear h2 htk Bb;go_wp2;go_ret;rw[HR.o];exact⟨none,0,0,[],rfl,P6 _ _ _ _,H2.o,Bh.o,fun _=>rfl⟩
 ·have hpos:n≠0:=by
   intro e;subst e;obtain⟨y,hy,_⟩:=bind_some (Xx hc hp);exact Gf _ _ _ _ _ hy
  obtain⟨y,hy1,hy2⟩:=bind_some (Xx hc hp);have t:((kT s:Int) !=(a:Int))=true:=by simp;omega
  have HY2:=A0 hy2;have HX:=A0 (fun(W:World) (h:PR b tb cap te ts W s)=>Kq (ih n (Nat.le_refl _)) W s y h hy1);clear hc hp hs hy1 hy2;go_enter Tryz.func309,Tryz.ntmps309;go_wp2_with fail
  refine(Ds HS.o).mono ?_;rintro e w1 ⟨rfl,h1,A1⟩;have H1:=A0 h1;have B3:Hid (A9 b w w1):=Below.only A1;clear h1 A1;go_wp2_with fail
  refine(HX.o _ H1.o).mono ?_;rintro e w2 ⟨ty,x,rfl,h2,Bb,B5⟩;have Bh:Hid (A9 b w w2):=B3.o.trans Bb;have HO2':=A0 Bb;have H2:=A0 h2;have Cd:=A0 B5;have Dt:=B3.o.size;have Fa:=Bb.size;clear h2 Bb B5;go_wp2_with (at_builtin;refine Kj w2 #[.iface ty x] 150 rfl (.tmp 10) (.tmp 13) 298 rfl 0 1 16 .nilIface Tryz.underlying298 A18 rfl z4va (.slice none 0 0) 0 [] rfl rfl (World.ownsRow_nil _ _ _ _) rfl (fun u hu=>by simp at hu;rw[hu];rfl) z4va z4va (Nat.zero_le _) ?_;intro g cap1 w3 hown3 hgrow hat hg)
  replace hgrow:w2.grownBy w3 (Value.slice none 0 0).ownBlock:=hgrow;have hat:(Value.slice none 0 0).ownBlock=some g\/g=w2.heap.size+1:=hat;have HGg:Hid (g=w2.heap.size+1):=by rcases hat with h|h;simp[Value.ownBlock]at h;exact h
  have HRel:Hid (Z1 a b tb cap te ts n r w n (.slice (some ⟨g,0,none⟩) 1 cap1) w3):=by
   refine⟨y.1,y.2,some ⟨g,0,none⟩,1,cap1,[.iface ty x],rfl,Nat.le_refl _,HY2.o,PR.grown H2.o hgrow z5pa z5pa,Bh.o.grown hgrow z5pa,by simp;omega,⟨hown3,fun k hk=>?_⟩,fun hb=>?_⟩
   ·simp only[Value.ownBlock,Option.some.injEq]at hk;have:=HGg.o;omega
   ·have:=Vx (T:=150) (acc:=.nil) (cs:=[]) (n:=w.heap.size) lb Dt rfl HO2'.o (Cd.o hb) (World.ownsRow_nil _ _ _ _) hgrow hat;exact this
  have HG:=A0 hgrow;clear hgrow hat hown3 hg;go_wp2;go_loopg [5] n (fun k v wr=>Z1 a b tb cap te ts n r w k v wr)
  case atStart=>exact HRel.o
  case round=>
   clear HRel HY2 HX Cd H2 Bh H1 B3 HO2' HG;obtain⟨acc,st,va,vn,vc,cs,rfl,hkn,hpk,hrs,hO,hcn,hown,hrep⟩:=hrel;cases gk with
   | zero=>exact absurd hpk (Gf _ _ _ _ _)
   | succ m=>
   have HRS:=A0 hrs;have HO:=A0 hO;have HOwn:=A0 hown;have HRep:=A0 hrep;have lwr:=hO.size;by_cases h24:kT st=24
   ·obtain⟨z,By,C5⟩:=bind_some (A2r h24 hpk);have HZ2:=A0 C5;have HX:=A0 (fun(W:World) (h:PR b tb cap te ts W (As st))=>Kq (ih m z4va) W (As st) z h By);have tk:(kT st==24)=true:=by simpa using h24
    have HM:Hid (Hz 24 st=As st):=by show _=_;unfold Hz;rw[if_pos h24]
    have Af:Hid (st.bad=0):=hrs.Gx z4va;clear By C5 h24 hpk hrs hO hown hrep;go_wp2_with fail
    refine(Mw HRS.o 24).mono ?_;rintro e w4 ⟨rfl,h4,Cl⟩;rw[tk];rw[HM.o]at h4;have H4:=A0 h4;have C2:=A0 Cl;clear h4 Cl;go_wp2_with fail
    refine(HX.o _ H4.o).mono ?_;rintro e w5 ⟨ty5,x5,rfl,h5,Ea,hr5⟩;have Cb:Hid (A9 b wr w5):=C2.o.trans Ea;have H5:=A0 h5;have HR5:=A0 hr5;have lw4:=C2.o.size;have lw5:=Ea.size;have hne:(Value.slice va vn vc).ownBlock≠some b:=fun e=>by have:=HOwn.o.2 b e;omega
    have hown5:w5.ownsRow 0 150 1 (.slice va vn vc) cs.length cs:=B4 HOwn.o.1 (fun k hk hl=>Cb.o.block k hl (fun e=>hne z5la));clear h5 Ea hr5;go_wp2_with (at_builtin;refine Kj w5 #[.iface ty5 x5] 150 rfl (.tmp 17) (.tmp 20) 298 rfl 0 1 16 .nilIface Tryz.underlying298 A18 rfl z4va _ _ _ rfl rfl hown5 rfl (fun u hu=>by simp at hu;rw[hu];rfl) z4va z4va (Nat.zero_le _) ?_;intro g6 cap6 w6 hown6 hgrow6 hat6 hg6)
    replace hgrow6:w5.grownBy w6 (Value.slice va vn vc).ownBlock:=hgrow6;replace hat6:(Value.slice va vn vc).ownBlock=some g6\/g6=w5.heap.size+1:=hat6;have hrow:∀k,(Value.slice va vn vc).ownBlock=some k->k≠b/\k≠tb/\w.heap.size<=k:=fun k e=>by have:=HOwn.o.2 k e;omega
    go_roundg m
    case measure=>omega
    case rel=>
     refine⟨Bu acc z.1,z.2,some ⟨g6,0,none⟩,cs.length+1,cap6,cs++[.iface ty5 x5],rfl,by omega,HZ2.o,PR.grown H5.o hgrow6 (fun e=>(hrow b e).1 rfl) (fun e=>(hrow tb e).2.1 rfl),(HO.o.trans Cb.o).grown hgrow6 (fun k e=>.inr (hrow k e).2.2),by simp;omega,⟨by simpa using hown6,fun k hk=>?_⟩,fun hb=>?_⟩
     ·simp only[Value.ownBlock,Option.some.injEq]at hk;rw[←hk];rcases hat6 with h|h
      ·exact(hrow g6 h).2.2
      ·omega
     ·exact Vx lb lwr (HRep.o Af.o) Cb.o (An.weak lw4 (HR5.o hb)) HOwn.o.1 hgrow6 hat6
   ·have HE:=A0 (A2m h24 hpk);have tk:(kT st==24)=false:=by simpa using h24
    have HM:Hid (Hz 24 st=st):=by show _=_;unfold Hz;rw[if_neg h24]
    clear h24 hpk hrs hO hown hrep;go_wp2_with fail
    refine(Mw HRS.o 24).mono ?_;rintro e w4 ⟨rfl,h4,Cl⟩;rw[tk];rw[HM.o]at h4;have H4:=A0 h4;have C2:=A0 Cl;clear h4 Cl;go_wp2_with fail
    refine(J0 H4.o a).mono ?_;rintro e w5 ⟨kk,ln,nn,S,rfl,htk,h5,Ea⟩;have Cb:Hid (A9 b wr w5):=C2.o.trans Ea;have H5:=A0 h5;clear h5 Ea;go_wp2;go_ret;rw[HE.o];have hne:(Value.slice va vn vc).ownBlock≠some b:=fun e=>by have:=HOwn.o.2 b e;omega
    refine⟨va,vn,vc,cs,rfl,⟨B4 HOwn.o.1 (fun k hk hl=>Cb.o.block k hl (fun e=>hne z5la)),HOwn.o.2⟩,H5.o,HO.o.trans Cb.o,fun hb=>?_⟩;exact An.keep (fun k hk hl=>⟨Cb.o.block k hl z4va,hk.1⟩) _ _ (HRep.o (Lv hb))
end
end Go.Proofs.YtjdlndhfaaolaaaGreatDoor
