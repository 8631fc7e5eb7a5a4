import Derived.Deep.LoopGhost
import Derived.Test.YtjdlndhfaaolaaaGreatDoorT11
set_option maxHeartbeats 20000000
namespace Go.Proofs.YtjdlndhfaaolaaaGreatDoor
section
set_option maxRecDepth 100000
open Go.RowKit
open Go.Deep (BT)
theorem A0y:(Tryz.prog.info? 150).map (fun i=>(i.zero,i.size,i.bytes))=some (some .nilIface,1,16):=by kernel_rfl
theorem Wy:(Tryz.prog.info? 142).map (fun i=>(i.zero,i.size,i.bytes))=some (some .nilIface,1,16):=by kernel_rfl
theorem A0z:(Tryz.prog.info? 148).map (fun i=>(i.zero,i.size,i.bytes))=some (some (.agg #[.int .i64 0,.string ⟨#[]⟩]),2,24):=by kernel_rfl
theorem z4oa {P:Prop} (h:P:=by
  have e:=Option.some.inj e;subst e;rcases hat with h|h
  ·have:=hlt g h;omega
  ·omega):P:=h
theorem Vo{b n g:Nat}{wr w4 w5:World}{T:TypeId}{v val:Value}{m:Nat}{cs cs0:List Value}{acc x:BT A6}(hb:b<n)(hn:n<=wr.heap.size)(hr:Ao (fun g=>n<=g/\v.ownBlock≠some g) wr acc cs)(ho:A9 b wr w4)(hx:Ao (fun g=>wr.heap.size<=g) w4 x [val])(hown:wr.ownsRow 0 T 1 v m cs0)
  (hgrow:w4.grownBy w5 v.ownBlock) (hat:v.ownBlock=some g\/g=w4.heap.size+1):Ao (fun k=>n<=k/\(some g:Option Nat)≠some k) w5 (C4 acc x) (cs++[val]):=by
 have hlt:=Bs hown;have hs:=ho.size;refine Ao.app _ _ _ _ (Ao.keep ?_ _ _ hr) (Ao.keep ?_ _ _ hx)
 ·intro k ⟨h1,h2⟩ hk;refine⟨(hgrow.block k z51a (fun e=>h2 e.symm)).trans (ho.block k hk z51a),h1,fun e=>?_⟩;have e:=Option.some.inj e;subst e;rcases hat with h|h
  ·exact h2 h
  ·omega
 ·intro k h1 hk;refine⟨hgrow.block k hk (fun e=>?_),by omega,fun e=>?_⟩
  ·have:=hlt k e.symm;omega
  ·exact z4oa
theorem Lm{k:Nat}{s:PS}(h:(Bi k s).bad=0):s.bad=0:=by
 by_cases h0:s.bad=0
 ·exact h0
 ·exfalso;unfold Bi at h;split at h
  ·rw[Qz]at h;exact h0 h
  ·unfold Eh at h;rw[if_neg h0]at h;exact h0 h
theorem Ph{n t a:Nat}{acc:BT A6}{s:PS}{r:BT A6×PS}(hs:s.bad≠0->s.ts=[Ig])(h:Ai n t a acc s=some r)(hb:r.2.bad=0):s.bad=0:=by
 by_cases h0:s.bad=0
 ·exact h0
 ·rw[Ql (hs h0) h0 _ _ _ _ _ h]at hb;exact absurd hb h0
theorem Kf{b tb cap te:Nat}{ts:List Tk}{n:Nat}(ih:Iq b tb cap te ts n)(w:World)(s:PS)(r:BT A6×PS)(hs:PR b tb cap te ts w s)(hp:Ai n 0 0 .nil s=some r) :
  Calls Tryz.prog 189 #[.pointer (some ⟨b,0,none⟩)] w (Ho b tb cap te ts w r):=by
 have HC:=A0 (ih.expr w s 0 r z51a hs hp);clear hs hp;go_enter Tryz.func189,Tryz.ntmps189;go_wp2_with fail
 refine HC.o.mono ?_;rintro e w1 ⟨t,x,rfl,h1,C3,Au⟩;have HE:=A0 (And.intro h1 (And.intro C3 Au));clear h1 C3 Au;go_wp2;go_ret;exact⟨t,x,rfl,HE.o⟩
def Yr(a b tb cap te:Nat)(ts:List Tk)(n:Nat)(r:BT A6×PS)(w:World)(k:Nat)(v:Value)(wr:World):Prop:=
 ∃(acc:BT A6) (st:PS) (va:Option Addr) (vn vc:Nat) (cs:List Value),v=.slice va vn vc/\k<=n/\Ai k 6 a acc st=some r/\PR b tb cap te ts wr st/\A9 b w wr/\cs.length+k<=n+1/\
  Cz (fun g=>w.heap.size<=g) wr 150 1 (.slice va vn vc) cs.length cs/\(st.bad=0->Ao (fun g=>w.heap.size<=g/\(Value.slice va vn vc).ownBlock≠some g) wr acc cs)
theorem PR.grown{b tb cap te:Nat}{ts:List Tk}{w w':World}{s:PS}{row:Option Nat}(h:PR b tb cap te ts w s)(hg:w.grownBy w' row)(h1:row≠some b)(h2:row≠some tb):PR b tb cap te ts w' s:=
 h.keep (hg.block b h.lt.1 (fun e=>h1 e.symm)) (hg.block tb h.lt.2.1 (fun e=>h2 e.symm))
theorem z5ra {P:Prop} (h:P:=by rw[←e];exact hk):P:=h
theorem z5va {P:Prop} (h:P:=by simp[Value.ownBlock]):P:=h
theorem Aee{b tb cap te:Nat}{ts:List Tk}{n:Nat}(ih:∀m,m<=n->Iq b tb cap te ts m)(hn:n<=500000)(w:World)(s:PS)(a:Nat)(r:BT A6×PS)(hs:PR b tb cap te ts w s)(hp:Ai (n+1) 5 a .nil s=some r) :
  Calls Tryz.prog 309 #[.pointer (some ⟨b,0,none⟩),.int .i64 (a:Nat)] w (Sx 150 b tb cap te ts w r):=by
 have HS:=A0 hs;obtain⟨lb,lt,lne⟩:=hs.lt;by_cases hc:kT s=a
 ·have t:((kT s:Int) !=(a:Int))=false:=by rw[hc];simp
  have HR:=A0 (A2e hc hp);have HW:Hid (Bi a s=At s):=by show _=_;unfold Bi;rw[if_pos hc]
  clear hc hp hs;go_enter Tryz.func309,Tryz.ntmps309;go_wp2_with fail
  refine(Dt HS.o).mono ?_;rintro e w1 ⟨rfl,h1,A1⟩;have H1:=A0 h1;have B6:Hid (A9 b w w1):=Below.only A1;clear h1 A1;go_wp2_with fail
  refine(Ix H1.o a).mono ?_;rintro e w2 ⟨kk,ln,nn,S,rfl,htk,h2,Be⟩;have Bm:Hid (A9 b w w2):=B6.o.trans Be;rw[HW.o]at h2;have H2:=A0 h2;clear h2 htk Be;go_wp2;go_ret;rw[HR.o];exact⟨none,0,0,[],rfl,Oq _ _ _ _,H2.o,Bm.o,fun _=>rfl⟩
 ·have hpos:n≠0:=by
   intro e;subst e;obtain⟨y,hy,_⟩:=bind_some (Xl hc hp);exact Gg _ _ _ _ _ hy
  obtain⟨y,hy1,hy2⟩:=bind_some (Xl hc hp);have t:((kT s:Int) !=(a:Int))=true:=by simp;omega
  have HY2:=A0 hy2;have HX:=A0 (fun(W:World) (h:PR b tb cap te ts W s)=>Kf (ih n (Nat.le_refl _)) W s y h hy1);clear hc hp hs hy1 hy2;go_enter Tryz.func309,Tryz.ntmps309;go_wp2_with fail
  refine(Dt HS.o).mono ?_;rintro e w1 ⟨rfl,h1,A1⟩;have H1:=A0 h1;have B6:Hid (A9 b w w1):=Below.only A1;clear h1 A1;go_wp2_with fail
  refine(HX.o _ H1.o).mono ?_;rintro e w2 ⟨ty,x,rfl,h2,Be,B7⟩;have Bm:Hid (A9 b w w2):=B6.o.trans Be;have HO2':=A0 Be;have H2:=A0 h2;have Ci:=A0 B7;have Du:=B6.o.size;have Fe:=Be.size;clear h2 Be B7;go_wp2_with (at_builtin;refine Kb w2 #[.iface ty x] 150 rfl (.tmp 10) (.tmp 13) 298 rfl 0 1 16 .nilIface Tryz.underlying298 A0y rfl z51a (.slice none 0 0) 0 [] rfl rfl (World.ownsRow_nil _ _ _ _) rfl (fun u hu=>by simp at hu;rw[hu];rfl) z51a z51a (Nat.zero_le _) ?_;intro g cap1 w3 hown3 hgrow hat hg)
  replace hgrow:w2.grownBy w3 (Value.slice none 0 0).ownBlock:=hgrow;have hat:(Value.slice none 0 0).ownBlock=some g\/g=w2.heap.size+1:=hat;have HGg:Hid (g=w2.heap.size+1):=by rcases hat with h|h;simp[Value.ownBlock]at h;exact h
  have HRel:Hid (Yr a b tb cap te ts n r w n (.slice (some ⟨g,0,none⟩) 1 cap1) w3):=by
   refine⟨y.1,y.2,some ⟨g,0,none⟩,1,cap1,[.iface ty x],rfl,Nat.le_refl _,HY2.o,PR.grown H2.o hgrow z5va z5va,Bm.o.grown hgrow z5va,by simp;omega,⟨hown3,fun k hk=>?_⟩,fun hb=>?_⟩
   ·simp only[Value.ownBlock,Option.some.injEq]at hk;have:=HGg.o;omega
   ·have:=Vo (T:=150) (acc:=.nil) (cs:=[]) (n:=w.heap.size) lb Du rfl HO2'.o (Ci.o hb) (World.ownsRow_nil _ _ _ _) hgrow hat;exact this
  have HG:=A0 hgrow;clear hgrow hat hown3 hg;go_wp2;go_loopg [5] n (fun k v wr=>Yr a b tb cap te ts n r w k v wr)
  case atStart=>exact HRel.o
  case round=>
   clear HRel HY2 HX Ci H2 Bm H1 B6 HO2' HG;obtain⟨acc,st,va,vn,vc,cs,rfl,hkn,hpk,hrs,hO,hcn,hown,hrep⟩:=hrel;cases gk with
   | zero=>exact absurd hpk (Gg _ _ _ _ _)
   | succ m=>
   have HRS:=A0 hrs;have HO:=A0 hO;have HOwn:=A0 hown;have HRep:=A0 hrep;have lwr:=hO.size;by_cases h24:kT st=24
   ·obtain⟨z,C1,C9⟩:=bind_some (A2h h24 hpk);have HZ2:=A0 C9;have HX:=A0 (fun(W:World) (h:PR b tb cap te ts W (At st))=>Kf (ih m z51a) W (At st) z h C1);have tk:(kT st==24)=true:=by simpa using h24
    have HM:Hid (Hw 24 st=At st):=by show _=_;unfold Hw;rw[if_pos h24]
    have Ah:Hid (st.bad=0):=hrs.Gx z51a;clear C1 C9 h24 hpk hrs hO hown hrep;go_wp2_with fail
    refine(Mp HRS.o 24).mono ?_;rintro e w4 ⟨rfl,h4,Cq⟩;rw[tk];rw[HM.o]at h4;have H4:=A0 h4;have C7:=A0 Cq;clear h4 Cq;go_wp2_with fail
    refine(HX.o _ H4.o).mono ?_;rintro e w5 ⟨ty5,x5,rfl,h5,Ea,hr5⟩;have Ce:Hid (A9 b wr w5):=C7.o.trans Ea;have H5:=A0 h5;have HR5:=A0 hr5;have lw4:=C7.o.size;have lw5:=Ea.size;have hne:(Value.slice va vn vc).ownBlock≠some b:=fun e=>by have:=HOwn.o.2 b e;omega
    have hown5:w5.ownsRow 0 150 1 (.slice va vn vc) cs.length cs:=B8 HOwn.o.1 (fun k hk hl=>Ce.o.block k hl (fun e=>hne z5ra));clear h5 Ea hr5;go_wp2_with (at_builtin;refine Kb w5 #[.iface ty5 x5] 150 rfl (.tmp 17) (.tmp 20) 298 rfl 0 1 16 .nilIface Tryz.underlying298 A0y rfl z51a _ _ _ rfl rfl hown5 rfl (fun u hu=>by simp at hu;rw[hu];rfl) z51a z51a (Nat.zero_le _) ?_;intro g6 cap6 w6 hown6 hgrow6 hat6 hg6)
    replace hgrow6:w5.grownBy w6 (Value.slice va vn vc).ownBlock:=hgrow6;replace hat6:(Value.slice va vn vc).ownBlock=some g6\/g6=w5.heap.size+1:=hat6;have hrow:∀k,(Value.slice va vn vc).ownBlock=some k->k≠b/\k≠tb/\w.heap.size<=k:=fun k e=>by have:=HOwn.o.2 k e;omega
    go_roundg m
    case measure=>omega
    case rel=>
     refine⟨C4 acc z.1,z.2,some ⟨g6,0,none⟩,cs.length+1,cap6,cs++[.iface ty5 x5],rfl,by omega,HZ2.o,PR.grown H5.o hgrow6 (fun e=>(hrow b e).1 rfl) (fun e=>(hrow tb e).2.1 rfl),(HO.o.trans Ce.o).grown hgrow6 (fun k e=>.inr (hrow k e).2.2),by simp;omega,⟨by simpa using hown6,fun k hk=>?_⟩,fun hb=>?_⟩
     ·simp only[Value.ownBlock,Option.some.injEq]at hk;rw[←hk];rcases hat6 with h|h
      ·exact(hrow g6 h).2.2
      ·omega
     ·exact Vo lb lwr (HRep.o Ah.o) Ce.o (Ao.weak lw4 (HR5.o hb)) HOwn.o.1 hgrow6 hat6
   ·have HE:=A0 (A2c h24 hpk);have tk:(kT st==24)=false:=by simpa using h24
    have HM:Hid (Hw 24 st=st):=by show _=_;unfold Hw;rw[if_neg h24]
    clear h24 hpk hrs hO hown hrep;go_wp2_with fail
    refine(Mp HRS.o 24).mono ?_;rintro e w4 ⟨rfl,h4,Cq⟩;rw[tk];rw[HM.o]at h4;have H4:=A0 h4;have C7:=A0 Cq;clear h4 Cq;go_wp2_with fail
    refine(Ix H4.o a).mono ?_;rintro e w5 ⟨kk,ln,nn,S,rfl,htk,h5,Ea⟩;have Ce:Hid (A9 b wr w5):=C7.o.trans Ea;have H5:=A0 h5;clear h5 Ea;go_wp2;go_ret;rw[HE.o];have hne:(Value.slice va vn vc).ownBlock≠some b:=fun e=>by have:=HOwn.o.2 b e;omega
    refine⟨va,vn,vc,cs,rfl,⟨B8 HOwn.o.1 (fun k hk hl=>Ce.o.block k hl (fun e=>hne z5ra)),HOwn.o.2⟩,H5.o,HO.o.trans Ce.o,fun hb=>?_⟩;exact Ao.keep (fun k hk hl=>⟨Ce.o.block k hl z51a,hk.1⟩) _ _ (HRep.o (Lm hb))
end
end Go.Proofs.YtjdlndhfaaolaaaGreatDoor
