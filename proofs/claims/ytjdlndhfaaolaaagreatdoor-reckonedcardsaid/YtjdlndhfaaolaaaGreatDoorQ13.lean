import Derived.Deep.LoopGhost
import Derived.Test.YtjdlndhfaaolaaaGreatDoorQ08
set_option maxHeartbeats 20000000
namespace Go.Proofs.YtjdlndhfaaolaaaGreatDoor
section
set_option maxRecDepth 100000
open Go.RowKit
open Go.Deep (BT)
theorem Yb:(Tryz.prog.info? 150).map (fun i=>(i.zero,i.size,i.bytes))=some (some .nilIface,1,16):=by kernel_rfl
theorem Ut:(Tryz.prog.info? 142).map (fun i=>(i.zero,i.size,i.bytes))=some (some .nilIface,1,16):=by kernel_rfl
theorem A25:(Tryz.prog.info? 148).map (fun i=>(i.zero,i.size,i.bytes))=some (some (.agg #[.int .i64 0,.string ⟨#[]⟩]),2,24):=by kernel_rfl
theorem Uv{b n g:Nat}{wr w4 w5:World}{T:TypeId}{v val:Value}{m:Nat}{cs cs0:List Value}{acc x:BT A6}(hb:b<n)(hn:n<=wr.heap.size)(hr:Al (fun g=>n<=g/\v.ownBlock≠some g) wr acc cs)(ho:A7 b wr w4)(hx:Al (fun g=>wr.heap.size<=g) w4 x [val])(hown:wr.ownsRow 0 T 1 v m cs0)
  (hgrow:w4.grownBy w5 v.ownBlock) (hat:v.ownBlock=some g\/g=w4.heap.size+1):Al (fun k=>n<=k/\(some g:Option Nat)≠some k) w5 (E0 acc x) (cs++[val]):=by
 have hlt:=Bs hown;have hs:=ho.size;refine Al.app _ _ _ _ (Al.keep ?_ _ _ hr) (Al.keep ?_ _ _ hx)
 ·intro k ⟨h1,h2⟩ hk;refine⟨(hgrow.block k (by omega) (fun e=>h2 e.symm)).trans (ho.block k hk (by omega)),h1,fun e=>?_⟩;have e:=Option.some.inj e;subst e;rcases hat with h|h
  ·exact h2 h
  ·omega
 ·intro k h1 hk;refine⟨hgrow.block k hk (fun e=>?_),by omega,fun e=>?_⟩
  ·have:=hlt k e.symm;omega
  ·have e:=Option.some.inj e;subst e;rcases hat with h|h
   ·have:=hlt g h;omega
   ·omega
theorem Lb{k:Nat}{s:PS}(h:(Bb k s).bad=0):s.bad=0:=by
 by_cases h0:s.bad=0
 ·exact h0
 ·exfalso;unfold Bb at h;split at h
  ·rw[Q6]at h;exact h0 h
  ·unfold Ed at h;rw[if_neg h0]at h;exact h0 h
theorem Ou{n t a:Nat}{acc:BT A6}{s:PS}{r:BT A6×PS}(hs:s.bad≠0->s.ts=[Jj])(h:Af n t a acc s=some r)(hb:r.2.bad=0):s.bad=0:=by
 by_cases h0:s.bad=0
 ·exact h0
 ·rw[Pn (hs h0) h0 _ _ _ _ _ h]at hb;exact absurd hb h0
theorem Kk{b tb cap te:Nat}{ts:List Tk}{n:Nat}(ih:Ii b tb cap te ts n)(w:World)(s:PS)(r:BT A6×PS)(hs:PR b tb cap te ts w s)(hp:Af n 0 0 .nil s=some r) :
  Calls Tryz.prog 189 #[.pointer (some ⟨b,0,none⟩)] w (H9 b tb cap te ts w r):=by
 have HC:=A0 (ih.expr w s 0 r (by omega) hs hp);clear hs hp;go_enter Tryz.func189,Tryz.ntmps189;go_wp2_with fail
 refine HC.o.mono ?_;rintro e w1 ⟨t,x,rfl,h1,Bw,Ap⟩;have HE:=A0 (And.intro h1 (And.intro Bw Ap));clear h1 Bw Ap;go_wp2;go_ret;exact⟨t,x,rfl,HE.o⟩
def A0h(a b tb cap te:Nat)(ts:List Tk)(n:Nat)(r:BT A6×PS)(w:World)(k:Nat)(v:Value)(wr:World):Prop:=
 ∃(acc:BT A6) (st:PS) (va:Option Addr) (vn vc:Nat) (cs:List Value),v=.slice va vn vc/\k<=n/\Af k 6 a acc st=some r/\PR b tb cap te ts wr st/\A7 b w wr/\cs.length+k<=n+1/\
  Co (fun g=>w.heap.size<=g) wr 150 1 (.slice va vn vc) cs.length cs/\(st.bad=0->Al (fun g=>w.heap.size<=g/\(Value.slice va vn vc).ownBlock≠some g) wr acc cs)
theorem PR.grown{b tb cap te:Nat}{ts:List Tk}{w w':World}{s:PS}{row:Option Nat}(h:PR b tb cap te ts w s)(hg:w.grownBy w' row)(h1:row≠some b)(h2:row≠some tb):PR b tb cap te ts w' s:=
 h.keep (hg.block b h.lt.1 (fun e=>h1 e.symm)) (hg.block tb h.lt.2.1 (fun e=>h2 e.symm))
theorem Aek{b tb cap te:Nat}{ts:List Tk}{n:Nat}(ih:∀m,m<=n->Ii b tb cap te ts m)(hn:n<=500000)(w:World)(s:PS)(a:Nat)(r:BT A6×PS)(hs:PR b tb cap te ts w s)(hp:Af (n+1) 5 a .nil s=some r) :
  Calls Tryz.prog 309 #[.pointer (some ⟨b,0,none⟩),.int .i64 (a:Nat)] w (Tr 150 b tb cap te ts w r):=by
 have HS:=A0 hs;obtain⟨lb,lt,lne⟩:=hs.lt;by_cases hc:kT s=a
 ·have t:((kT s:Int) !=(a:Int))=false:=by rw[hc];simp
  have HR:=A0 (u9 hc hp);have HW:Hid (Bb a s=Ao s):=by show _=_;unfold Bb;rw[if_pos hc]
  clear hc hp hs;go_enter Tryz.func309,Tryz.ntmps309;go_wp2_with fail
  refine(Dl HS.o).mono ?_;rintro e w1 ⟨rfl,h1,A1⟩;have H1:=A0 h1;have Az:Hid (A7 b w w1):=Below.only A1;clear h1 A1;go_wp2_with fail
  refine(Is H1.o a).mono ?_;rintro e w2 ⟨kk,ln,nn,S,rfl,htk,h2,B8⟩;have Be:Hid (A7 b w w2):=Az.o.trans B8;rw[HW.o]at h2;have H2:=A0 h2;clear h2 htk B8;go_wp2;go_ret;rw[HR.o];exact⟨none,0,0,[],rfl,O8 _ _ _ _,H2.o,Be.o,fun _=>rfl⟩
 ·have hpos:n≠0:=by
   intro e;subst e;obtain⟨y,hy,_⟩:=bind_some (V3 hc hp);exact G9 _ _ _ _ _ hy
  obtain⟨y,hy1,hy2⟩:=bind_some (V3 hc hp);have t:((kT s:Int) !=(a:Int))=true:=by simp;omega
  have HY2:=A0 hy2;have HX:=A0 (fun(W:World) (h:PR b tb cap te ts W s)=>Kk (ih n (Nat.le_refl _)) W s y h hy1);clear hc hp hs hy1 hy2;go_enter Tryz.func309,Tryz.ntmps309;go_wp2_with fail
  refine(Dl HS.o).mono ?_;rintro e w1 ⟨rfl,h1,A1⟩;have H1:=A0 h1;have Az:Hid (A7 b w w1):=Below.only A1;clear h1 A1;go_wp2_with fail
  refine(HX.o _ H1.o).mono ?_;rintro e w2 ⟨ty,x,rfl,h2,B8,B0⟩;have Be:Hid (A7 b w w2):=Az.o.trans B8;have HO2':=A0 B8;have H2:=A0 h2;have C9:=A0 B0;have Dk:=Az.o.size;have Ey:=B8.size;clear h2 B8 B0;go_wp2_with (at_builtin;refine K5 w2 #[.iface ty x] 150 rfl (.tmp 10) (.tmp 13) 298 rfl 0 1 16 .nilIface Tryz.underlying298 Yb rfl (by omega) (.slice none 0 0) 0 [] rfl rfl (World.ownsRow_nil _ _ _ _) rfl (fun u hu=>by simp at hu;rw[hu];rfl) (by omega) (by omega) (Nat.zero_le _) ?_;intro g cap1 w3 Im hgrow hat hg)
  replace hgrow:w2.grownBy w3 (Value.slice none 0 0).ownBlock:=hgrow;have hat:(Value.slice none 0 0).ownBlock=some g\/g=w2.heap.size+1:=hat;have HGg:Hid (g=w2.heap.size+1):=by rcases hat with h|h;simp[Value.ownBlock]at h;exact h
  have HRel:Hid (A0h a b tb cap te ts n r w n (.slice (some ⟨g,0,none⟩) 1 cap1) w3):=by
   refine⟨y.1,y.2,some ⟨g,0,none⟩,1,cap1,[.iface ty x],rfl,Nat.le_refl _,HY2.o,PR.grown H2.o hgrow (by simp[Value.ownBlock]) (by simp[Value.ownBlock]),Be.o.grown hgrow (by simp[Value.ownBlock]),by simp;omega,⟨Im,fun k hk=>?_⟩,fun hb=>?_⟩
   ·simp only[Value.ownBlock,Option.some.injEq]at hk;have:=HGg.o;omega
   ·have:=Uv (T:=150) (acc:=.nil) (cs:=[]) (n:=w.heap.size) lb Dk rfl HO2'.o (C9.o hb) (World.ownsRow_nil _ _ _ _) hgrow hat;exact this
  have HG:=A0 hgrow;clear hgrow hat Im hg;go_wp2;go_loopg [5] n (fun k v wr=>A0h a b tb cap te ts n r w k v wr)
  case atStart=>exact HRel.o
  case round=>
   clear HRel HY2 HX C9 H2 Be H1 Az HO2' HG;obtain⟨acc,st,va,vn,vc,cs,rfl,hkn,hpk,hrs,hO,hcn,hown,hrep⟩:=hrel;cases gk with
   | zero=>exact absurd hpk (G9 _ _ _ _ _)
   | succ m=>
   have HRS:=A0 hrs;have HO:=A0 hO;have HOwn:=A0 hown;have HRep:=A0 hrep;have lwr:=hO.size;by_cases h24:kT st=24
   ·obtain⟨z,Bv,By⟩:=bind_some (A0a h24 hpk);have HZ2:=A0 By;have HX:=A0 (fun(W:World) (h:PR b tb cap te ts W (Ao st))=>Kk (ih m (by omega)) W (Ao st) z h Bv);have tk:(kT st==24)=true:=by simpa using h24
    have HM:Hid (Hq 24 st=Ao st):=by show _=_;unfold Hq;rw[if_pos h24]
    have Ae:Hid (st.bad=0):=hrs.Gt (by omega);clear Bv By h24 hpk hrs hO hown hrep;go_wp2_with fail
    refine(Mi HRS.o 24).mono ?_;rintro e w4 ⟨rfl,h4,Cf⟩;rw[tk];rw[HM.o]at h4;have H4:=A0 h4;have C2:=A0 Cf;clear h4 Cf;go_wp2_with fail
    refine(HX.o _ H4.o).mono ?_;rintro e w5 ⟨ty5,x5,rfl,h5,E5,hr5⟩;have C4:Hid (A7 b wr w5):=C2.o.trans E5;have H5:=A0 h5;have HR5:=A0 hr5;have lw4:=C2.o.size;have lw5:=E5.size;have hne:(Value.slice va vn vc).ownBlock≠some b:=fun e=>by have:=HOwn.o.2 b e;omega
    have hown5:w5.ownsRow 0 150 1 (.slice va vn vc) cs.length cs:=B3 HOwn.o.1 (fun k hk hl=>C4.o.block k hl (fun e=>hne (by rw[←e];exact hk)));clear h5 E5 hr5;go_wp2_with (at_builtin;refine K5 w5 #[.iface ty5 x5] 150 rfl (.tmp 17) (.tmp 20) 298 rfl 0 1 16 .nilIface Tryz.underlying298 Yb rfl (by omega) _ _ _ rfl rfl hown5 rfl (fun u hu=>by simp at hu;rw[hu];rfl) (by omega) (by omega) (Nat.zero_le _) ?_;intro g6 cap6 w6 hown6 hgrow6 hat6 hg6)
    replace hgrow6:w5.grownBy w6 (Value.slice va vn vc).ownBlock:=hgrow6;replace hat6:(Value.slice va vn vc).ownBlock=some g6\/g6=w5.heap.size+1:=hat6;have hrow:∀k,(Value.slice va vn vc).ownBlock=some k->k≠b/\k≠tb/\w.heap.size<=k:=fun k e=>by have:=HOwn.o.2 k e;omega
    go_roundg m
    case measure=>omega
    case rel=>
     refine⟨E0 acc z.1,z.2,some ⟨g6,0,none⟩,cs.length+1,cap6,cs++[.iface ty5 x5],rfl,by omega,HZ2.o,PR.grown H5.o hgrow6 (fun e=>(hrow b e).1 rfl) (fun e=>(hrow tb e).2.1 rfl),(HO.o.trans C4.o).grown hgrow6 (fun k e=>.inr (hrow k e).2.2),by simp;omega,⟨by simpa using hown6,fun k hk=>?_⟩,fun hb=>?_⟩
     ·simp only[Value.ownBlock,Option.some.injEq]at hk;rw[←hk];rcases hat6 with h|h
      ·exact(hrow g6 h).2.2
      ·omega
     ·exact Uv lb lwr (HRep.o Ae.o) C4.o (Al.weak lw4 (HR5.o hb)) HOwn.o.1 hgrow6 hat6
   ·have HE:=A0 (Z6 h24 hpk);have tk:(kT st==24)=false:=by simpa using h24
    have HM:Hid (Hq 24 st=st):=by show _=_;unfold Hq;rw[if_neg h24]
    clear h24 hpk hrs hO hown hrep;go_wp2_with fail
    refine(Mi HRS.o 24).mono ?_;rintro e w4 ⟨rfl,h4,Cf⟩;rw[tk];rw[HM.o]at h4;have H4:=A0 h4;have C2:=A0 Cf;clear h4 Cf;go_wp2_with fail
    refine(Is H4.o a).mono ?_;rintro e w5 ⟨kk,ln,nn,S,rfl,htk,h5,E5⟩;have C4:Hid (A7 b wr w5):=C2.o.trans E5;have H5:=A0 h5;clear h5 E5;go_wp2;go_ret;rw[HE.o];have hne:(Value.slice va vn vc).ownBlock≠some b:=fun e=>by have:=HOwn.o.2 b e;omega
    refine⟨va,vn,vc,cs,rfl,⟨B3 HOwn.o.1 (fun k hk hl=>C4.o.block k hl (fun e=>hne (by rw[←e];exact hk))),HOwn.o.2⟩,H5.o,HO.o.trans C4.o,fun hb=>?_⟩;exact Al.keep (fun k hk hl=>⟨C4.o.block k hl (by omega),hk.1⟩) _ _ (HRep.o (Lb hb))
end
end Go.Proofs.YtjdlndhfaaolaaaGreatDoor
