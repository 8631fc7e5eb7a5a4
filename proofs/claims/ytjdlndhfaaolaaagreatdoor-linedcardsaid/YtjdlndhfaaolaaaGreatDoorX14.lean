import Derived.Deep.LoopGhost
import Derived.Test.YtjdlndhfaaolaaaGreatDoorX10
set_option maxHeartbeats 20000000
namespace Go.Proofs.YtjdlndhfaaolaaaGreatDoor
section
set_option maxRecDepth 100000
open Go.RowKit
open Go.Deep (BT)
theorem A1a:(Tryz.prog.info? 150).map (fun i=>(i.zero,i.size,i.bytes))=some (some .nilIface,1,16):=by kernel_rfl
theorem Xp:(Tryz.prog.info? 142).map (fun i=>(i.zero,i.size,i.bytes))=some (some .nilIface,1,16):=by kernel_rfl
theorem A1b:(Tryz.prog.info? 148).map (fun i=>(i.zero,i.size,i.bytes))=some (some (.agg #[.int .i64 0,.string ⟨#[]⟩]),2,24):=by kernel_rfl
theorem z4ga {P:Prop} (h:P:=by
  have e:=Option.some.inj e;subst e;rcases hat with h|h
  ·have:=hlt g h;omega
  ·omega):P:=h
theorem Vp{b n g:Nat}{wr w4 w5:World}{T:TypeId}{v val:Value}{m:Nat}{cs cs0:List Value}{acc x:BT A3}(hb:b<n)(hn:n<=wr.heap.size)(hr:Al (fun g=>n<=g/\v.ownBlock≠some g) wr acc cs)(ho:A5 b wr w4)(hx:Al (fun g=>wr.heap.size<=g) w4 x [val])(hown:wr.ownsRow 0 T 1 v m cs0)
  (hgrow:w4.grownBy w5 v.ownBlock) (hat:v.ownBlock=some g\/g=w4.heap.size+1):Al (fun k=>n<=k/\(some g:Option Nat)≠some k) w5 (Co acc x) (cs++[val]):=by
 have hlt:=Bg hown;have hs:=ho.size;refine Al.app _ _ _ _ (Al.keep ?_ _ _ hr) (Al.keep ?_ _ _ hx)
 ·intro k ⟨h1,h2⟩ hk;refine⟨(hgrow.block k z4sa (fun e=>h2 e.symm)).trans (ho.block k hk z4sa),h1,fun e=>?_⟩;have e:=Option.some.inj e;subst e;rcases hat with h|h
  ·exact h2 h
  ·omega
 ·intro k h1 hk;refine⟨hgrow.block k hk (fun e=>?_),by omega,fun e=>?_⟩
  ·have:=hlt k e.symm;omega
  ·exact z4ga
theorem Ll{k:Nat}{s:PS}(h:(Aw k s).bad=0):s.bad=0:=by
 by_cases h0:s.bad=0
 ·exact h0
 ·exfalso;unfold Aw at h;split at h
  ·rw[Qv]at h;exact h0 h
  ·unfold Dh at h;rw[if_neg h0]at h;exact h0 h
theorem Ph{n t a:Nat}{acc:BT A3}{s:PS}{r:BT A3×PS}(hs:s.bad≠0->s.ts=[J0])(h:Ab n t a acc s=some r)(hb:r.2.bad=0):s.bad=0:=by
 by_cases h0:s.bad=0
 ·exact h0
 ·rw[Qn (hs h0) h0 _ _ _ _ _ h]at hb;exact absurd hb h0
theorem Km{b tb cap te:Nat}{ts:List Tk}{n:Nat}(ih:Iw b tb cap te ts n)(w:World)(s:PS)(r:BT A3×PS)(hs:PR b tb cap te ts w s)(hp:Ab n 0 0 .nil s=some r) :
  Calls Tryz.prog 189 #[.pointer (some ⟨b,0,none⟩)] w (Hr b tb cap te ts w r):=by
 have HC:=A0 (ih.expr w s 0 r z4sa hs hp);clear hs hp;go_enter Tryz.func189,Tryz.ntmps189;go_wp2_with fail
 refine HC.o.mono ?_;rintro e w1 ⟨t,x,rfl,h1,Bt,B8⟩;have HE:=A0 (And.intro h1 (And.intro Bt B8));clear h1 Bt B8;go_wp2;go_ret;exact⟨t,x,rfl,HE.o⟩
def Zt(a b tb cap te:Nat)(ts:List Tk)(n:Nat)(r:BT A3×PS)(w:World)(k:Nat)(v:Value)(wr:World):Prop:=
 ∃(acc:BT A3) (st:PS) (va:Option Addr) (vn vc:Nat) (cs:List Value),v=.slice va vn vc/\k<=n/\Ab k 6 a acc st=some r/\PR b tb cap te ts wr st/\A5 b w wr/\cs.length+k<=n+1/\
  Cr (fun g=>w.heap.size<=g) wr 150 1 (.slice va vn vc) cs.length cs/\(st.bad=0->Al (fun g=>w.heap.size<=g/\(Value.slice va vn vc).ownBlock≠some g) wr acc cs)
theorem PR.grown{b tb cap te:Nat}{ts:List Tk}{w w':World}{s:PS}{row:Option Nat}(h:PR b tb cap te ts w s)(hg:w.grownBy w' row)(h1:row≠some b)(h2:row≠some tb):PR b tb cap te ts w' s:=
 h.keep (hg.block b h.lt.1 (fun e=>h1 e.symm)) (hg.block tb h.lt.2.1 (fun e=>h2 e.symm))
theorem z5da {P:Prop} (h:P:=by rw[←e];exact hk):P:=h
theorem z5ia {P:Prop} (h:P:=by simp[Value.ownBlock]):P:=h
theorem Adv{b tb cap te:Nat}{ts:List Tk}{n:Nat}(ih:∀m,m<=n->Iw b tb cap te ts m)(hn:n<=500000)(w:World)(s:PS)(a:Nat)(r:BT A3×PS)(hs:PR b tb cap te ts w s)(hp:Ab (n+1) 5 a .nil s=some r) :
  Calls Tryz.prog 309 #[.pointer (some ⟨b,0,none⟩),.int .i64 (a:Nat)] w (Sw 150 b tb cap te ts w r):=by
 have HS:=A0 hs;obtain⟨lb,lt,lne⟩:=hs.lt;by_cases hc:kT s=a
 ·have t:((kT s:Int) !=(a:Int))=false:=by rw[hc];simp
  have HR:=A0 (A2m hc hp);have HW:Hid (Aw a s=Aj s):=by show _=_;unfold Aw;rw[if_pos hc]
  clear hc hp hs;go_enter Tryz.func309,Tryz.ntmps309;go_wp2_with fail
  refine(De HS.o).mono ?_;rintro e w1 ⟨rfl,h1,A1⟩;have H1:=A0 h1;have Av:Hid (A5 b w w1):=Below.only A1;clear h1 A1;go_wp2_with fail
  refine(J8 H1.o a).mono ?_;rintro e w2 ⟨kk,ln,nn,S,rfl,htk,h2,B1⟩;have B7:Hid (A5 b w w2):=Av.o.trans B1;rw[HW.o]at h2;have H2:=A0 h2;clear h2 htk B1;go_wp2;go_ret;rw[HR.o];exact⟨none,0,0,[],rfl,Om _ _ _ _,H2.o,B7.o,fun _=>rfl⟩
 ·have hpos:n≠0:=by
   intro e;subst e;obtain⟨y,hy,_⟩:=bind_some (Yb hc hp);exact F3 _ _ _ _ _ hy
  obtain⟨y,hy1,hy2⟩:=bind_some (Yb hc hp);have t:((kT s:Int) !=(a:Int))=true:=by simp;omega
  have HY2:=A0 hy2;have HX:=A0 (fun(W:World) (h:PR b tb cap te ts W s)=>Km (ih n (Nat.le_refl _)) W s y h hy1);clear hc hp hs hy1 hy2;go_enter Tryz.func309,Tryz.ntmps309;go_wp2_with fail
  refine(De HS.o).mono ?_;rintro e w1 ⟨rfl,h1,A1⟩;have H1:=A0 h1;have Av:Hid (A5 b w w1):=Below.only A1;clear h1 A1;go_wp2_with fail
  refine(HX.o _ H1.o).mono ?_;rintro e w2 ⟨ty,x,rfl,h2,B1,Bm⟩;have B7:Hid (A5 b w w2):=Av.o.trans B1;have HO2':=A0 B1;have H2:=A0 h2;have Dv:=A0 Bm;have Df:=Av.o.size;have F2:=B1.size;clear h2 B1 Bm;go_wp2_with (at_builtin;refine Ju w2 #[.iface ty x] 150 rfl (.tmp 10) (.tmp 13) 298 rfl 0 1 16 .nilIface Tryz.underlying298 A1a rfl z4sa (.slice none 0 0) 0 [] rfl rfl (World.ownsRow_nil _ _ _ _) rfl (fun u hu=>by simp at hu;rw[hu];rfl) z4sa z4sa (Nat.zero_le _) ?_;intro g cap1 w3 J3 hgrow hat hg)
  replace hgrow:w2.grownBy w3 (Value.slice none 0 0).ownBlock:=hgrow;have hat:(Value.slice none 0 0).ownBlock=some g\/g=w2.heap.size+1:=hat;have HGg:Hid (g=w2.heap.size+1):=by rcases hat with h|h;simp[Value.ownBlock]at h;exact h
  have HRel:Hid (Zt a b tb cap te ts n r w n (.slice (some ⟨g,0,none⟩) 1 cap1) w3):=by
   refine⟨y.1,y.2,some ⟨g,0,none⟩,1,cap1,[.iface ty x],rfl,Nat.le_refl _,HY2.o,PR.grown H2.o hgrow z5ia z5ia,B7.o.grown hgrow z5ia,by simp;omega,⟨J3,fun k hk=>?_⟩,fun hb=>?_⟩
   ·simp only[Value.ownBlock,Option.some.injEq]at hk;have:=HGg.o;omega
   ·have:=Vp (T:=150) (acc:=.nil) (cs:=[]) (n:=w.heap.size) lb Df rfl HO2'.o (Dv.o hb) (World.ownsRow_nil _ _ _ _) hgrow hat;exact this
  have HG:=A0 hgrow;clear hgrow hat J3 hg;go_wp2;go_loopg [5] n (fun k v wr=>Zt a b tb cap te ts n r w k v wr)
  case atStart=>exact HRel.o
  case round=>
   clear HRel HY2 HX Dv H2 B7 H1 Av HO2' HG;obtain⟨acc,st,va,vn,vc,cs,rfl,hkn,hpk,hrs,hO,hcn,hown,hrep⟩:=hrel;cases gk with
   | zero=>exact absurd hpk (F3 _ _ _ _ _)
   | succ m=>
   have HRS:=A0 hrs;have HO:=A0 hO;have HOwn:=A0 hown;have HRep:=A0 hrep;have lwr:=hO.size;by_cases h24:kT st=24
   ·obtain⟨z,Bq,Bw⟩:=bind_some (A2n h24 hpk);have HZ2:=A0 Bw;have HX:=A0 (fun(W:World) (h:PR b tb cap te ts W (Aj st))=>Km (ih m z4sa) W (Aj st) z h Bq);have tk:(kT st==24)=true:=by simpa using h24
    have HM:Hid (I5 24 st=Aj st):=by show _=_;unfold I5;rw[if_pos h24]
    have Ae:Hid (st.bad=0):=hrs.Gv z4sa;clear Bq Bw h24 hpk hrs hO hown hrep;go_wp2_with fail
    refine(Mq HRS.o 24).mono ?_;rintro e w4 ⟨rfl,h4,Ck⟩;rw[tk];rw[HM.o]at h4;have H4:=A0 h4;have C8:=A0 Ck;clear h4 Ck;go_wp2_with fail
    refine(HX.o _ H4.o).mono ?_;rintro e w5 ⟨ty5,x5,rfl,h5,En,hr5⟩;have C6:Hid (A5 b wr w5):=C8.o.trans En;have H5:=A0 h5;have HR5:=A0 hr5;have lw4:=C8.o.size;have lw5:=En.size;have hne:(Value.slice va vn vc).ownBlock≠some b:=fun e=>by have:=HOwn.o.2 b e;omega
    have hown5:w5.ownsRow 0 150 1 (.slice va vn vc) cs.length cs:=B2 HOwn.o.1 (fun k hk hl=>C6.o.block k hl (fun e=>hne z5da));clear h5 En hr5;go_wp2_with (at_builtin;refine Ju w5 #[.iface ty5 x5] 150 rfl (.tmp 17) (.tmp 20) 298 rfl 0 1 16 .nilIface Tryz.underlying298 A1a rfl z4sa _ _ _ rfl rfl hown5 rfl (fun u hu=>by simp at hu;rw[hu];rfl) z4sa z4sa (Nat.zero_le _) ?_;intro g6 cap6 w6 hown6 hgrow6 hat6 hg6)
    replace hgrow6:w5.grownBy w6 (Value.slice va vn vc).ownBlock:=hgrow6;replace hat6:(Value.slice va vn vc).ownBlock=some g6\/g6=w5.heap.size+1:=hat6;have hrow:∀k,(Value.slice va vn vc).ownBlock=some k->k≠b/\k≠tb/\w.heap.size<=k:=fun k e=>by have:=HOwn.o.2 k e;omega
    go_roundg m
    case measure=>omega
    case rel=>
     refine⟨Co acc z.1,z.2,some ⟨g6,0,none⟩,cs.length+1,cap6,cs++[.iface ty5 x5],rfl,by omega,HZ2.o,PR.grown H5.o hgrow6 (fun e=>(hrow b e).1 rfl) (fun e=>(hrow tb e).2.1 rfl),(HO.o.trans C6.o).grown hgrow6 (fun k e=>.inr (hrow k e).2.2),by simp;omega,⟨by simpa using hown6,fun k hk=>?_⟩,fun hb=>?_⟩
     ·simp only[Value.ownBlock,Option.some.injEq]at hk;rw[←hk];rcases hat6 with h|h
      ·exact(hrow g6 h).2.2
      ·omega
     ·exact Vp lb lwr (HRep.o Ae.o) C6.o (Al.weak lw4 (HR5.o hb)) HOwn.o.1 hgrow6 hat6
   ·have HE:=A0 (A2k h24 hpk);have tk:(kT st==24)=false:=by simpa using h24
    have HM:Hid (I5 24 st=st):=by show _=_;unfold I5;rw[if_neg h24]
    clear h24 hpk hrs hO hown hrep;go_wp2_with fail
    refine(Mq HRS.o 24).mono ?_;rintro e w4 ⟨rfl,h4,Ck⟩;rw[tk];rw[HM.o]at h4;have H4:=A0 h4;have C8:=A0 Ck;clear h4 Ck;go_wp2_with fail
    refine(J8 H4.o a).mono ?_;rintro e w5 ⟨kk,ln,nn,S,rfl,htk,h5,En⟩;have C6:Hid (A5 b wr w5):=C8.o.trans En;have H5:=A0 h5;clear h5 En;go_wp2;go_ret;rw[HE.o];have hne:(Value.slice va vn vc).ownBlock≠some b:=fun e=>by have:=HOwn.o.2 b e;omega
    refine⟨va,vn,vc,cs,rfl,⟨B2 HOwn.o.1 (fun k hk hl=>C6.o.block k hl (fun e=>hne z5da)),HOwn.o.2⟩,H5.o,HO.o.trans C6.o,fun hb=>?_⟩;exact Al.keep (fun k hk hl=>⟨C6.o.block k hl z4sa,hk.1⟩) _ _ (HRep.o (Ll hb))
end
end Go.Proofs.YtjdlndhfaaolaaaGreatDoor
