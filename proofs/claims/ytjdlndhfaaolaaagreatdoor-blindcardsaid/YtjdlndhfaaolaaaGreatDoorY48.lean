import Derived.Test.YtjdlndhfaaolaaaGreatDoorY47
set_option maxHeartbeats 20000000
set_option linter.all false
namespace Go.Proofs.YtjdlndhfaaolaaaGreatDoor
section
set_option maxRecDepth 100000
open Go.RowKit
open Go.Deep (BT)
variable {C:MC} {D X:Nat->Prop} {w w':World} {m:MS} {β:Nat->Nat}
def MC.Ms.atB(h:C.Ms D X β w m)(i:Int):Calls Tryz.prog 195 #[.pointer (some ⟨C.mb,4,none⟩),.i i] w fun e w'=>e=.returned (B7 β (m.at' i))/\Bw w w':=by
 obtain⟨ρ,s,x,fv,ab,lp,h'⟩:=h;exact A2y h'.Ol i (by have:=h'.C1.1;omega) (m.at' i) rfl
def Ajb(m:MS):∀(ks:List Kn) (f:Int) (i:Nat) (h:i<ks.length),Ju m (f+(i:Nat)) (ks.drop i)=(ks[i].is (m.at' (f+(i:Nat)))&&Ju m (f+((i+1:Nat):Nat)) (ks.drop (i+1))):=by
 intro ks f i h;rw[Gk h,Ju];congr 2
 omega
def A7j(h:C.Ms D X β w m){fb:Nat}{fo:Form}(hf:Oa D w (some ⟨fb,0,none⟩) (some fo))(hk:∀x∈fo.bet,x.like.r=none)(hl:fo.bet.length<=5000)(hn:m.vals.length<=90000000000) :
  Calls Tryz.prog 247 #[.p C.mb,.p fb] w fun e w'=>e=.returned (.bool (Ju m ((m.vals.length:Nat)-(fo.bet.length:Nat)) fo.bet))/\Bw w w':=by
 obtain⟨fb',sa,sn,sc,ka,kn,kc,e1,hD,hb,hst,hbt⟩:=hf;injection e1 with e1;injection e1 with e1;subst e1;have hkn:kn=fo.bet.length:=(Cm hbt.1).1;subst hkn;have lb:=h.B3;have lf:=A6 hb;have HL:=A0 h.len;have HPm:=An8 hb;go_in;go_wp2_with fail
 refine HL.o.mono ?_;rintro e w1 ⟨rfl,Fe⟩;rw[Fe];go_wp2_with fail
 refine HPm.mono ?_;rintro e w1 ⟨rfl,Fe⟩;rw[Fe];go_wp2_with fail
 refine HPm.mono ?_;rintro e w1 ⟨rfl,Fe⟩;rw[Fe];go_wp2;generalize hR:Ju m ((m.vals.length:Nat)-(fo.bet.length:Nat)) fo.bet=R at *;go_loopg [16] fo.bet.length (fun k v wr=>∃i:Nat,v=.i i/\i+k=fo.bet.length/\Ju m ((m.vals.length:Int)-(fo.bet.length:Nat)+(i:Nat)) (fo.bet.drop i)=R/\Bw w wr)
 case atStart=>exact⟨0,rfl,by omega,by rw[Hl,show((0:Nat):Int)=0 from rfl,Int.add_zero];exact hR,Al _ _⟩
 case round=>
  obtain⟨i,rfl,hik,hfr,hbr⟩:=hrel;have hsr:=(h.below hbr).1;have lbr:=hsr.B3;have hfbr:=(hbr.block fb lf).trans hb;have lfr:=A6 hfbr;by_cases hlt:i<fo.bet.length
  ·have hfr2:=hfr;rw[Ajb m fo.bet _ i hlt]at hfr2;have HA:=hsr.atB ((m.vals.length:Int)-(fo.bet.length:Nat)+(i:Nat));have HKr:=hbt.keep (D':=D) (w':=wr) (fun g hg hl=>⟨hbr.block g hl,hg⟩);generalize m.at' ((m.vals.length:Int)-(fo.bet.length:Nat)+(i:Nat))=u at *;unfold B7 at HA;go_wp2_with fail
   refine HA.mono ?_;rintro e w2 ⟨rfl,k2⟩;have HFt:=Aj9 ((k2.block fb lfr).trans hfbr) (HKr.keep (D':=D) (fun g hg hl=>⟨k2.block g hl,hg⟩)).1 hk i hlt z4ma u β;have Ab:Bw w w2:=hbr.trans (k2.mono hbr.size);have Ed:=Cb lbr k2.size;unfold B7 at HFt;generalize hz:fo.bet[i].is u=z at *;go_wp2_with fail
   refine HFt.mono ?_;rintro e w3 ⟨rfl,Ay⟩;have Ba:Bw w w3:=Ab.trans (Ay.mono Ab.size);have lb3:=Cb Ed Ay.size;cases z
   ·have HRf:Hid (R=false):=by have:=hfr2;simp at this;exact this
    go_wp2;refine B9 (v:=.bool false) (by simp[results,Tryz.results247,go_sem]) rfl ⟨by rw[hR,HRf.o],Ba⟩
   ·go_wp2;go_roundg (gk-1)
    case measure=>omega
    case rel=>exact⟨i+1,by simp,by omega,by have:=hfr2;simpa using this,Ba⟩
  ·have HRt:Hid (R=true):=by
    have:=hfr;rw[Pz z4ma,Ju]at this;exact this.symm
   go_wp2;refine B9 (v:=.bool true) (by simp[results,Tryz.results247,go_sem]) rfl ⟨by rw[hR,HRt.o],hbr⟩
def z35a {P:Prop} (h:P:=by
  have:=HSt.o;simp only[X9]at this;exact this):P:=h
def z5za {P:Prop} (h:P:=by simp[Jz]):P:=h
def Amc(h:C.Ms D X β w m){n:Nat}{f:Fn}(hf:C.P.fns[n]?=some f){l:En}(hl:m.lots[n]?=some l){bets:List Cl}(hb:H7 X w (.slice C.ba C.bn C.bc) bets)(hbl:bets.length<=1000)
  (hfit:∀f∈C.P.fns,Q4 C.P.fns.length 5000 f) (hst:f.steps.length<=90000) (hN:C.P.fns.length<=1000000) (hfo:∀fo,l.form=some fo->(∀x∈fo.bet,x.like.r=none)/\fo.bet.length<=5000/\fo.slots<=5000) (hv:m.vals.length<=90000000000) (hc:l.calls<=80000000000/\l.fast<=80000000000/\l.drops<=80000000000) :
  Calls Tryz.prog 204 #[.p C.mb,.n n] w (MBP C D X β w m bets n f):=by
 obtain⟨lb,p,hL⟩:=A7e h hl;obtain⟨lc,c2,hcc⟩:=hL.cell;have lbm:=h.B3;have lbl:=hL.lbl;have hn:=hL.lt;have a0:=hL.c0;have HT:=Aur h hb hbl n l.calls;have HL:=A0 hL;have HB:=A0 hb;have hcl:=hc.1;have hcf:=hc.2.1;have hcd:=hc.2.2;clear hL h hb;go_in;go_wp2_with fail
 refine HT.mono ?_;rintro e w1 ⟨A2,⟨rfl,htk⟩|⟨j,hj,rfl,htk⟩⟩
 ·have HTk:=A0 htk;have hL1:=HL.o.same (HL.o.st.below A2).1 rfl A2.block;have G4:=A0 hL1;have A9:Hid (A3 (dx D X) w w1):=(HL.o.st.below A2).2;clear A2 htk HT hL1 a0;cases hform:l.form with
  | none=>
   have hpn:p=none:=by have:=G4.o.form;rw[hform]at this;exact this
   subst hpn;have a0:=G4.o.c0;have a1:=G4.o.c1;have a2:=G4.o.c2;have a3:=G4.o.c3;have fz:=G4.o.fz;have lblx:=G4.o.lbl;have lbmx:=G4.o.st.B3;obtain⟨g0,hprg,hdx⟩:=G4.o.st.Rt;obtain⟨Ad,hc2,sa,sn,sc,p3,hcc2,hDp,hDb,lp,lh,hlt,hBd⟩:=We hprg hf;have ne1:=G4.o.ne.1;have ne2:=G4.o.ne.2 _ (.inl hDp);have ne3:=G4.o.ne.2 _ (.inl hDb);have HBd:=A0 hBd;clear hprg hdx hBd;have HS:=A0 (G4.o.set 0 (.i ((l.calls:Int)+1)) none ⟨l.calls+1,none,l.fast,l.drops⟩ z4ma z5za rfl);go_wp2;go_ret;obtain⟨s1,s2⟩:=HS.o;refine⟨D,⟨l.calls+1,none,l.fast,l.drops⟩,Ad,n*4+2,f.slots,f.steps,sa,sn,sc,fun _ h=>h,s1.st,A9.o.trans s2,HBd.o.set (fun g hg=>G4.o.ne.2 g (.inl hg)) _,(hfit f (Gl hf)).1,rfl,?_⟩;unfold MS.body;rw[hl];dsimp only;rw[HTk.o];dsimp only;rw[hform];rfl
  | some fo=>
   obtain⟨hko,hkl,hks⟩:=hfo fo hform;have hle:l=⟨l.calls,some fo,l.fast,l.drops⟩:=by rw[←hform]
   have HLq:=G4.o;rw[hle]at HLq;have Fb:Hid (Qx C D X β w1 m lb n p ⟨l.calls,some fo,l.fast,l.drops⟩):=HLq;clear HLq hle G4;have a0:=Fb.o.c0;have a1:=Fb.o.c1;have a2:=Fb.o.c2;have a3:=Fb.o.c3;have fz:=Fb.o.fz;have lblx:=Fb.o.lbl;have lbmx:=Fb.o.st.B3;obtain⟨g0,hprg,hdx⟩:=Fb.o.st.Rt;obtain⟨Ad,hc2,sa,sn,sc,p3,hcc2,hDp,hDb,lp,lh,hlt,hBd⟩:=We hprg hf;have ne1:=Fb.o.ne.1;have ne2:=Fb.o.ne.2 _ (.inl hDp);have ne3:=Fb.o.ne.2 _ (.inl hDb);have HBd:=A0 hBd;clear hprg hdx hBd;obtain⟨fb,s1a,s1n,s1c,k1a,k1n,k1c,hpe,hDf,hfb,hfs,hfk⟩:=Fb.o.form;subst hpe;clear hDf hfb hfs hfk;have HS:=Fb.o.set 0 (.i ((l.calls:Int)+1)) (some ⟨fb,0,none⟩) ⟨l.calls+1,some (fo),l.fast,l.drops⟩ z4ma z5za Fb.o.form;obtain⟨s1,s2⟩:=HS;have HFt:=A0 (fun(W':World) (hW:W'=w1.setCell ⟨lb,n*4+0,none⟩ (.i ((l.calls:Int)+1)))=>(show Calls Tryz.prog 247 #[.p C.mb,.p fb] W' (fun e w'=>e=.returned (.bool (Ju m ((m.vals.length:Nat)-((fo).bet.length:Nat)) (fo).bet))/\Below W'.heap.size W' w') by rw[hW,←A67 m (m.lots.set n ⟨l.calls+1,some (fo),l.fast,l.drops⟩)];exact A7j (m:={ m with lots:=m.lots.set n ⟨l.calls+1,some (fo),l.fast,l.drops⟩ }) s1.st s1.form hko hkl hv));have B5:=A0 s1;have Ab:Hid (A3 (dx D X) w _):=A9.o.trans (s2);clear s1 s2;generalize hz:Ju m ((m.vals.length:Nat)-((fo).bet.length:Nat)) (fo).bet=z at *;have HZ:=A0 hz;clear hz;go_wp2_with fail
   refine(HFt.o _ rfl).mono ?_;rintro e w3 ⟨rfl,Ay⟩;have hb3':Below (w1.setCell ⟨lb,n*4+0,none⟩ (.i ((l.calls:Int)+1))).heap.size (w1.setCell ⟨lb,n*4+0,none⟩ (.i ((l.calls:Int)+1))) w3:=Ay;have L3:=B5.o.same (B5.o.st.below hb3').1 rfl hb3'.block;have Ba:Hid (A3 (dx D X) w w3):=Ab.o.trans ((B5.o.st.below hb3').2);have Fj:=A0 L3;clear Ay hb3' L3 HFt a0 a1 a2 a3 fz lblx lbmx g0 Ad hc2 sa sn sc p3 hcc2 hDp hDb lp lh hlt ne1 ne2 ne3 HBd;have a0:=Fj.o.c0;have a1:=Fj.o.c1;have a2:=Fj.o.c2;have a3:=Fj.o.c3;have fz:=Fj.o.fz;have lblx:=Fj.o.lbl;have lbmx:=Fj.o.st.B3;obtain⟨g0,hprg,hdx⟩:=Fj.o.st.Rt;obtain⟨Ad,hc2,sa,sn,sc,p3,hcc2,hDp,hDb,lp,lh,hlt,hBd⟩:=We hprg hf;have ne1:=Fj.o.ne.1;have ne2:=Fj.o.ne.2 _ (.inl hDp);have ne3:=Fj.o.ne.2 _ (.inl hDb);have HBd:=A0 hBd;clear hprg hdx hBd;obtain⟨fb',t1a,t1n,t1c,k2a,k2n,k2c,hpe,hDf,hfb,hfs,hfk⟩:=Fj.o.form;injection hpe with hpe;injection hpe with hpe;subst hpe;have HFB:Hid (N8 (D) w3 fb 0 (fo).slots (fo).steps t1a t1n t1c):=⟨hDf,A4 hfb 0 _ rfl,A4 hfb 1 _ rfl,hfs⟩;have lfb:=A6 hfb;have ne4:=Fj.o.ne.2 _ (.inl hDf);clear hfb hfs hfk;cases z
   ·have HSa:=Fj.o.set 1 (.pointer none) none ⟨l.calls+1,none,l.fast,l.drops⟩ z4ma z5za rfl;have HSb:=HSa.1.set 3 (.i ((l.drops:Int)+1)) none ⟨l.calls+1,none,l.fast,l.drops+1⟩ z4ma z5za rfl;have HSt:=A0 HSb.1.st;have HSd:Hid (A3 (dx D X) w _):=Ba.o.trans (HSa.2.trans HSb.2);have HBq:=A0 ((HBd.o.set (fun g hg=>Fj.o.ne.2 g (.inl hg)) (o:=n*4+1) (.pointer none)).set (fun g hg=>Fj.o.ne.2 g (.inl hg)) (o:=n*4+3) (.i ((l.drops:Int)+1)));clear HSa HSb;go_wp2;go_ret;refine⟨D,⟨l.calls+1,none,l.fast,l.drops+1⟩,Ad,n*4+2,f.slots,f.steps,sa,sn,sc,fun _ h=>h,?_,HSd.o,HBq.o,(hfit f (Gl hf)).1,rfl,?_⟩
    ·exact z35a
    ·unfold MS.body;rw[hl];dsimp only;rw[HTk.o];dsimp only;rw[hform];dsimp only;rw[A1 (by rw[HZ.o];simp)];rfl
   ·have HSa:=Fj.o.set 2 (.i ((l.fast:Int)+1)) (some ⟨fb,0,none⟩) ⟨l.calls+1,some (fo),l.fast+1,l.drops⟩ z4ma z5za Fj.o.form;have HSt:=A0 HSa.1.st;have HSd:Hid (A3 (dx D X) w _):=Ba.o.trans (HSa.2);have HBq:=A0 (HFB.o.set (fun g hg=>Fj.o.ne.2 g (.inl hg)) (o:=n*4+2) (.i ((l.fast:Int)+1)));clear HSa;go_wp2;go_ret;refine⟨D,⟨l.calls+1,some (fo),l.fast+1,l.drops⟩,fb,0,_,_,t1a,t1n,t1c,fun _ h=>h,?_,HSd.o,HBq.o,hks,rfl,?_⟩
    ·exact z35a
    ·unfold MS.body;rw[hl];dsimp only;rw[HTk.o];dsimp only;rw[hform];dsimp only;rw[A7 HZ.o];rfl
 ·obtain⟨hfn,haf⟩:=Aut htk;have HTk:=A0 htk;have hL1:=HL.o.same (HL.o.st.below A2).1 rfl A2.block;have G4:=A0 hL1;have A9:Hid (A3 (dx D X) w w1):=(HL.o.st.below A2).2;obtain⟨ba,bc,ev,hbc,hbt⟩:=HB.o.below A2;obtain⟨g0c,hprg0,hdx0⟩:=hL1.st.Rt;have b1:=hL1.st.A4m;rw[ev]at b1;obtain⟨g,o,rfl,hKg,lg,hcell⟩:=hbt z4ma;obtain⟨q0,q1,kv,iv,q2,q3,rk,ri⟩:=hcell j hj;obtain⟨ka,kc,ek,_⟩:=id rk;obtain⟨ia,ic,ei,_⟩:=id ri;rw[show(ints bets[j].kinds).length=bets[j].kinds.length by simp[ints]]at ek;rw[show(ints bets[j].ints).length=bets[j].ints.length by simp[ints]]at ei;subst ek ei;have HNew:=Ajj (w:=w1.drew) (hprg0.keep (E':=D) (fun g hg _=>⟨rfl,hg⟩)) (fun g hg=>(hdx0 g (.inl hg)).1) hfn hf (rk.keep (K':=X) (w':=w1.drew) (fun g hg _=>⟨rfl,hg⟩) (Af _)) (ri.keep (K':=X) (w':=w1.drew) (fun g hg _=>⟨rfl,hg⟩) (Af _)) hfit hst hN;rw[←X0]at q1 q2 q3;have a0x:=hL1.c0;have fzx:=hL1.fz;have lbx:=hL1.lbl;have lbmy:=hL1.st.B3;have W9:=(hdx0 _ (.inl (hprg0.choose_spec.choose_spec.choose_spec.choose_spec.choose_spec.choose_spec.choose_spec.1))).1;have hko:∀x∈(G8 C.P bets[j] f).bet,x.like.r=none:=fun x hx=>by
   simp only[G8,Qu]at hx;obtain⟨i,_,rfl⟩:=hx;exact p8 _ i
  have hkl:(G8 C.P bets[j] f).bet.length<=5000:=by
   have:=(hfit f (Gl hf)).1;have:=(hfit f (Gl hf)).2.1;simp only[G8,Mb,A3i];omega
  have hks:(G8 C.P bets[j] f).slots<=5000:=(hfit f (Gl hf)).1;clear A2 htk HT hL1 a0 hbt hcell rk ri hprg0 hdx0;rw[hfn,haf]at HNew;go_wp2;go_region_law (refine F9 rfl 246 _ _ rfl #[.p C.pb,.agg #[.n n,.n l.calls,.slice ka bets[j].kinds.length kc,.slice ia bets[j].ints.length ic]] z4pa HNew ?_;rintro e w2 ⟨fb0,E,rfl,hform2,hE,hb20⟩;refine⟨_,rfl,?_⟩;have hb2':Bw w1 w2:=Ib (b:=w1.drew) ⟨rfl,rfl,rfl,Af _,fun _ _=>rfl⟩ hb20;have hm3:C.Ms (fun g=>D g\/E g) X β w2 m:=((G4.o.st.more hb2').Amf E (fun g hg=>.inr (hE g hg))).less (fun _ h=>.inl h) (fun _ _ _=>rfl) rfl;have L2:=G4.o.same hm3 rfl hb2'.block;have Fb:=A0 L2;have HB2':Hid (A3 (dx D X) w w2):=A9.o.trans (G4.o.st.below hb2').2;obtain⟨L4,k4⟩:=L2.set 1 (.p fb0) (some ⟨fb0,0,none⟩) ⟨l.calls,some (G8 C.P bets[j] f),l.fast,l.drops⟩ z4ma z5za (hform2.keep (fun g hg _=>⟨rfl,.inr hg⟩));have HL4:=A0 L4;have D6:Hid (A3 (dx D X) w (w2.setCell ⟨lb,n*4+1,none⟩ (.p fb0))):=HB2'.o.trans (k4.weak (fun g hg=>hg.imp (fun q=>Or.inl q) id));have a1z:=Fb.o.c1;have fzz:=Fb.o.fz;have lbz:=Fb.o.lbl;clear hm3 L2 L4 k4 hform2 hE hb2' hb20)
  all_goals
   have a0:=Fb.o.c0;have a1:=Fb.o.c1;have a2:=Fb.o.c2;have a3:=Fb.o.c3;have fz:=Fb.o.fz;have lblx:=Fb.o.lbl;have lbmx:=Fb.o.st.B3;obtain⟨g0,hprg,hdx⟩:=Fb.o.st.Rt;obtain⟨Ad,hc2,sa,sn,sc,p3,hcc2,hDp,hDb,lp,lh,hlt,hBd⟩:=We hprg hf;have ne1:=Fb.o.ne.1;have ne2:=Fb.o.ne.2 _ (.inl hDp);have ne3:=Fb.o.ne.2 _ (.inl hDb);have HBd:=A0 hBd;clear hprg hdx hBd;obtain⟨fb,s1a,s1n,s1c,k1a,k1n,k1c,hpe,hDf,hfb,hfs,hfk⟩:=HL4.o.form;injection hpe with hpe;injection hpe with hpe;subst hpe;clear hDf hfb hfs hfk;have HS:=HL4.o.set 0 (.i ((l.calls:Int)+1)) (some ⟨fb0,0,none⟩) ⟨l.calls+1,some (G8 C.P bets[j] f),l.fast,l.drops⟩ z4ma z5za HL4.o.form;obtain⟨s1,s2⟩:=HS;have HFt:=A0 (fun(W':World) (hW:W'=(w2.setCell ⟨lb,n*4+1,none⟩ (.p fb0)).setCell ⟨lb,n*4+0,none⟩ (.i ((l.calls:Int)+1)))=>(show Calls Tryz.prog 247 #[.p C.mb,.p fb0] W' (fun e w'=>e=.returned (.bool (Ju m ((m.vals.length:Nat)-((G8 C.P bets[j] f).bet.length:Nat)) (G8 C.P bets[j] f).bet))/\Below W'.heap.size W' w') by rw[hW,←A67 m (m.lots.set n ⟨l.calls+1,some (G8 C.P bets[j] f),l.fast,l.drops⟩)];exact A7j (m:={ m with lots:=m.lots.set n ⟨l.calls+1,some (G8 C.P bets[j] f),l.fast,l.drops⟩ }) (by have:=s1.st;simp only[X9]at this;exact this) s1.form hko hkl hv));have B5:=A0 s1;have Ab:Hid (A3 (dx D X) w _):=D6.o.trans ((s2).weak (fun g hg=>hg.imp (fun q=>Or.inl q) id));clear s1 s2;generalize hz:Ju m ((m.vals.length:Nat)-((G8 C.P bets[j] f).bet.length:Nat)) (G8 C.P bets[j] f).bet=z at *;have HZ:=A0 hz;clear hz;go_wp2_with fail
   refine(HFt.o _ rfl).mono ?_;rintro e w3 ⟨rfl,Ay⟩;have hb3':Below ((w2.setCell ⟨lb,n*4+1,none⟩ (.p fb0)).setCell ⟨lb,n*4+0,none⟩ (.i ((l.calls:Int)+1))).heap.size ((w2.setCell ⟨lb,n*4+1,none⟩ (.p fb0)).setCell ⟨lb,n*4+0,none⟩ (.i ((l.calls:Int)+1))) w3:=Ay;have L3:=B5.o.same (B5.o.st.below hb3').1 rfl hb3'.block;have Ba:Hid (A3 (dx D X) w w3):=Ab.o.trans (((B5.o.st.below hb3').2).weak (fun g hg=>hg.imp (fun q=>Or.inl q) id));have Fj:=A0 L3;clear Ay hb3' L3 HFt a0 a1 a2 a3 fz lblx lbmx g0 Ad hc2 sa sn sc p3 hcc2 hDp hDb lp lh hlt ne1 ne2 ne3 HBd;have a0:=Fj.o.c0;have a1:=Fj.o.c1;have a2:=Fj.o.c2;have a3:=Fj.o.c3;have fz:=Fj.o.fz;have lblx:=Fj.o.lbl;have lbmx:=Fj.o.st.B3;obtain⟨g0,hprg,hdx⟩:=Fj.o.st.Rt;obtain⟨Ad,hc2,sa,sn,sc,p3,hcc2,hDp,hDb,lp,lh,hlt,hBd⟩:=We hprg hf;have ne1:=Fj.o.ne.1;have ne2:=Fj.o.ne.2 _ (.inl hDp);have ne3:=Fj.o.ne.2 _ (.inl hDb);have HBd:=A0 hBd;clear hprg hdx hBd;obtain⟨fb',t1a,t1n,t1c,k2a,k2n,k2c,hpe,hDf,hfb,hfs,hfk⟩:=Fj.o.form;injection hpe with hpe;injection hpe with hpe;subst hpe;have HFB:Hid (N8 (fun g=>D g\/E g) w3 fb0 0 (G8 C.P bets[j] f).slots (G8 C.P bets[j] f).steps t1a t1n t1c):=⟨hDf,A4 hfb 0 _ rfl,A4 hfb 1 _ rfl,hfs⟩;have lfb:=A6 hfb;have ne4:=Fj.o.ne.2 _ (.inl hDf);clear hfb hfs hfk;cases z
   ·have HSa:=Fj.o.set 1 (.pointer none) none ⟨l.calls+1,none,l.fast,l.drops⟩ z4ma z5za rfl;have HSb:=HSa.1.set 3 (.i ((l.drops:Int)+1)) none ⟨l.calls+1,none,l.fast,l.drops+1⟩ z4ma z5za rfl;have HSt:=A0 HSb.1.st;have HSd:Hid (A3 (dx D X) w _):=Ba.o.trans ((HSa.2.trans HSb.2).weak (fun g hg=>hg.imp (fun q=>Or.inl q) id));have HBq:=A0 ((HBd.o.set (fun g hg=>Fj.o.ne.2 g (.inl hg)) (o:=n*4+1) (.pointer none)).set (fun g hg=>Fj.o.ne.2 g (.inl hg)) (o:=n*4+3) (.i ((l.drops:Int)+1)));clear HSa HSb;go_wp2;go_ret;refine⟨fun g=>D g\/E g,⟨l.calls+1,none,l.fast,l.drops+1⟩,Ad,n*4+2,f.slots,f.steps,sa,sn,sc,fun _ h=>.inl h,?_,HSd.o,HBq.o,(hfit f (Gl hf)).1,rfl,?_⟩
    ·exact z35a
    ·unfold MS.body;rw[hl];dsimp only;rw[HTk.o];dsimp only;rw[A1 (by rw[HZ.o];simp)];rfl
   ·have HSa:=Fj.o.set 2 (.i ((l.fast:Int)+1)) (some ⟨fb0,0,none⟩) ⟨l.calls+1,some (G8 C.P bets[j] f),l.fast+1,l.drops⟩ z4ma z5za Fj.o.form;have HSt:=A0 HSa.1.st;have HSd:Hid (A3 (dx D X) w _):=Ba.o.trans ((HSa.2).weak (fun g hg=>hg.imp (fun q=>Or.inl q) id));have HBq:=A0 (HFB.o.set (fun g hg=>Fj.o.ne.2 g (.inl hg)) (o:=n*4+2) (.i ((l.fast:Int)+1)));clear HSa;go_wp2;go_ret;refine⟨fun g=>D g\/E g,⟨l.calls+1,some (G8 C.P bets[j] f),l.fast+1,l.drops⟩,fb0,0,_,_,t1a,t1n,t1c,fun _ h=>.inl h,?_,HSd.o,HBq.o,hks,rfl,?_⟩
    ·exact z35a
    ·unfold MS.body;rw[hl];dsimp only;rw[HTk.o];dsimp only;rw[A7 HZ.o];rfl
end
section
open Go.RowKit
open Go.Deep (BT)
variable {C:MC} {D X:Nat->Prop} {w w':World} {m:MS} {β:Nat->Nat} {bets:List Cl}
def At3(hbl:bets.length<=1000)(hst:∀f∈C.P.fns,f.steps.length<=90000)(hN:C.P.fns.length<=1000000):Zx C X bets:=by
 intro D β w m i h hf _ ht hD hb;have hB:A3u C D bets m:=fun n f l hfn hl X' β' w' m' h' hl' hb' hv'=>Amc h' hfn hl' hb' hbl hf.fns (hst f (Gl hfn)) hN (fun fo hfo=>have q:=hf.lots l (Gl hl) fo hfo;⟨q.2.2.2,q.2.1,q.1⟩) hv' (hf.lotc l (Gl hl));have hop:=hf.ins.2.2.2.2.2.2;have ho:i.op=0\/i.op=1\/i.op=2\/i.op=3\/i.op=4\/i.op=5\/i.op=6\/i.op=7\/i.op=8\/i.op=9\/i.op=10\/i.op=11\/i.op=12\/i.op=13\/i.op=14\/i.op=15\/i.op=16\/i.op=17\/i.op=18\/i.op=19\/i.op=20\/i.op=21\/i.op=22\/i.op=23\/i.op=24\/i.op=25\/i.op=26\/i.op=27\/i.op=28\/i.op=29\/i.op=30\/i.op=31\/i.op=32\/i.op=33\/i.op=34\/i.op=35\/i.op=36\/i.op=37\/i.op=38\/i.op=39\/i.op=40\/i.op=41\/i.op=42\/i.op=43\/i.op=44:=by unfold Oj at hop;omega
 rcases ho with ho|ho|ho|ho|ho|ho|ho|ho|ho|ho|ho|ho|ho|ho|ho|ho|ho|ho|ho|ho|ho|ho|ho|ho|ho|ho|ho|ho|ho|ho|ho|ho|ho|ho|ho|ho|ho|ho|ho|ho|ho|ho|ho|ho|ho
 ·exact At7 h i hf ho
 ·exact At8 h i hf ho
 ·exact Atj h i hf ho
 ·exact Atu h i hf ho
 ·exact Au5 h i hf ho
 ·exact Aub h i hf ho
 ·exact Auc h i hf ho
 ·exact Aud h i hf ho
 ·exact Aue h i hf ho
 ·exact Auf h i hf ho
 ·exact At9 h i hf ho
 ·exact Ata h i hf ho
 ·exact Atb h i hf ho
 ·exact Atc h i hf ho
 ·exact Atd h i hf ho
 ·exact Ate h i hf ho
 ·exact Atf h i hf ho
 ·exact Atg h i hf ho
 ·exact Ath h i hf ho
 ·exact Ati h i hf ho
 ·exact Atk h i hf ho
 ·exact Atl h i hf ho
 ·exact Atm h i hf ho
 ·exact Atn h i hf ho
 ·exact Ato h i hf ho
 ·exact Atp h i hf ho
 ·exact Atq h i hf ho
 ·exact Atr h i hf ho
 ·exact Ats h i hf ho
 ·exact Att h i hf ho
 ·exact Atv h i hf ho
 ·exact Atw h i hf ho
 ·exact Atx h i hf ho
 ·exact Aty h i hf ho
 ·exact Atz h i hf ho
 ·exact Au0 h i hf ho
 ·exact Au1 h i hf ho
 ·exact Au2 h i hf ho
 ·exact Au3 h i hf ho
 ·exact Au4 h i hf ho
 ·exact Au6 h i ho
 ·exact Au7 h i hf ht hD ho
 ·exact Au8 h i hf hb hB ho
 ·exact Au9 h i hf ho
 ·exact Aua h i hf ho
