import Derived.Test.YtjdlndhfaaolaaaGreatDoorR31
import Derived.Test.YtjdlndhfaaolaaaGreatDoorR36
import Derived.Test.YtjdlndhfaaolaaaGreatDoorR44
import Derived.Test.YtjdlndhfaaolaaaGreatDoorR48
set_option maxHeartbeats 20000000
namespace Go.Proofs.YtjdlndhfaaolaaaGreatDoor
section
set_option maxRecDepth 100000
open Go.RowKit
open Go.Deep (BT)
def A1b(l:List UInt8)(w:World)(e:Ending)(w':World):Prop:=
 Below w.heap.size w w'/\(((Js l).1.1≠0/\e=.returned (.tuple #[.pointer none,.agg #[.int .i64 ((Js l).1.1:Nat),.int .i64 ((Js l).1.2:Nat)]]))\/
  ∃c pb va vn vc cs,Js l=((0,0),some c)/\O3 c/\e=.returned (.tuple #[.pointer (some ⟨pb,0,none⟩),.agg #[.int .i64 0,.int .i64 0]])/\w.heap.size<=pb/\w'.heap[pb]?=some (.cells #[.slice va vn vc] 140 (0,0))/\
   C1 (fun g=>w.heap.size<=g) w' 142 1 (.slice va vn vc) cs.length cs/\Aj (fun g=>w.heap.size<=g) w' c cs/\Wf 4 c/\bsize c<=4002)
theorem A9o(l:List UInt8)(hP:l.length<=2000->Ul l)(w:World)(hg:Ju w)(hw:4<=w.heap.size) :
  Calls Tryz.prog 37 #[.string ⟨l.toArray⟩] w (A1b l w):=by
 by_cases hlong:2000<l.length
 ·have t:=A4h hlong;have HE:Hid (Js l=((1,0),none)):=if_pos hlong;clear hlong;go_enter Tryz.func37,Tryz.ntmps37;go_wp2;refine bodyPost_ret (v:=.tuple #[.pointer none,.agg #[.int .i64 1,.int .i64 0]]) (by simp[results,Tryz.results37,go_sem]) rfl ?_;refine⟨Below.alloc (Below.refl _ _) (Nat.le_refl _) _,.inl ?_⟩;rw[HE.o];exact⟨by simp,rfl⟩
 ·have t:=A4i hlong;have HG:=A0 hg;have HLong:=A0 hlong;have hl:l.length<=2000:=by omega
  have HSc:=A0 (Aal l (w.alloc (.cells #[.int .i64 0,.int .i64 0] 50)) (by omega) (hg.below (Below.alloc (Below.refl _ _) (Nat.le_refl _) _)) (by simp;omega));have HTf:=A0 (Wh l hl);clear hg hlong;go_enter Tryz.func37,Tryz.ntmps37;go_wp2_with fail
  refine HSc.o.mono ?_;rintro e w1 ⟨A3,⟨n,hn,rfl⟩|⟨ts,va,vn,vc,hn,rfl,hown,hlo⟩⟩
  ·have hR:=Bg A3 (heap_alloc_new w (.cells #[.int .i64 0,.int .i64 0] 50));obtain⟨x0,x1,fx,lx⟩:=J2 hR;have Ab:Hid (Below w.heap.size w w1):=Below.trans (Below.alloc (Below.refl _ _) (Nat.le_refl _) _) (A3.mono (by simp));have HE:Hid (Js l=((2,n),none)):=by
    show Js l=_;unfold Js;rw[if_neg HLong.o,hn]
   clear hR A3 hn HTf HSc;go_wp2;go_region
   all_goals go_wp2
   all_goals refine bodyPost_ret (v:=.tuple #[.pointer none,.agg #[.int .i64 2,.int .i64 (n:Nat)]]) (by simp[results,Tryz.results37,go_sem,x0,x1,lx]) rfl ?_
   all_goals refine⟨?_,.inl (by rw[HE.o];exact⟨by simp,rfl⟩)⟩
   all_goals repeat (first|exact Ab.o|refine Below.alloc ?_ (by simp[World.setCell];omega) _|refine Below.setCell ?_ (by simp) _|refine Below.drew ?_)
  ·have hR:=Bg A3 (heap_alloc_new w (.cells #[.int .i64 0,.int .i64 0] 50));have Ab:Hid (Below w.heap.size w w1):=Below.trans (Below.alloc (Below.refl _ _) (Nat.le_refl _) _) (A3.mono (by simp));have hfit:ts.length<=2001/\Gk 1 2000 ts:=by
    rcases HTf.o with⟨n,h1,_⟩|⟨ts',h1,h2,h3⟩
    ·rw[hn]at h1;cases h1
    ·rw[hn]at h1;cases h1;exact⟨h2,h3⟩
   obtain⟨Jm,hf2⟩:=hfit;have hpos:=hf2.pos;obtain⟨r,hr,hsane⟩:=hP hl ts hn;have HWf:=A0 (Adl _ _ _ _ (show Wf 4 .nil from trivial) hr);have hcp:Js l=(if r.2.bad≠0 then((2,r.2.bad),none) else if nest ts 0≠0 then((1,nest ts 0),none) else if(Dj (Bf r.1) r.1 [] [] (0,0)).1≠0 then(Dj (Bf r.1) r.1 [] [] (0,0),none) else((0,0),some r.1)):=by
    unfold Js;rw[if_neg HLong.o,hn];simp only[];rw[hr]
   obtain⟨g,cap,cur,hv,hg1,Eo,hg3,hg4⟩:=Tc hown (by omega);injection hv with e1 e2 e3;subst e1;subst e2;subst e3;have HRow:Hid (Mb g vc ts (w1.alloc (.cells #[.int .i64 0,.int .i64 0] 50))):=⟨A48 Jm hf2,⟨cur,alloc_old Eo,hg4⟩,hg3⟩;have HPa:=A0 (A80 (by decide) _ r HRow.o hpos hr);have HCp:=A0 hcp;have HSane:=A0 hsane;have HR:=A0 hR;have ls1:=A3.size;rw[World.size_alloc]at ls1;have HNt:=A0 hn;clear hR A3 hn HTf HSc hr hcp hsane hown hlo hg1 Eo hg3 hg4 HRow Jm hf2;go_wp2_with fail
   refine HPa.o.mono ?_;rintro e w2 ⟨A9,⟨hbad,rfl⟩|⟨hbad,hnest,rfl⟩|⟨hbad,hnest,pb,pa,pn,pc,cs,rfl,hpb1,hpb2,hpo,hrep⟩⟩
   ·have G6:=Bg A9 (alloc_old HR.o);have hF2:=Bg A9 (heap_alloc_new w1 (.cells #[.int .i64 0,.int .i64 0] 50));have Ai:Hid (Below w.heap.size w w2):=Ab.o.trans (Below.trans (Below.alloc (Below.refl _ _) (by omega) _) (A9.mono (by simp;omega)));have ls2:=A9.size;rw[World.size_alloc]at ls2;obtain⟨x0,x1,fx,lx⟩:=J2 G6;obtain⟨y0,y1,fy,ly⟩:=J2 hF2;have HE:Hid (Js l=((2,r.2.bad),none)):=HCp.o.trans (if_pos hbad);clear G6 hF2 A9 hbad HPa;go_wp2;go_region
    all_goals go_wp2
    all_goals refine bodyPost_ret (v:=.tuple #[.pointer none,.agg #[.int .i64 2,.int .i64 (r.2.bad:Nat)]]) (by simp[results,Tryz.results37,go_sem,x0,x1]) rfl ?_
    all_goals refine⟨?_,.inl (by rw[HE.o];exact⟨by simp,rfl⟩)⟩
    all_goals repeat (first|exact Ai.o|refine Below.alloc ?_ (by simp[World.setCell];omega) _|refine Below.setCell ?_ (by simp;omega) _|refine Below.setCell ?_ (by simp) _|refine Below.drew ?_)
   ·have G6:=Bg A9 (alloc_old HR.o);have hF2:=Bg A9 (heap_alloc_new w1 (.cells #[.int .i64 0,.int .i64 0] 50));have Ai:Hid (Below w.heap.size w w2):=Ab.o.trans (Below.trans (Below.alloc (Below.refl _ _) (by omega) _) (A9.mono (by simp;omega)));have ls2:=A9.size;rw[World.size_alloc]at ls2;obtain⟨x0,x1,fx,lx⟩:=J2 G6;obtain⟨y0,y1,fy,ly⟩:=J2 hF2;have HE:Hid (Js l=((1,nest ts 0),none)):=HCp.o.trans ((if_neg (by omega)).trans (if_pos hnest));clear G6 hF2 A9 hbad hnest HPa;generalize hdd:nest ts 0=dd at *;clear hdd;go_wp2;go_region
    all_goals go_wp2
    all_goals refine bodyPost_ret (v:=.tuple #[.pointer none,.agg #[.int .i64 1,.int .i64 (dd:Nat)]]) (by simp[results,Tryz.results37,go_sem,x0,x1]) rfl ?_
    all_goals refine⟨?_,.inl (by rw[HE.o];exact⟨by simp,rfl⟩)⟩
    all_goals repeat (first|exact Ai.o|refine Below.alloc ?_ (by simp[World.setCell];omega) _|refine Below.setCell ?_ (by simp;omega) _|refine Below.setCell ?_ (by simp) _|refine Below.drew ?_)
   ·have G6:=Bg A9 (alloc_old HR.o);have hF2:=Bg A9 (heap_alloc_new w1 (.cells #[.int .i64 0,.int .i64 0] 50));have Ai:Hid (Below w.heap.size w w2):=Ab.o.trans (Below.trans (Below.alloc (Below.refl _ _) (by omega) _) (A9.mono (by simp;omega)));have ls2:=A9.size;rw[World.size_alloc]at ls2;obtain⟨x0,x1,fx,lx⟩:=J2 G6;obtain⟨y0,y1,fy,ly⟩:=J2 hF2;have hD2:∀g,w1.heap.size<g->g<w2.heap.size->((w2.setCell ⟨w1.heap.size,0,none⟩ (.int .i64 0)).setCell ⟨w1.heap.size,1,none⟩ (.int .i64 0)).heap[g]?=w2.heap[g]?:=by
     intro g h1 h2;rw[Below.heap_setCell _ _ _ _ (by show g≠w1.heap.size;omega),Below.heap_setCell _ _ _ _ (by show g≠w1.heap.size;omega)]
    have Bk:∀g,(w1.alloc (.cells #[.int .i64 0,.int .i64 0] 50)).heap.size<=g->g<w2.heap.size->((w2.setCell ⟨w1.heap.size,0,none⟩ (.int .i64 0)).setCell ⟨w1.heap.size,1,none⟩ (.int .i64 0)).heap[g]?=w2.heap[g]?/\w.heap.size<g:=fun g h1 h2=>⟨hD2 g (by simp at h1;omega) h2,by simp at h1;omega⟩;have lpb:=A5 hpb2;have hpb3:=(hD2 pb (by simp at hpb1;omega) lpb).trans hpb2;have hpo3:=hpo.keep Bk;have Fc:=Aj.keep Bk _ _ hrep;have hR3:((w2.setCell ⟨w1.heap.size,0,none⟩ (.int .i64 0)).setCell ⟨w1.heap.size,1,none⟩ (.int .i64 0)).heap[w.heap.size]?=_:=Cn (Cn G6 (by show w.heap.size≠w1.heap.size;omega)) (by show w.heap.size≠w1.heap.size;omega);have hB3:Below w.heap.size w ((w2.setCell ⟨w1.heap.size,0,none⟩ (.int .i64 0)).setCell ⟨w1.heap.size,1,none⟩ (.int .i64 0)):=Below.setCell (Below.setCell Ai.o (by show w.heap.size<=w1.heap.size;omega) _) (by show w.heap.size<=w1.heap.size;omega) _;have hpb1':w.heap.size<pb:=by simp at hpb1;omega
    have HCp2:Hid (Js l=if(Dj (Bf r.1) r.1 [] [] (0,0)).1≠0 then(Dj (Bf r.1) r.1 [] [] (0,0),none) else((0,0),some r.1)):=HCp.o.trans ((if_neg (by omega)).trans (if_neg (by omega)));have hbs:=HSane.o hbad;clear A9 G6 hD2 Bk hpo hrep hpb2 hF2 hpb1 lpb hnest hbad HPa;go_wp2_with fail
    generalize (w2.setCell ⟨w1.heap.size,0,none⟩ (.int .i64 0)).setCell ⟨w1.heap.size,1,none⟩ (.int .i64 0)=w3 at *;clear x0 x1 fx lx y0 y1 fy ly Ai ls2;have ls3:=hB3.size;refine(A2x r.1 HWf.o _ w3 pb pa pn pc cs hpb3 hpo3 Fc (by omega)).mono ?_;rintro e w4 ⟨rfl,Bc⟩;have hR4:=Bg Bc hR3;have Dm:Hid (Below w.heap.size w w4):=hB3.trans (Bc.mono ls3);have Iu:∀g,w.heap.size<g->g<w3.heap.size->w4.heap[g]?=w3.heap[g]?/\w.heap.size<g:=fun g h1 h2=>⟨Bc.block g h2,h1⟩;have HPo:=A0 (hpo3.keep Iu);have HRep:=A0 (Aj.keep Iu _ _ Fc);have HPb:=A0 (Bg Bc hpb3);have ls4:=Bc.size;obtain⟨x0,x1,fx,lx⟩:=J2 hR4;have I8:=A0 hR4;clear hR4 Iu Bc hpo3 Fc hpb3 hB3 hR3;by_cases hs:(Dj (Bf r.1) r.1 [] [] (0,0)).1=0
    ·rw[hs];have HE:Hid (Js l=((0,0),some r.1)):=HCp2.o.trans (if_neg (by omega));have HLpT:=A0 (Aas _ _ _ _ _ hs).2;clear hs;generalize hfl:(Dj (Bf r.1) r.1 [] [] (0,0)).2=fl at *;clear hfl;go_wp2;refine bodyPost_ret (v:=.tuple #[.pointer (some ⟨pb,0,none⟩),.agg #[.int .i64 0,.int .i64 0]]) (by simp[results,Tryz.results37,go_sem,x0,x1,lx]) rfl ?_;have hk5:∀g,w.heap.size<g->g<w4.heap.size->(((w4.setCell ⟨w.heap.size,0,none⟩ (.int .i64 0)).setCell ⟨w.heap.size,1,none⟩ (.int .i64 0)).alloc (.cells #[.int .i64 0,.int .i64 (fl:Nat)] 50)).heap[g]?=w4.heap[g]?/\w.heap.size<=g:=by
      intro g h1 h2;rw[Below.heap_alloc _ _ _ (by simp[World.setCell];omega),Below.heap_setCell _ _ _ _ (by show g≠w.heap.size;omega),Below.heap_setCell _ _ _ _ (by show g≠w.heap.size;omega)];exact⟨rfl,by omega⟩
     refine⟨?_,.inr ⟨r.1,pb,pa,pn,pc,cs,HE.o,HLpT.o,rfl,by omega,(hk5 pb hpb1' (A5 HPb.o)).1.trans HPb.o,HPo.o.keep hk5,Aj.keep hk5 _ _ HRep.o,HWf.o,hbs⟩⟩;repeat (first|exact Dm.o|refine Below.alloc ?_ (by simp[World.setCell];omega) _|refine Below.setCell ?_ (by simp;omega) _|refine Below.setCell ?_ (by simp) _|refine Below.drew ?_)
    ·have HE:Hid (Js l=(Dj (Bf r.1) r.1 [] [] (0,0),none)):=HCp2.o.trans (if_pos hs);generalize hfl:Dj (Bf r.1) r.1 [] [] (0,0)=fl at *;have t4:((fl.1:Int)==0)=false:=V9 hs;have HS:=A0 hs;clear hs hfl;go_wp2;go_region
     all_goals go_wp2
     all_goals refine bodyPost_ret (v:=.tuple #[.pointer none,.agg #[.int .i64 (fl.1:Nat),.int .i64 (fl.2:Nat)]]) (by simp[results,Tryz.results37,go_sem,x0,x1,lx]) rfl ?_
     all_goals refine⟨?_,.inl (by rw[HE.o];exact⟨HS.o,rfl⟩)⟩
     all_goals repeat (first|exact Dm.o|refine Below.alloc ?_ (by simp[World.setCell];omega) _|refine Below.setCell ?_ (by simp;omega) _|refine Below.setCell ?_ (by simp) _|refine Below.drew ?_)
def Qi(E:Nat->Prop)(w:World)(gb:Nat)(P:Pc):Prop:=∃pb,E gb/\w.heap[gb]?=some (.cells #[.pointer (some ⟨pb,0,none⟩)] 92 (0,0))/\Qj E w pb P
def A0u(l:List UInt8)(w:World)(e:Ending)(w':World):Prop:=
 Below w.heap.size w w'/\(((Js l).1.1≠0/\e=.returned (.tuple #[.pointer none,.agg #[.int .i64 ((Js l).1.1:Nat),.int .i64 ((Js l).1.2:Nat)]]))\/
  ∃c gb E,Js l=((0,0),some c)/\O3 c/\Wf 4 c/\bsize c<=4002/\e=.returned (.tuple #[.pointer (some ⟨gb,0,none⟩),.agg #[.int .i64 0,.int .i64 0]])/\Qi E w' gb (Qp c)/\(∀g,E g->w.heap.size<=g/\g<w'.heap.size))
theorem Qj.keep{E E':Nat->Prop}{w w':World}{pb:Nat}{P:Pc}(h:Qj E w pb P)(hk:∀g,E g->g<w.heap.size->w'.heap[g]?=w.heap[g]?/\E' g):Qj E' w' pb P:=by
 obtain⟨sa,sn,sc,ha,hn,hc,ms,h0,h1,h2,h3,h4⟩:=h;exact⟨sa,sn,sc,ha,hn,hc,ms,(hk pb h0 (A5 h1)).2,(hk pb h0 (A5 h1)).1.trans h1,h2.keep hk,h3.keep hk,h4.keep hk⟩
theorem A3n(l:List UInt8)(hP:l.length<=2000->Ul l)(w:World)(hg:Ju w)(hw:4<=w.heap.size) :
  Calls Tryz.prog 22 #[.string ⟨l.toArray⟩] w (A0u l w):=by
 have HRt:=A0 (A9o l hP (w.alloc (.cells #[.int .i64 0,.int .i64 0] 50)) (hg.below (Below.alloc (Below.refl _ _) (Nat.le_refl _) _)) (by simp;omega));clear hg;go_enter Tryz.func22,Tryz.ntmps22;go_wp2_with fail
 refine HRt.o.mono ?_;rintro e w1 ⟨A3,⟨hf,rfl⟩|⟨c,pb,va,vn,vc,cs,hcp,hlpt,rfl,hpb,hpc,hpo,hrep,hwf,hbs⟩⟩
 ·have hR:=Bg A3 (heap_alloc_new w (.cells #[.int .i64 0,.int .i64 0] 50));have Ab:Hid (Below w.heap.size w w1):=Below.trans (Below.alloc (Below.refl _ _) (Nat.le_refl _) _) (A3.mono (by simp));obtain⟨x0,x1,fx,lx⟩:=J2 hR;generalize hfl:(Js l).1=fl at *;have HFl:=A0 hfl;have t4:((fl.1:Int)==0)=false:=V9 hf;have HF:=A0 hf;clear hf hfl hR A3 HRt;go_wp2;go_region
  all_goals go_wp2
  all_goals refine bodyPost_ret (v:=.tuple #[.pointer none,.agg #[.int .i64 (fl.1:Nat),.int .i64 (fl.2:Nat)]]) (by simp[results,Tryz.results22,go_sem,x0,x1,lx]) rfl ?_
  all_goals refine⟨?_,.inl (by rw[HFl.o];exact⟨HF.o,rfl⟩)⟩
  all_goals repeat (first|exact Ab.o|refine Below.alloc ?_ (by simp[World.setCell];omega) _|refine Below.setCell ?_ (by simp;omega) _|refine Below.setCell ?_ (by simp) _|refine Below.drew ?_)
 ·have hR:=Bg A3 (heap_alloc_new w (.cells #[.int .i64 0,.int .i64 0] 50));have Ab:Hid (Below w.heap.size w w1):=Below.trans (Below.alloc (Below.refl _ _) (Nat.le_refl _) _) (A3.mono (by simp));have HR:=A0 hR;have ls1:=A3.size;rw[World.size_alloc]at ls1;have HCp:=A0 hcp;have HWf:=A0 hwf;have HLt:=A0 hlpt;have HPc:=A0 hpc;have HPo:=A0 hpo;have HRep:=A0 hrep;obtain⟨x0,x1,fx,lx⟩:=J2 hR;clear hcp hwf hlpt hpc hpo hrep hR HRt A3;have Bk:∀g,w.heap.size+1<=g->g<w1.heap.size->(w1.alloc (.cells #[.int .i64 0,.int .i64 0] 50)).heap[g]?=w1.heap[g]?/\g<w1.heap.size+1:=fun g _ h2=>⟨Below.heap_alloc _ _ _ h2,by omega⟩;have hsz9:(w.alloc (.cells #[.int .i64 0,.int .i64 0] 50)).heap.size=w.heap.size+1:=by simp
  rw[hsz9]at HPo HRep;have lpb:=A5 HPc.o;have HEp:=A0 (A4v c HWf.o HLt.o (fun g=>g<w1.heap.size+1) (w1.alloc (.cells #[.int .i64 0,.int .i64 0] 50)) pb va vn vc cs (by omega) (fun g hg=>by simp;exact hg) (alloc_old HPc.o) (HPo.o.keep Bk) (Aj.keep Bk _ _ HRep.o) (by omega));clear Bk hsz9;go_wp2_with fail
  refine HEp.o.mono ?_;rintro r w4 ⟨eb,E,rfl,hprg,hE,Bc⟩;have hR4:=(Bc.block w.heap.size (by show w.heap.size<_;omega)).trans (alloc_old HR.o);have hB4:Below w.heap.size w w4:=⟨Bc.os.trans Ab.o.os,Bc.tape.trans Ab.o.tape,Bc.output.trans Ab.o.output,by have:=Bc.size;have:=Ab.o.size;simp at *;omega,fun k hk=>(Bc.block k (by show k<_;omega)).trans ((Below.heap_alloc _ _ _ (by omega)).trans (Ab.o.block k hk))⟩;have Dx:=Bc.size;rw[World.size_alloc]at Dx;obtain⟨x0,x1,fx,lx⟩:=J2 hR4;have HPrg:=A0 hprg;have HE:=A0 hE;have Dm:=A0 hB4;clear hprg hE hB4 Bc hR4;go_wp2;refine bodyPost_ret (v:=.tuple #[.pointer (some ⟨w4.heap.size,0,none⟩),.agg #[.int .i64 0,.int .i64 0]]) (by simp[results,Tryz.results22,go_sem,x0,x1,lx]) rfl ?_;have hk5:∀g,E g->g<w4.heap.size->(((w4.setCell ⟨w.heap.size,0,none⟩ (.int .i64 0)).setCell ⟨w.heap.size,1,none⟩ (.int .i64 0)).alloc (.cells #[.pointer (some ⟨eb,0,none⟩)] 92)).heap[g]?=w4.heap[g]?/\(E g\/g=w4.heap.size):=by
   intro g hg hl;have h1:¬g<w1.heap.size+1:=(HE.o g hg).1;rw[Below.heap_alloc _ _ _ (by simp[World.setCell];exact hl),Below.heap_setCell _ _ _ _ (by show g≠w.heap.size;omega),Below.heap_setCell _ _ _ _ (by show g≠w.heap.size;omega)];exact⟨rfl,.inl hg⟩
  refine⟨?_,.inr ⟨c,w4.heap.size,fun g=>E g\/g=w4.heap.size,HCp.o,HLt.o,HWf.o,hbs,rfl,⟨eb,.inr rfl,?_,HPrg.o.keep hk5⟩,?_⟩⟩
  ·repeat (first|exact Dm.o|refine Below.alloc ?_ (by simp[World.setCell];omega) _|refine Below.setCell ?_ (by simp) _)
  ·have:=heap_alloc_new ((w4.setCell ⟨w.heap.size,0,none⟩ (.int .i64 0)).setCell ⟨w.heap.size,1,none⟩ (.int .i64 0)) (.cells #[.pointer (some ⟨eb,0,none⟩)] 92);simpa [World.setCell]using this
  ·intro g hg;rcases hg with hg|hg
   ·have h1:¬g<w1.heap.size+1:=(HE.o g hg).1;have h2:=(HE.o g hg).2;exact⟨by omega,by simp[World.setCell];omega⟩
   ·subst hg;exact⟨by omega,by simp[World.setCell]⟩
end
section
open Go.RowKit
open Go.Deep (BT)
def Lj(fs:List (Nm×Nat)):List Value:=fs.map fun p=>.string ⟨p.1.toArray⟩
def A0t(l:List UInt8)(w:World)(e:Ending)(w':World):Prop:=
 Below w.heap.size w w'/\(((K7 l).1.1≠0/\e=.returned (.tuple #[.pointer none,.agg #[.int .i64 ((K7 l).1.1:Nat),.int .i64 ((K7 l).1.2:Nat)]]))\/
  ∃fs gb E P,K7 l=((0,0),fs)/\fs.length<=100000/\e=.returned (.tuple #[.pointer (some ⟨gb,0,none⟩),.agg #[.int .i64 0,.int .i64 0]])/\Qi E w' gb P/\(∀g,E g->g<w'.heap.size)/\P.fns.map Fn.name=fs.map Prod.fst)
theorem A3l(l:List UInt8)(w:World)(hg:Ju w)(hw:4<=w.heap.size) :
  Calls Tryz.prog 22 #[.string ⟨l.toArray⟩] w (A0t l w):=by
 refine(A3n l (A8a l) w hg hw).mono ?_;rintro e w1 ⟨hb,⟨h1,h2⟩|⟨c,gb,E,h1,_,_,h4,h5,h6,h7⟩⟩
 ·refine⟨hb,.inl ?_⟩;rw[(A05 l).1];exact⟨h1,h2⟩
 ·exact⟨hb,.inr ⟨Bf c,gb,E,Qp c,(A05 l).2 c h1,Nat.le_trans (A5s c) (by omega),h5,h6,fun g hg=>(h7 g hg).2,A54 c⟩⟩
end
end Go.Proofs.YtjdlndhfaaolaaaGreatDoor
