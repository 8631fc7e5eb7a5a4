import Derived.Test.YtjdlndhfaaolaaaGreatDoorQ28
import Derived.Test.YtjdlndhfaaolaaaGreatDoorQ34
set_option maxHeartbeats 20000000
namespace Go.Proofs.YtjdlndhfaaolaaaGreatDoor
section
set_option maxRecDepth 100000
open Go.RowKit
open Go.Deep (BT)
def A4a(l:List UInt8)(w:World)(e:Ending)(w':World):Prop:=
 Below w.heap.size w w'/\(((Ho l).1.1≠0/\e=.returned (.tuple #[.pointer none,.agg #[.int .i64 ((Ho l).1.1:Nat),.int .i64 ((Ho l).1.2:Nat)]]))\/
  ∃c pb va vn vc cs,Ho l=((0,0),some c)/\Nb c/\e=.returned (.tuple #[.pointer (some ⟨pb,0,none⟩),.agg #[.int .i64 0,.int .i64 0]])/\w.heap.size<=pb/\w'.heap[pb]?=some (.cells #[.slice va vn vc] 140 (0,0))/\
   Co (fun g=>w.heap.size<=g) w' 142 1 (.slice va vn vc) cs.length cs/\Al (fun g=>w.heap.size<=g) w' c cs/\Wf 4 c/\bsize c<=4002)
theorem Agh(l:List UInt8)(hP:P9 l)(w:World)(hg:Ij w)(hw:4<=w.heap.size) :
  Calls Tryz.prog 37 #[.string ⟨l.toArray⟩] w (A4a l w):=by
 by_cases hlong:2000<l.length
 ·have t:=A5n hlong;have HE:Hid (Ho l=((1,0),none)):=if_pos hlong;clear hlong;go_enter Tryz.func37,Tryz.ntmps37;go_wp2;refine bodyPost_ret (v:=.tuple #[.pointer none,.agg #[.int .i64 1,.int .i64 0]]) (by simp[results,Tryz.results37,go_sem]) rfl ?_;refine⟨Below.alloc (Below.refl _ _) (Nat.le_refl _) _,.inl ?_⟩;rw[HE.o];exact⟨by simp,rfl⟩
 ·have t:=Adi hlong;have HG:=A0 hg;have HLong:=A0 hlong;have hl:l.length<=2000:=by omega
  have HSc:=A0 (Acx l (w.alloc (.cells #[.int .i64 0,.int .i64 0] 50)) (by omega) (hg.below (Below.alloc (Below.refl _ _) (Nat.le_refl _) _)) (by simp;omega));have HTf:=A0 (Amx l hl);clear hg hlong;go_enter Tryz.func37,Tryz.ntmps37;go_wp2_with fail
  refine HSc.o.mono ?_;rintro e w1 ⟨A1,⟨n,hn,rfl⟩|⟨ts,va,vn,vc,hn,rfl,hown,hlo⟩⟩
  ·have hR:=Fq A1 (heap_alloc_new w (.cells #[.int .i64 0,.int .i64 0] 50));obtain⟨x0,x1,fx,lx⟩:=Io hR;have A5:Hid (Below w.heap.size w w1):=Below.trans (Below.alloc (Below.refl _ _) (Nat.le_refl _) _) (A1.mono (by simp));have HE:Hid (Ho l=((2,n),none)):=by
    show Ho l=_;unfold Ho;rw[if_neg HLong.o,hn]
   clear hR A1 hn HTf HSc;go_wp2;go_region
   all_goals go_wp2
   all_goals refine bodyPost_ret (v:=.tuple #[.pointer none,.agg #[.int .i64 2,.int .i64 (n:Nat)]]) (by simp[results,Tryz.results37,go_sem,x0,x1,lx]) rfl ?_
   all_goals refine⟨?_,.inl (by rw[HE.o];exact⟨by simp,rfl⟩)⟩
   all_goals repeat (first|exact A5.o|refine Below.alloc ?_ (by simp[World.setCell];omega) _|refine Below.setCell ?_ (by simp) _|refine Below.drew ?_)
  ·have hR:=Fq A1 (heap_alloc_new w (.cells #[.int .i64 0,.int .i64 0] 50));have A5:Hid (Below w.heap.size w w1):=Below.trans (Below.alloc (Below.refl _ _) (Nat.le_refl _) _) (A1.mono (by simp));have hfit:ts.length<=2001/\Je 1 2000 ts:=by
    rcases HTf.o with⟨n,h1,_⟩|⟨ts',h1,h2,h3⟩
    ·rw[hn]at h1;cases h1
    ·rw[hn]at h1;cases h1;exact⟨h2,h3⟩
   obtain⟨I9,hf2⟩:=hfit;have hpos:=hf2.pos;obtain⟨r,hr,hsane⟩:=hP ts hn;have HWf:=A0 (Ak9 _ _ _ _ (show Wf 4 .nil from trivial) hr);have hcp:Ho l=(if r.2.bad≠0 then((2,r.2.bad),none) else if nest ts 0≠0 then((1,nest ts 0),none) else if(Ez (Cs r.1) r.1 [] [] (0,0)).1≠0 then(Ez (Cs r.1) r.1 [] [] (0,0),none) else((0,0),some r.1)):=by
    unfold Ho;rw[if_neg HLong.o,hn];simp only[];rw[hr]
   obtain⟨g,cap,cur,hv,hg1,Gn,hg3,hg4⟩:=A5i hown (by omega);injection hv with e1 e2 e3;subst e1;subst e2;subst e3;have HRow:Hid (L5 g vc ts (w1.alloc (.cells #[.int .i64 0,.int .i64 0] 50))):=⟨A55 I9 hf2,⟨cur,alloc_old Gn,hg4⟩,hg3⟩;have HPa:=A0 (Ac7 (by decide) _ r HRow.o hpos hr);have HCp:=A0 hcp;have HSane:=A0 hsane;have HR:=A0 hR;have Ea:=A1.size;rw[World.size_alloc]at Ea;have HNt:=A0 hn;clear hR A1 hn HTf HSc hr hcp hsane hown hlo hg1 Gn hg3 hg4 HRow I9 hf2;go_wp2_with fail
   refine HPa.o.mono ?_;rintro e w2 ⟨A8,⟨hbad,rfl⟩|⟨hbad,hnest,rfl⟩|⟨hbad,hnest,pb,pa,pn,pc,cs,rfl,hpb1,hpb2,hpo,hrep⟩⟩
   ·have Ef:=Fq A8 (alloc_old HR.o);have hF2:=Fq A8 (heap_alloc_new w1 (.cells #[.int .i64 0,.int .i64 0] 50));have Aa:Hid (Below w.heap.size w w2):=A5.o.trans (Below.trans (Below.alloc (Below.refl _ _) (by omega) _) (A8.mono (by simp;omega)));have ls2:=A8.size;rw[World.size_alloc]at ls2;obtain⟨x0,x1,fx,lx⟩:=Io Ef;obtain⟨y0,y1,fy,ly⟩:=Io hF2;have HE:Hid (Ho l=((2,r.2.bad),none)):=HCp.o.trans (if_pos hbad);clear Ef hF2 A8 hbad HPa;go_wp2;go_region
    all_goals go_wp2
    all_goals refine bodyPost_ret (v:=.tuple #[.pointer none,.agg #[.int .i64 2,.int .i64 (r.2.bad:Nat)]]) (by simp[results,Tryz.results37,go_sem,x0,x1]) rfl ?_
    all_goals refine⟨?_,.inl (by rw[HE.o];exact⟨by simp,rfl⟩)⟩
    all_goals repeat (first|exact Aa.o|refine Below.alloc ?_ (by simp[World.setCell];omega) _|refine Below.setCell ?_ (by simp;omega) _|refine Below.setCell ?_ (by simp) _|refine Below.drew ?_)
   ·have Ef:=Fq A8 (alloc_old HR.o);have hF2:=Fq A8 (heap_alloc_new w1 (.cells #[.int .i64 0,.int .i64 0] 50));have Aa:Hid (Below w.heap.size w w2):=A5.o.trans (Below.trans (Below.alloc (Below.refl _ _) (by omega) _) (A8.mono (by simp;omega)));have ls2:=A8.size;rw[World.size_alloc]at ls2;obtain⟨x0,x1,fx,lx⟩:=Io Ef;obtain⟨y0,y1,fy,ly⟩:=Io hF2;have HE:Hid (Ho l=((1,nest ts 0),none)):=HCp.o.trans ((if_neg (by omega)).trans (if_pos hnest));clear Ef hF2 A8 hbad hnest HPa;generalize hdd:nest ts 0=dd at *;clear hdd;go_wp2;go_region
    all_goals go_wp2
    all_goals refine bodyPost_ret (v:=.tuple #[.pointer none,.agg #[.int .i64 1,.int .i64 (dd:Nat)]]) (by simp[results,Tryz.results37,go_sem,x0,x1]) rfl ?_
    all_goals refine⟨?_,.inl (by rw[HE.o];exact⟨by simp,rfl⟩)⟩
    all_goals repeat (first|exact Aa.o|refine Below.alloc ?_ (by simp[World.setCell];omega) _|refine Below.setCell ?_ (by simp;omega) _|refine Below.setCell ?_ (by simp) _|refine Below.drew ?_)
   ·have Ef:=Fq A8 (alloc_old HR.o);have hF2:=Fq A8 (heap_alloc_new w1 (.cells #[.int .i64 0,.int .i64 0] 50));have Aa:Hid (Below w.heap.size w w2):=A5.o.trans (Below.trans (Below.alloc (Below.refl _ _) (by omega) _) (A8.mono (by simp;omega)));have ls2:=A8.size;rw[World.size_alloc]at ls2;obtain⟨x0,x1,fx,lx⟩:=Io Ef;obtain⟨y0,y1,fy,ly⟩:=Io hF2;have Iy:∀g,w1.heap.size<g->g<w2.heap.size->((w2.setCell ⟨w1.heap.size,0,none⟩ (.int .i64 0)).setCell ⟨w1.heap.size,1,none⟩ (.int .i64 0)).heap[g]?=w2.heap[g]?:=by
     intro g h1 h2;rw[Below.heap_setCell _ _ _ _ (by show g≠w1.heap.size;omega),Below.heap_setCell _ _ _ _ (by show g≠w1.heap.size;omega)]
    have Cj:∀g,(w1.alloc (.cells #[.int .i64 0,.int .i64 0] 50)).heap.size<=g->g<w2.heap.size->((w2.setCell ⟨w1.heap.size,0,none⟩ (.int .i64 0)).setCell ⟨w1.heap.size,1,none⟩ (.int .i64 0)).heap[g]?=w2.heap[g]?/\w.heap.size<g:=fun g h1 h2=>⟨Iy g (by simp at h1;omega) h2,by simp at h1;omega⟩;have lpb:=A4 hpb2;have hpb3:=(Iy pb (by simp at hpb1;omega) lpb).trans hpb2;have hpo3:=hpo.keep Cj;have hrep3:=Al.keep Cj _ _ hrep;have I3:((w2.setCell ⟨w1.heap.size,0,none⟩ (.int .i64 0)).setCell ⟨w1.heap.size,1,none⟩ (.int .i64 0)).heap[w.heap.size]?=_:=A0n (A0n Ef (by show w.heap.size≠w1.heap.size;omega)) (by show w.heap.size≠w1.heap.size;omega);have hB3:Below w.heap.size w ((w2.setCell ⟨w1.heap.size,0,none⟩ (.int .i64 0)).setCell ⟨w1.heap.size,1,none⟩ (.int .i64 0)):=Below.setCell (Below.setCell Aa.o (by show w.heap.size<=w1.heap.size;omega) _) (by show w.heap.size<=w1.heap.size;omega) _;have hpb1':w.heap.size<pb:=by simp at hpb1;omega
    have HCp2:Hid (Ho l=if(Ez (Cs r.1) r.1 [] [] (0,0)).1≠0 then(Ez (Cs r.1) r.1 [] [] (0,0),none) else((0,0),some r.1)):=HCp.o.trans ((if_neg (by omega)).trans (if_neg (by omega)));have hbs:=HSane.o hbad;clear A8 Ef Iy Cj hpo hrep hpb2 hF2 hpb1 lpb hnest hbad HPa;go_wp2_with fail
    generalize (w2.setCell ⟨w1.heap.size,0,none⟩ (.int .i64 0)).setCell ⟨w1.heap.size,1,none⟩ (.int .i64 0)=w3 at *;clear x0 x1 fx lx y0 y1 fy ly Aa ls2;have ls3:=hB3.size;refine(Aee r.1 HWf.o _ w3 pb pa pn pc cs hpb3 hpo3 hrep3 (by omega)).mono ?_;rintro e w4 ⟨rfl,B4⟩;have hR4:=Fq B4 I3;have Ci:Hid (Below w.heap.size w w4):=hB3.trans (B4.mono ls3);have hk4:∀g,w.heap.size<g->g<w3.heap.size->w4.heap[g]?=w3.heap[g]?/\w.heap.size<g:=fun g h1 h2=>⟨B4.block g h2,h1⟩;have HPo:=A0 (hpo3.keep hk4);have HRep:=A0 (Al.keep hk4 _ _ hrep3);have HPb:=A0 (Fq B4 hpb3);have ls4:=B4.size;obtain⟨x0,x1,fx,lx⟩:=Io hR4;have Cm:=A0 hR4;clear hR4 hk4 B4 hpo3 hrep3 hpb3 hB3 I3;by_cases hs:(Ez (Cs r.1) r.1 [] [] (0,0)).1=0
    ·rw[hs];have HE:Hid (Ho l=((0,0),some r.1)):=HCp2.o.trans (if_neg (by omega));have HLpT:=A0 (A3y _ _ _ _ _ hs).2;clear hs;generalize hfl:(Ez (Cs r.1) r.1 [] [] (0,0)).2=fl at *;clear hfl;go_wp2;refine bodyPost_ret (v:=.tuple #[.pointer (some ⟨pb,0,none⟩),.agg #[.int .i64 0,.int .i64 0]]) (by simp[results,Tryz.results37,go_sem,x0,x1,lx]) rfl ?_;have hk5:∀g,w.heap.size<g->g<w4.heap.size->(((w4.setCell ⟨w.heap.size,0,none⟩ (.int .i64 0)).setCell ⟨w.heap.size,1,none⟩ (.int .i64 0)).alloc (.cells #[.int .i64 0,.int .i64 (fl:Nat)] 50)).heap[g]?=w4.heap[g]?/\w.heap.size<=g:=by
      intro g h1 h2;rw[Below.heap_alloc _ _ _ (by simp[World.setCell];omega),Below.heap_setCell _ _ _ _ (by show g≠w.heap.size;omega),Below.heap_setCell _ _ _ _ (by show g≠w.heap.size;omega)];exact⟨rfl,by omega⟩
     refine⟨?_,.inr ⟨r.1,pb,pa,pn,pc,cs,HE.o,HLpT.o,rfl,by omega,(hk5 pb hpb1' (A4 HPb.o)).1.trans HPb.o,HPo.o.keep hk5,Al.keep hk5 _ _ HRep.o,HWf.o,hbs⟩⟩;repeat (first|exact Ci.o|refine Below.alloc ?_ (by simp[World.setCell];omega) _|refine Below.setCell ?_ (by simp;omega) _|refine Below.setCell ?_ (by simp) _|refine Below.drew ?_)
    ·have HE:Hid (Ho l=(Ez (Cs r.1) r.1 [] [] (0,0),none)):=HCp2.o.trans (if_pos hs);generalize hfl:Ez (Cs r.1) r.1 [] [] (0,0)=fl at *;have t4:((fl.1:Int)==0)=false:=V5 hs;have HS:=A0 hs;clear hs hfl;go_wp2;go_region
     all_goals go_wp2
     all_goals refine bodyPost_ret (v:=.tuple #[.pointer none,.agg #[.int .i64 (fl.1:Nat),.int .i64 (fl.2:Nat)]]) (by simp[results,Tryz.results37,go_sem,x0,x1,lx]) rfl ?_
     all_goals refine⟨?_,.inl (by rw[HE.o];exact⟨HS.o,rfl⟩)⟩
     all_goals repeat (first|exact Ci.o|refine Below.alloc ?_ (by simp[World.setCell];omega) _|refine Below.setCell ?_ (by simp;omega) _|refine Below.setCell ?_ (by simp) _|refine Below.drew ?_)
def l7(E:Nat->Prop)(w:World)(gb:Nat)(P:Db):Prop:=∃pb,E gb/\w.heap[gb]?=some (.cells #[.pointer (some ⟨pb,0,none⟩)] 92 (0,0))/\Jx E w pb P
def A3a(l:List UInt8)(w:World)(e:Ending)(w':World):Prop:=
 Below w.heap.size w w'/\(((Ho l).1.1≠0/\e=.returned (.tuple #[.pointer none,.agg #[.int .i64 ((Ho l).1.1:Nat),.int .i64 ((Ho l).1.2:Nat)]]))\/
  ∃c gb E,Ho l=((0,0),some c)/\Nb c/\Wf 4 c/\bsize c<=4002/\e=.returned (.tuple #[.pointer (some ⟨gb,0,none⟩),.agg #[.int .i64 0,.int .i64 0]])/\l7 E w' gb (Lt c)/\(∀g,E g->w.heap.size<=g/\g<w'.heap.size))
theorem Jx.keep{E E':Nat->Prop}{w w':World}{pb:Nat}{P:Db}(h:Jx E w pb P)(hk:∀g,E g->g<w.heap.size->w'.heap[g]?=w.heap[g]?/\E' g):Jx E' w' pb P:=by
 obtain⟨sa,sn,sc,ha,hn,hc,ms,h0,h1,h2,h3,h4⟩:=h;exact⟨sa,sn,sc,ha,hn,hc,ms,(hk pb h0 (A4 h1)).2,(hk pb h0 (A4 h1)).1.trans h1,h2.keep hk,h3.keep hk,h4.keep hk⟩
theorem Ac6(l:List UInt8)(hP:P9 l)(w:World)(hg:Ij w)(hw:4<=w.heap.size) :
  Calls Tryz.prog 22 #[.string ⟨l.toArray⟩] w (A3a l w):=by
 have HRt:=A0 (Agh l hP (w.alloc (.cells #[.int .i64 0,.int .i64 0] 50)) (hg.below (Below.alloc (Below.refl _ _) (Nat.le_refl _) _)) (by simp;omega));clear hg;go_enter Tryz.func22,Tryz.ntmps22;go_wp2_with fail
 refine HRt.o.mono ?_;rintro e w1 ⟨A1,⟨hf,rfl⟩|⟨c,pb,va,vn,vc,cs,hcp,hlpt,rfl,hpb,hpc,hpo,hrep,hwf,hbs⟩⟩
 ·have hR:=Fq A1 (heap_alloc_new w (.cells #[.int .i64 0,.int .i64 0] 50));have A5:Hid (Below w.heap.size w w1):=Below.trans (Below.alloc (Below.refl _ _) (Nat.le_refl _) _) (A1.mono (by simp));obtain⟨x0,x1,fx,lx⟩:=Io hR;generalize hfl:(Ho l).1=fl at *;have HFl:=A0 hfl;have t4:((fl.1:Int)==0)=false:=V5 hf;have HF:=A0 hf;clear hf hfl hR A1 HRt;go_wp2;go_region
  all_goals go_wp2
  all_goals refine bodyPost_ret (v:=.tuple #[.pointer none,.agg #[.int .i64 (fl.1:Nat),.int .i64 (fl.2:Nat)]]) (by simp[results,Tryz.results22,go_sem,x0,x1,lx]) rfl ?_
  all_goals refine⟨?_,.inl (by rw[HFl.o];exact⟨HF.o,rfl⟩)⟩
  all_goals repeat (first|exact A5.o|refine Below.alloc ?_ (by simp[World.setCell];omega) _|refine Below.setCell ?_ (by simp;omega) _|refine Below.setCell ?_ (by simp) _|refine Below.drew ?_)
 ·have hR:=Fq A1 (heap_alloc_new w (.cells #[.int .i64 0,.int .i64 0] 50));have A5:Hid (Below w.heap.size w w1):=Below.trans (Below.alloc (Below.refl _ _) (Nat.le_refl _) _) (A1.mono (by simp));have HR:=A0 hR;have Ea:=A1.size;rw[World.size_alloc]at Ea;have HCp:=A0 hcp;have HWf:=A0 hwf;have HLt:=A0 hlpt;have HPc:=A0 hpc;have HPo:=A0 hpo;have HRep:=A0 hrep;obtain⟨x0,x1,fx,lx⟩:=Io hR;clear hcp hwf hlpt hpc hpo hrep hR HRt A1;have Cj:∀g,w.heap.size+1<=g->g<w1.heap.size->(w1.alloc (.cells #[.int .i64 0,.int .i64 0] 50)).heap[g]?=w1.heap[g]?/\g<w1.heap.size+1:=fun g _ h2=>⟨Below.heap_alloc _ _ _ h2,by omega⟩;have hsz9:(w.alloc (.cells #[.int .i64 0,.int .i64 0] 50)).heap.size=w.heap.size+1:=by simp
  rw[hsz9]at HPo HRep;have lpb:=A4 HPc.o;have HEp:=A0 (Ab3 c HWf.o HLt.o (fun g=>g<w1.heap.size+1) (w1.alloc (.cells #[.int .i64 0,.int .i64 0] 50)) pb va vn vc cs (by omega) (fun g hg=>by simp;exact hg) (alloc_old HPc.o) (HPo.o.keep Cj) (Al.keep Cj _ _ HRep.o) (by omega));clear Cj hsz9;go_wp2_with fail
  refine HEp.o.mono ?_;rintro r w4 ⟨eb,E,rfl,hprg,hE,B4⟩;have hR4:=(B4.block w.heap.size (by show w.heap.size<_;omega)).trans (alloc_old HR.o);have hB4:Below w.heap.size w w4:=⟨B4.os.trans A5.o.os,B4.tape.trans A5.o.tape,B4.output.trans A5.o.output,by have:=B4.size;have:=A5.o.size;simp at *;omega,fun k hk=>(B4.block k (by show k<_;omega)).trans ((Below.heap_alloc _ _ _ (by omega)).trans (A5.o.block k hk))⟩;have F6:=B4.size;rw[World.size_alloc]at F6;obtain⟨x0,x1,fx,lx⟩:=Io hR4;have HPrg:=A0 hprg;have HE:=A0 hE;have Ci:=A0 hB4;clear hprg hE hB4 B4 hR4;go_wp2;refine bodyPost_ret (v:=.tuple #[.pointer (some ⟨w4.heap.size,0,none⟩),.agg #[.int .i64 0,.int .i64 0]]) (by simp[results,Tryz.results22,go_sem,x0,x1,lx]) rfl ?_;have hk5:∀g,E g->g<w4.heap.size->(((w4.setCell ⟨w.heap.size,0,none⟩ (.int .i64 0)).setCell ⟨w.heap.size,1,none⟩ (.int .i64 0)).alloc (.cells #[.pointer (some ⟨eb,0,none⟩)] 92)).heap[g]?=w4.heap[g]?/\(E g\/g=w4.heap.size):=by
   intro g hg hl;have h1:¬g<w1.heap.size+1:=(HE.o g hg).1;rw[Below.heap_alloc _ _ _ (by simp[World.setCell];exact hl),Below.heap_setCell _ _ _ _ (by show g≠w.heap.size;omega),Below.heap_setCell _ _ _ _ (by show g≠w.heap.size;omega)];exact⟨rfl,.inl hg⟩
  refine⟨?_,.inr ⟨c,w4.heap.size,fun g=>E g\/g=w4.heap.size,HCp.o,HLt.o,HWf.o,hbs,rfl,⟨eb,.inr rfl,?_,HPrg.o.keep hk5⟩,?_⟩⟩
  ·repeat (first|exact Ci.o|refine Below.alloc ?_ (by simp[World.setCell];omega) _|refine Below.setCell ?_ (by simp) _)
  ·have:=heap_alloc_new ((w4.setCell ⟨w.heap.size,0,none⟩ (.int .i64 0)).setCell ⟨w.heap.size,1,none⟩ (.int .i64 0)) (.cells #[.pointer (some ⟨eb,0,none⟩)] 92);simpa [World.setCell]using this
  ·intro g hg;rcases hg with hg|hg
   ·have h1:¬g<w1.heap.size+1:=(HE.o g hg).1;have h2:=(HE.o g hg).2;exact⟨by omega,by simp[World.setCell];omega⟩
   ·subst hg;exact⟨by omega,by simp[World.setCell]⟩
end
end Go.Proofs.YtjdlndhfaaolaaaGreatDoor
