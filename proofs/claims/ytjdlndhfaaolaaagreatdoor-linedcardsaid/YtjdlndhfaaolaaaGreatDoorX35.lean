import Derived.Test.YtjdlndhfaaolaaaGreatDoorX21
import Derived.Test.YtjdlndhfaaolaaaGreatDoorX28
import Derived.Test.YtjdlndhfaaolaaaGreatDoorX34
set_option maxHeartbeats 20000000
namespace Go.Proofs.YtjdlndhfaaolaaaGreatDoor
section
set_option maxRecDepth 100000
open Go.RowKit
open Go.Deep (BT)
def A5x(l:List UInt8)(w:World)(e:Ending)(w':World):Prop:=
 Below w.heap.size w w'/\(((E8 l).1.1≠0/\e=.returned (.tuple #[.pointer none,.agg #[.int .i64 ((E8 l).1.1:Nat),.int .i64 ((E8 l).1.2:Nat)]]))\/
  ∃c pb va vn vc cs,E8 l=((0,0),some c)/\Nf c/\e=.returned (.tuple #[.pointer (some ⟨pb,0,none⟩),.agg #[.int .i64 0,.int .i64 0]])/\w.heap.size<=pb/\w'.heap[pb]?=some (.cells #[.slice va vn vc] 140 (0,0))/\
   Cr (fun g=>w.heap.size<=g) w' 142 1 (.slice va vn vc) cs.length cs/\Al (fun g=>w.heap.size<=g) w' c cs/\Wf 4 c/\bsize c<=4002)
theorem z5ma {P:Prop} (h:P:=by simp[results,Tryz.results37,go_sem,x0,x1,lx]):P:=h
theorem z5va {P:Prop} (h:P:=by show g≠w.heap.size;omega):P:=h
theorem z64a {P:Prop} (h:P:=by rw[HE.o];exact⟨by simp,rfl⟩):P:=h
theorem Aht(l:List UInt8)(hP:l.length<=2000->Sy l)(w:World)(hg:Ix w)(hw:4<=w.heap.size) :
  Calls Tryz.prog 37 #[.string ⟨l.toArray⟩] w (A5x l w):=by
 by_cases hlong:2000<l.length
 ·have t:=Aav hlong;have HE:Hid (E8 l=((1,0),none)):=if_pos hlong;clear hlong;go_enter Tryz.func37,Tryz.ntmps37;go_wp2;refine bodyPost_ret (v:=.tuple #[.pointer none,.agg #[.int .i64 1,.int .i64 0]]) (by simp[results,Tryz.results37,go_sem]) rfl ?_;refine⟨Below.alloc (Below.refl _ _) (Nat.le_refl _) _,.inl ?_⟩;rw[HE.o];exact⟨by simp,rfl⟩
 ·have t:=Aaw hlong;have HG:=A0 hg;have HLong:=A0 hlong;have hl:l.length<=2000:=by omega
  have HSc:=A0 (Aim l (w.alloc (.cells #[.int .i64 0,.int .i64 0] 50)) z4sa (hg.below (Below.alloc (Below.refl _ _) (Nat.le_refl _) _)) z4za);have HTf:=A0 (Pt l hl);clear hg hlong;go_enter Tryz.func37,Tryz.ntmps37;go_wp2_with fail
  refine HSc.o.mono ?_;rintro e w1 ⟨A1,⟨n,hn,rfl⟩|⟨ts,va,vn,vc,hn,rfl,hown,hlo⟩⟩
  ·have hR:=Fu A1 (heap_alloc_new w (.cells #[.int .i64 0,.int .i64 0] 50));obtain⟨x0,x1,fx,lx⟩:=Ja hR;have A4:Hid (Below w.heap.size w w1):=Below.trans (Below.alloc (Below.refl _ _) (Nat.le_refl _) _) (A1.mono z4wa);have HE:Hid (E8 l=((2,n),none)):=by
    show E8 l=_;unfold E8;rw[if_neg HLong.o,hn]
   clear hR A1 hn HTf HSc;go_wp2;go_region
   all_goals go_wp2
   all_goals refine bodyPost_ret (v:=.tuple #[.pointer none,.agg #[.int .i64 2,.int .i64 (n:Nat)]]) z5ma rfl ?_
   all_goals refine⟨?_,.inl z64a⟩
   all_goals repeat (first|exact A4.o|refine Below.alloc ?_ z50a _|refine Below.setCell ?_ z4wa _|refine Below.drew ?_)
  ·have hR:=Fu A1 (heap_alloc_new w (.cells #[.int .i64 0,.int .i64 0] 50));have A4:Hid (Below w.heap.size w w1):=Below.trans (Below.alloc (Below.refl _ _) (Nat.le_refl _) _) (A1.mono z4wa);have hfit:ts.length<=2001/\Hu 1 2000 ts:=by
    rcases HTf.o with⟨n,h1,_⟩|⟨ts',h1,h2,h3⟩
    ·rw[hn]at h1;cases h1
    ·rw[hn]at h1;cases h1;exact⟨h2,h3⟩
   obtain⟨Im,hf2⟩:=hfit;have hpos:=hf2.pos;obtain⟨r,hr,hsane⟩:=hP hl ts hn;have HWf:=A0 (A55 _ _ _ _ (show Wf 4 .nil from trivial) hr);have hcp:E8 l=(if r.2.bad≠0 then((2,r.2.bad),none) else if nest ts 0≠0 then((1,nest ts 0),none) else if(Dq (Bx r.1) r.1 [] [] (0,0)).1≠0 then(Dq (Bx r.1) r.1 [] [] (0,0),none) else((0,0),some r.1)):=by
    unfold E8;rw[if_neg HLong.o,hn];simp only[];rw[hr]
   obtain⟨g,cap,cur,hv,Ig,Io,hg3,hg4⟩:=Afr hown z4sa;injection hv with e1 e2 e3;subst e1;subst e2;subst e3;have HRow:Hid (Lc g vc ts (w1.alloc (.cells #[.int .i64 0,.int .i64 0] 50))):=⟨Aan Im hf2,⟨cur,alloc_old Io,hg4⟩,hg3⟩;have HPa:=A0 (Afs z4ta _ r HRow.o hpos hr);have HCp:=A0 hcp;have HSane:=A0 hsane;have HR:=A0 hR;have ls1:=A1.size;rw[World.size_alloc]at ls1;have HNt:=A0 hn;clear hR A1 hn HTf HSc hr hcp hsane hown hlo Ig Io hg3 hg4 HRow Im hf2;go_wp2_with fail
   refine HPa.o.mono ?_;rintro e w2 ⟨A9,⟨hbad,rfl⟩|⟨hbad,hnest,rfl⟩|⟨hbad,hnest,pb,pa,pn,pc,cs,rfl,hpb1,hpb2,hpo,hrep⟩⟩
   ·have Eg:=Fu A9 (alloc_old HR.o);have hF2:=Fu A9 (heap_alloc_new w1 (.cells #[.int .i64 0,.int .i64 0] 50));have Aa:Hid (Below w.heap.size w w2):=A4.o.trans (Below.trans (Below.alloc (Below.refl _ _) z4sa _) (A9.mono z4za));have ls2:=A9.size;rw[World.size_alloc]at ls2;obtain⟨x0,x1,fx,lx⟩:=Ja Eg;obtain⟨y0,y1,fy,ly⟩:=Ja hF2;have HE:Hid (E8 l=((2,r.2.bad),none)):=HCp.o.trans (if_pos hbad);clear Eg hF2 A9 hbad HPa;go_wp2;go_region
    all_goals go_wp2
    all_goals refine bodyPost_ret (v:=.tuple #[.pointer none,.agg #[.int .i64 2,.int .i64 (r.2.bad:Nat)]]) (by simp[results,Tryz.results37,go_sem,x0,x1]) rfl ?_
    all_goals refine⟨?_,.inl z64a⟩
    all_goals repeat (first|exact Aa.o|refine Below.alloc ?_ z50a _|refine Below.setCell ?_ z4za _|refine Below.setCell ?_ z4wa _|refine Below.drew ?_)
   ·have Eg:=Fu A9 (alloc_old HR.o);have hF2:=Fu A9 (heap_alloc_new w1 (.cells #[.int .i64 0,.int .i64 0] 50));have Aa:Hid (Below w.heap.size w w2):=A4.o.trans (Below.trans (Below.alloc (Below.refl _ _) z4sa _) (A9.mono z4za));have ls2:=A9.size;rw[World.size_alloc]at ls2;obtain⟨x0,x1,fx,lx⟩:=Ja Eg;obtain⟨y0,y1,fy,ly⟩:=Ja hF2;have HE:Hid (E8 l=((1,nest ts 0),none)):=HCp.o.trans ((if_neg z4sa).trans (if_pos hnest));clear Eg hF2 A9 hbad hnest HPa;generalize hdd:nest ts 0=dd at *;clear hdd;go_wp2;go_region
    all_goals go_wp2
    all_goals refine bodyPost_ret (v:=.tuple #[.pointer none,.agg #[.int .i64 1,.int .i64 (dd:Nat)]]) (by simp[results,Tryz.results37,go_sem,x0,x1]) rfl ?_
    all_goals refine⟨?_,.inl z64a⟩
    all_goals repeat (first|exact Aa.o|refine Below.alloc ?_ z50a _|refine Below.setCell ?_ z4za _|refine Below.setCell ?_ z4wa _|refine Below.drew ?_)
   ·have Eg:=Fu A9 (alloc_old HR.o);have hF2:=Fu A9 (heap_alloc_new w1 (.cells #[.int .i64 0,.int .i64 0] 50));have Aa:Hid (Below w.heap.size w w2):=A4.o.trans (Below.trans (Below.alloc (Below.refl _ _) z4sa _) (A9.mono z4za));have ls2:=A9.size;rw[World.size_alloc]at ls2;obtain⟨x0,x1,fx,lx⟩:=Ja Eg;obtain⟨y0,y1,fy,ly⟩:=Ja hF2;have Jc:∀g,w1.heap.size<g->g<w2.heap.size->((w2.setCell ⟨w1.heap.size,0,none⟩ (.int .i64 0)).setCell ⟨w1.heap.size,1,none⟩ (.int .i64 0)).heap[g]?=w2.heap[g]?:=by
     intro g h1 h2;rw[Below.heap_setCell _ _ _ _ (by show g≠w1.heap.size;omega),Below.heap_setCell _ _ _ _ (by show g≠w1.heap.size;omega)]
    have C7:∀g,(w1.alloc (.cells #[.int .i64 0,.int .i64 0] 50)).heap.size<=g->g<w2.heap.size->((w2.setCell ⟨w1.heap.size,0,none⟩ (.int .i64 0)).setCell ⟨w1.heap.size,1,none⟩ (.int .i64 0)).heap[g]?=w2.heap[g]?/\w.heap.size<g:=fun g h1 h2=>⟨Jc g (by simp at h1;omega) h2,by simp at h1;omega⟩;have lpb:=A6 hpb2;have hpb3:=(Jc pb (by simp at hpb1;omega) lpb).trans hpb2;have hpo3:=hpo.keep C7;have hrep3:=Al.keep C7 _ _ hrep;have Ie:((w2.setCell ⟨w1.heap.size,0,none⟩ (.int .i64 0)).setCell ⟨w1.heap.size,1,none⟩ (.int .i64 0)).heap[w.heap.size]?=_:=A3l (A3l Eg (by show w.heap.size≠w1.heap.size;omega)) (by show w.heap.size≠w1.heap.size;omega);have hB3:Below w.heap.size w ((w2.setCell ⟨w1.heap.size,0,none⟩ (.int .i64 0)).setCell ⟨w1.heap.size,1,none⟩ (.int .i64 0)):=Below.setCell (Below.setCell Aa.o (by show w.heap.size<=w1.heap.size;omega) _) (by show w.heap.size<=w1.heap.size;omega) _;have hpb1':w.heap.size<pb:=by simp at hpb1;omega
    have HCp2:Hid (E8 l=if(Dq (Bx r.1) r.1 [] [] (0,0)).1≠0 then(Dq (Bx r.1) r.1 [] [] (0,0),none) else((0,0),some r.1)):=HCp.o.trans ((if_neg z4sa).trans (if_neg z4sa));have hbs:=HSane.o hbad;clear A9 Eg Jc C7 hpo hrep hpb2 hF2 hpb1 lpb hnest hbad HPa;go_wp2_with fail
    generalize (w2.setCell ⟨w1.heap.size,0,none⟩ (.int .i64 0)).setCell ⟨w1.heap.size,1,none⟩ (.int .i64 0)=w3 at *;clear x0 x1 fx lx y0 y1 fy ly Aa ls2;have ls3:=hB3.size;refine(A9a r.1 HWf.o _ w3 pb pa pn pc cs hpb3 hpo3 hrep3 z4sa).mono ?_;rintro e w4 ⟨rfl,Bi⟩;have hR4:=Fu Bi Ie;have Cs:Hid (Below w.heap.size w w4):=hB3.trans (Bi.mono ls3);have Gs:∀g,w.heap.size<g->g<w3.heap.size->w4.heap[g]?=w3.heap[g]?/\w.heap.size<g:=fun g h1 h2=>⟨Bi.block g h2,h1⟩;have HPo:=A0 (hpo3.keep Gs);have HRep:=A0 (Al.keep Gs _ _ hrep3);have HPb:=A0 (Fu Bi hpb3);have ls4:=Bi.size;obtain⟨x0,x1,fx,lx⟩:=Ja hR4;have Iz:=A0 hR4;clear hR4 Gs Bi hpo3 hrep3 hpb3 hB3 Ie;by_cases hs:(Dq (Bx r.1) r.1 [] [] (0,0)).1=0
    ·rw[hs];have HE:Hid (E8 l=((0,0),some r.1)):=HCp2.o.trans (if_neg z4sa);have HLpT:=A0 (Aiv _ _ _ _ _ hs).2;clear hs;generalize hfl:(Dq (Bx r.1) r.1 [] [] (0,0)).2=fl at *;clear hfl;go_wp2;refine bodyPost_ret (v:=.tuple #[.pointer (some ⟨pb,0,none⟩),.agg #[.int .i64 0,.int .i64 0]]) z5ma rfl ?_;have hk5:∀g,w.heap.size<g->g<w4.heap.size->(((w4.setCell ⟨w.heap.size,0,none⟩ (.int .i64 0)).setCell ⟨w.heap.size,1,none⟩ (.int .i64 0)).alloc (.cells #[.int .i64 0,.int .i64 (fl:Nat)] 50)).heap[g]?=w4.heap[g]?/\w.heap.size<=g:=by
      intro g h1 h2;rw[Below.heap_alloc _ _ _ z50a,Below.heap_setCell _ _ _ _ z5va,Below.heap_setCell _ _ _ _ z5va];exact⟨rfl,by omega⟩
     refine⟨?_,.inr ⟨r.1,pb,pa,pn,pc,cs,HE.o,HLpT.o,rfl,by omega,(hk5 pb hpb1' (A6 HPb.o)).1.trans HPb.o,HPo.o.keep hk5,Al.keep hk5 _ _ HRep.o,HWf.o,hbs⟩⟩;repeat (first|exact Cs.o|refine Below.alloc ?_ z50a _|refine Below.setCell ?_ z4za _|refine Below.setCell ?_ z4wa _|refine Below.drew ?_)
    ·have HE:Hid (E8 l=(Dq (Bx r.1) r.1 [] [] (0,0),none)):=HCp2.o.trans (if_pos hs);generalize hfl:Dq (Bx r.1) r.1 [] [] (0,0)=fl at *;have t4:((fl.1:Int)==0)=false:=Xt hs;have HS:=A0 hs;clear hs hfl;go_wp2;go_region
     all_goals go_wp2
     all_goals refine bodyPost_ret (v:=.tuple #[.pointer none,.agg #[.int .i64 (fl.1:Nat),.int .i64 (fl.2:Nat)]]) z5ma rfl ?_
     all_goals refine⟨?_,.inl (by rw[HE.o];exact⟨HS.o,rfl⟩)⟩
     all_goals repeat (first|exact Cs.o|refine Below.alloc ?_ z50a _|refine Below.setCell ?_ z4za _|refine Below.setCell ?_ z4wa _|refine Below.drew ?_)
def P1(E:Nat->Prop)(w:World)(gb:Nat)(P:D5):Prop:=∃pb,E gb/\w.heap[gb]?=some (.cells #[.pointer (some ⟨pb,0,none⟩)] 92 (0,0))/\Ki E w pb P
def Zq(l:List UInt8)(w:World)(e:Ending)(w':World):Prop:=
 Below w.heap.size w w'/\(((E8 l).1.1≠0/\e=.returned (.tuple #[.pointer none,.agg #[.int .i64 ((E8 l).1.1:Nat),.int .i64 ((E8 l).1.2:Nat)]]))\/
  ∃c gb E,E8 l=((0,0),some c)/\Nf c/\Wf 4 c/\bsize c<=4002/\e=.returned (.tuple #[.pointer (some ⟨gb,0,none⟩),.agg #[.int .i64 0,.int .i64 0]])/\P1 E w' gb (Ga c)/\(∀g,E g->w.heap.size<=g/\g<w'.heap.size))
theorem Ki.keep{E E':Nat->Prop}{w w':World}{pb:Nat}{P:D5}(h:Ki E w pb P)(hk:∀g,E g->g<w.heap.size->w'.heap[g]?=w.heap[g]?/\E' g):Ki E' w' pb P:=by
 obtain⟨sa,sn,sc,ha,hn,hc,ms,h0,h1,h2,h3,h4⟩:=h;exact⟨sa,sn,sc,ha,hn,hc,ms,(hk pb h0 (A6 h1)).2,(hk pb h0 (A6 h1)).1.trans h1,h2.keep hk,h3.keep hk,h4.keep hk⟩
theorem r6(l:List UInt8)(hP:l.length<=2000->Sy l)(w:World)(hg:Ix w)(hw:4<=w.heap.size) :
  Calls Tryz.prog 22 #[.string ⟨l.toArray⟩] w (Zq l w):=by
 have HRt:=A0 (Aht l hP (w.alloc (.cells #[.int .i64 0,.int .i64 0] 50)) (hg.below (Below.alloc (Below.refl _ _) (Nat.le_refl _) _)) z4za);clear hg;go_enter Tryz.func22,Tryz.ntmps22;go_wp2_with fail
 refine HRt.o.mono ?_;rintro e w1 ⟨A1,⟨hf,rfl⟩|⟨c,pb,va,vn,vc,cs,hcp,hlpt,rfl,hpb,hpc,hpo,hrep,hwf,hbs⟩⟩
 ·have hR:=Fu A1 (heap_alloc_new w (.cells #[.int .i64 0,.int .i64 0] 50));have A4:Hid (Below w.heap.size w w1):=Below.trans (Below.alloc (Below.refl _ _) (Nat.le_refl _) _) (A1.mono z4wa);obtain⟨x0,x1,fx,lx⟩:=Ja hR;generalize hfl:(E8 l).1=fl at *;have HFl:=A0 hfl;have t4:((fl.1:Int)==0)=false:=Xt hf;have HF:=A0 hf;clear hf hfl hR A1 HRt;go_wp2;go_region
  all_goals go_wp2
  all_goals refine bodyPost_ret (v:=.tuple #[.pointer none,.agg #[.int .i64 (fl.1:Nat),.int .i64 (fl.2:Nat)]]) (by simp[results,Tryz.results22,go_sem,x0,x1,lx]) rfl ?_
  all_goals refine⟨?_,.inl (by rw[HFl.o];exact⟨HF.o,rfl⟩)⟩
  all_goals repeat (first|exact A4.o|refine Below.alloc ?_ z50a _|refine Below.setCell ?_ z4za _|refine Below.setCell ?_ z4wa _|refine Below.drew ?_)
 ·have hR:=Fu A1 (heap_alloc_new w (.cells #[.int .i64 0,.int .i64 0] 50));have A4:Hid (Below w.heap.size w w1):=Below.trans (Below.alloc (Below.refl _ _) (Nat.le_refl _) _) (A1.mono z4wa);have HR:=A0 hR;have ls1:=A1.size;rw[World.size_alloc]at ls1;have HCp:=A0 hcp;have HWf:=A0 hwf;have HLt:=A0 hlpt;have HPc:=A0 hpc;have HPo:=A0 hpo;have HRep:=A0 hrep;obtain⟨x0,x1,fx,lx⟩:=Ja hR;clear hcp hwf hlpt hpc hpo hrep hR HRt A1;have C7:∀g,w.heap.size+1<=g->g<w1.heap.size->(w1.alloc (.cells #[.int .i64 0,.int .i64 0] 50)).heap[g]?=w1.heap[g]?/\g<w1.heap.size+1:=fun g _ h2=>⟨Below.heap_alloc _ _ _ h2,by omega⟩;have hsz9:(w.alloc (.cells #[.int .i64 0,.int .i64 0] 50)).heap.size=w.heap.size+1:=by simp
  rw[hsz9]at HPo HRep;have lpb:=A6 HPc.o;have HEp:=A0 (Ab7 c HWf.o HLt.o (fun g=>g<w1.heap.size+1) (w1.alloc (.cells #[.int .i64 0,.int .i64 0] 50)) pb va vn vc cs z4sa (fun g hg=>by simp;exact hg) (alloc_old HPc.o) (HPo.o.keep C7) (Al.keep C7 _ _ HRep.o) z4sa);clear C7 hsz9;go_wp2_with fail
  refine HEp.o.mono ?_;rintro r w4 ⟨eb,E,rfl,hprg,hE,Bi⟩;have hR4:=(Bi.block w.heap.size (by show w.heap.size<_;omega)).trans (alloc_old HR.o);have hB4:Below w.heap.size w w4:=⟨Bi.os.trans A4.o.os,Bi.tape.trans A4.o.tape,Bi.output.trans A4.o.output,by have:=Bi.size;have:=A4.o.size;simp at *;omega,fun k hk=>(Bi.block k (by show k<_;omega)).trans ((Below.heap_alloc _ _ _ z4sa).trans (A4.o.block k hk))⟩;have F6:=Bi.size;rw[World.size_alloc]at F6;obtain⟨x0,x1,fx,lx⟩:=Ja hR4;have HPrg:=A0 hprg;have HE:=A0 hE;have Cs:=A0 hB4;clear hprg hE hB4 Bi hR4;go_wp2;refine bodyPost_ret (v:=.tuple #[.pointer (some ⟨w4.heap.size,0,none⟩),.agg #[.int .i64 0,.int .i64 0]]) (by simp[results,Tryz.results22,go_sem,x0,x1,lx]) rfl ?_;have hk5:∀g,E g->g<w4.heap.size->(((w4.setCell ⟨w.heap.size,0,none⟩ (.int .i64 0)).setCell ⟨w.heap.size,1,none⟩ (.int .i64 0)).alloc (.cells #[.pointer (some ⟨eb,0,none⟩)] 92)).heap[g]?=w4.heap[g]?/\(E g\/g=w4.heap.size):=by
   intro g hg hl;have h1:¬g<w1.heap.size+1:=(HE.o g hg).1;rw[Below.heap_alloc _ _ _ (by simp[World.setCell];exact hl),Below.heap_setCell _ _ _ _ z5va,Below.heap_setCell _ _ _ _ z5va];exact⟨rfl,.inl hg⟩
  refine⟨?_,.inr ⟨c,w4.heap.size,fun g=>E g\/g=w4.heap.size,HCp.o,HLt.o,HWf.o,hbs,rfl,⟨eb,.inr rfl,?_,HPrg.o.keep hk5⟩,?_⟩⟩
  ·repeat (first|exact Cs.o|refine Below.alloc ?_ z50a _|refine Below.setCell ?_ z4wa _)
  ·have:=heap_alloc_new ((w4.setCell ⟨w.heap.size,0,none⟩ (.int .i64 0)).setCell ⟨w.heap.size,1,none⟩ (.int .i64 0)) (.cells #[.pointer (some ⟨eb,0,none⟩)] 92);simpa [World.setCell]using this
  ·intro g hg;rcases hg with hg|hg
   ·have h1:¬g<w1.heap.size+1:=(HE.o g hg).1;have h2:=(HE.o g hg).2;exact⟨by omega,by simp[World.setCell];omega⟩
   ·subst hg;exact⟨by omega,by simp[World.setCell]⟩
end
end Go.Proofs.YtjdlndhfaaolaaaGreatDoor
