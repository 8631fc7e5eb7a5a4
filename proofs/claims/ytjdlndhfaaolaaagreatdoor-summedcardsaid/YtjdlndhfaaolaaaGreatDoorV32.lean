import Derived.Test.YtjdlndhfaaolaaaGreatDoorV19
import Derived.Test.YtjdlndhfaaolaaaGreatDoorV25
import Derived.Test.YtjdlndhfaaolaaaGreatDoorV31
set_option maxHeartbeats 20000000
namespace Go.Proofs.YtjdlndhfaaolaaaGreatDoor
section
set_option maxRecDepth 100000
open Go.RowKit
open Go.Deep (BT)
def A5p(l:List UInt8)(w:World)(e:Ending)(w':World):Prop:=
 Below w.heap.size w w'/\(((Hi l).1.1≠0/\e=.returned (.tuple #[.pointer none,.agg #[.int .i64 ((Hi l).1.1:Nat),.int .i64 ((Hi l).1.2:Nat)]]))\/
  ∃c pb va vn vc cs,Hi l=((0,0),some c)/\Np c/\e=.returned (.tuple #[.pointer (some ⟨pb,0,none⟩),.agg #[.int .i64 0,.int .i64 0]])/\w.heap.size<=pb/\w'.heap[pb]?=some (.cells #[.slice va vn vc] 140 (0,0))/\
   Cw (fun g=>w.heap.size<=g) w' 142 1 (.slice va vn vc) cs.length cs/\An (fun g=>w.heap.size<=g) w' c cs/\Wf 4 c/\bsize c<=4002)
theorem z5ua {P:Prop} (h:P:=by simp[results,Tryz.results37,go_sem,x0,x1,lx]):P:=h
theorem z61a {P:Prop} (h:P:=by show g≠w.heap.size;omega):P:=h
theorem z6ia {P:Prop} (h:P:=by rw[HE.o];exact⟨by simp,rfl⟩):P:=h
theorem Ajh(l:List UInt8)(hP:l.length<=2000->Qd l)(w:World)(hg:It w)(hw:4<=w.heap.size) :
  Calls Tryz.prog 37 #[.string ⟨l.toArray⟩] w (A5p l w):=by
 by_cases hlong:2000<l.length
 ·have t:=Abk hlong;have HE:Hid (Hi l=((1,0),none)):=if_pos hlong;clear hlong;go_enter Tryz.func37,Tryz.ntmps37;go_wp2;refine bodyPost_ret (v:=.tuple #[.pointer none,.agg #[.int .i64 1,.int .i64 0]]) (by simp[results,Tryz.results37,go_sem]) rfl ?_;refine⟨Below.alloc (Below.refl _ _) (Nat.le_refl _) _,.inl ?_⟩;rw[HE.o];exact⟨by simp,rfl⟩
 ·have t:=Abo hlong;have HG:=A0 hg;have HLong:=A0 hlong;have hl:l.length<=2000:=by omega
  have HSc:=A0 (Aka l (w.alloc (.cells #[.int .i64 0,.int .i64 0] 50)) z4va (hg.below (Below.alloc (Below.refl _ _) (Nat.le_refl _) _)) z4ya);have HTf:=A0 (Aou l hl);clear hg hlong;go_enter Tryz.func37,Tryz.ntmps37;go_wp2_with fail
  refine HSc.o.mono ?_;rintro e w1 ⟨A1,⟨n,hn,rfl⟩|⟨ts,va,vn,vc,hn,rfl,hown,hlo⟩⟩
  ·have hR:=Fq A1 (heap_alloc_new w (.cells #[.int .i64 0,.int .i64 0] 50));obtain⟨x0,x1,fx,lx⟩:=Iu hR;have A4:Hid (Below w.heap.size w w1):=Below.trans (Below.alloc (Below.refl _ _) (Nat.le_refl _) _) (A1.mono z50a);have HE:Hid (Hi l=((2,n),none)):=by
    show Hi l=_;unfold Hi;rw[if_neg HLong.o,hn]
   clear hR A1 hn HTf HSc;go_wp2;go_region
   all_goals go_wp2
   all_goals refine bodyPost_ret (v:=.tuple #[.pointer none,.agg #[.int .i64 2,.int .i64 (n:Nat)]]) z5ua rfl ?_
   all_goals refine⟨?_,.inl z6ia⟩
   all_goals repeat (first|exact A4.o|refine Below.alloc ?_ z4za _|refine Below.setCell ?_ z50a _|refine Below.drew ?_)
  ·have hR:=Fq A1 (heap_alloc_new w (.cells #[.int .i64 0,.int .i64 0] 50));have A4:Hid (Below w.heap.size w w1):=Below.trans (Below.alloc (Below.refl _ _) (Nat.le_refl _) _) (A1.mono z50a);have hfit:ts.length<=2001/\Jl 1 2000 ts:=by
    rcases HTf.o with⟨n,h1,_⟩|⟨ts',h1,h2,h3⟩
    ·rw[hn]at h1;cases h1
    ·rw[hn]at h1;cases h1;exact⟨h2,h3⟩
   obtain⟨Ga,hf2⟩:=hfit;have hpos:=hf2.pos;obtain⟨r,hr,hsane⟩:=hP hl ts hn;have HWf:=A0 (Aq4 _ _ _ _ (show Wf 4 .nil from trivial) hr);have hcp:Hi l=(if r.2.bad≠0 then((2,r.2.bad),none) else if nest ts 0≠0 then((1,nest ts 0),none) else if(Et (Cr r.1) r.1 [] [] (0,0)).1≠0 then(Et (Cr r.1) r.1 [] [] (0,0),none) else((0,0),some r.1)):=by
    unfold Hi;rw[if_neg HLong.o,hn];simp only[];rw[hr]
   obtain⟨g,cap,cur,hv,hg1,Hv,hg3,hg4⟩:=Ah2 hown z4va;injection hv with e1 e2 e3;subst e1;subst e2;subst e3;have HRow:Hid (Lf g vc ts (w1.alloc (.cells #[.int .i64 0,.int .i64 0] 50))):=⟨Ab6 Ga hf2,⟨cur,alloc_old Hv,hg4⟩,hg3⟩;have HPa:=A0 (Ah3 z4wa _ r HRow.o hpos hr);have HCp:=A0 hcp;have HSane:=A0 hsane;have HR:=A0 hR;have E6:=A1.size;rw[World.size_alloc]at E6;have HNt:=A0 hn;clear hR A1 hn HTf HSc hr hcp hsane hown hlo hg1 Hv hg3 hg4 HRow Ga hf2;go_wp2_with fail
   refine HPa.o.mono ?_;rintro e w2 ⟨A8,⟨hbad,rfl⟩|⟨hbad,hnest,rfl⟩|⟨hbad,hnest,pb,pa,pn,pc,cs,rfl,hpb1,hpb2,hpo,hrep⟩⟩
   ·have Ei:=Fq A8 (alloc_old HR.o);have hF2:=Fq A8 (heap_alloc_new w1 (.cells #[.int .i64 0,.int .i64 0] 50));have Aa:Hid (Below w.heap.size w w2):=A4.o.trans (Below.trans (Below.alloc (Below.refl _ _) z4va _) (A8.mono z4ya));have ls2:=A8.size;rw[World.size_alloc]at ls2;obtain⟨x0,x1,fx,lx⟩:=Iu Ei;obtain⟨y0,y1,fy,ly⟩:=Iu hF2;have HE:Hid (Hi l=((2,r.2.bad),none)):=HCp.o.trans (if_pos hbad);clear Ei hF2 A8 hbad HPa;go_wp2;go_region
    all_goals go_wp2
    all_goals refine bodyPost_ret (v:=.tuple #[.pointer none,.agg #[.int .i64 2,.int .i64 (r.2.bad:Nat)]]) (by simp[results,Tryz.results37,go_sem,x0,x1]) rfl ?_
    all_goals refine⟨?_,.inl z6ia⟩
    all_goals repeat (first|exact Aa.o|refine Below.alloc ?_ z4za _|refine Below.setCell ?_ z4ya _|refine Below.setCell ?_ z50a _|refine Below.drew ?_)
   ·have Ei:=Fq A8 (alloc_old HR.o);have hF2:=Fq A8 (heap_alloc_new w1 (.cells #[.int .i64 0,.int .i64 0] 50));have Aa:Hid (Below w.heap.size w w2):=A4.o.trans (Below.trans (Below.alloc (Below.refl _ _) z4va _) (A8.mono z4ya));have ls2:=A8.size;rw[World.size_alloc]at ls2;obtain⟨x0,x1,fx,lx⟩:=Iu Ei;obtain⟨y0,y1,fy,ly⟩:=Iu hF2;have HE:Hid (Hi l=((1,nest ts 0),none)):=HCp.o.trans ((if_neg z4va).trans (if_pos hnest));clear Ei hF2 A8 hbad hnest HPa;generalize hdd:nest ts 0=dd at *;clear hdd;go_wp2;go_region
    all_goals go_wp2
    all_goals refine bodyPost_ret (v:=.tuple #[.pointer none,.agg #[.int .i64 1,.int .i64 (dd:Nat)]]) (by simp[results,Tryz.results37,go_sem,x0,x1]) rfl ?_
    all_goals refine⟨?_,.inl z6ia⟩
    all_goals repeat (first|exact Aa.o|refine Below.alloc ?_ z4za _|refine Below.setCell ?_ z4ya _|refine Below.setCell ?_ z50a _|refine Below.drew ?_)
   ·have Ei:=Fq A8 (alloc_old HR.o);have hF2:=Fq A8 (heap_alloc_new w1 (.cells #[.int .i64 0,.int .i64 0] 50));have Aa:Hid (Below w.heap.size w w2):=A4.o.trans (Below.trans (Below.alloc (Below.refl _ _) z4va _) (A8.mono z4ya));have ls2:=A8.size;rw[World.size_alloc]at ls2;obtain⟨x0,x1,fx,lx⟩:=Iu Ei;obtain⟨y0,y1,fy,ly⟩:=Iu hF2;have J1:∀g,w1.heap.size<g->g<w2.heap.size->((w2.setCell ⟨w1.heap.size,0,none⟩ (.int .i64 0)).setCell ⟨w1.heap.size,1,none⟩ (.int .i64 0)).heap[g]?=w2.heap[g]?:=by
     intro g h1 h2;rw[Below.heap_setCell _ _ _ _ (by show g≠w1.heap.size;omega),Below.heap_setCell _ _ _ _ (by show g≠w1.heap.size;omega)]
    have Ci:∀g,(w1.alloc (.cells #[.int .i64 0,.int .i64 0] 50)).heap.size<=g->g<w2.heap.size->((w2.setCell ⟨w1.heap.size,0,none⟩ (.int .i64 0)).setCell ⟨w1.heap.size,1,none⟩ (.int .i64 0)).heap[g]?=w2.heap[g]?/\w.heap.size<g:=fun g h1 h2=>⟨J1 g (by simp at h1;omega) h2,by simp at h1;omega⟩;have lpb:=A5 hpb2;have hpb3:=(J1 pb (by simp at hpb1;omega) lpb).trans hpb2;have hpo3:=hpo.keep Ci;have hrep3:=An.keep Ci _ _ hrep;have I8:((w2.setCell ⟨w1.heap.size,0,none⟩ (.int .i64 0)).setCell ⟨w1.heap.size,1,none⟩ (.int .i64 0)).heap[w.heap.size]?=_:=A3t (A3t Ei (by show w.heap.size≠w1.heap.size;omega)) (by show w.heap.size≠w1.heap.size;omega);have hB3:Below w.heap.size w ((w2.setCell ⟨w1.heap.size,0,none⟩ (.int .i64 0)).setCell ⟨w1.heap.size,1,none⟩ (.int .i64 0)):=Below.setCell (Below.setCell Aa.o (by show w.heap.size<=w1.heap.size;omega) _) (by show w.heap.size<=w1.heap.size;omega) _;have hpb1':w.heap.size<pb:=by simp at hpb1;omega
    have HCp2:Hid (Hi l=if(Et (Cr r.1) r.1 [] [] (0,0)).1≠0 then(Et (Cr r.1) r.1 [] [] (0,0),none) else((0,0),some r.1)):=HCp.o.trans ((if_neg z4va).trans (if_neg z4va));have hbs:=HSane.o hbad;clear A8 Ei J1 Ci hpo hrep hpb2 hF2 hpb1 lpb hnest hbad HPa;go_wp2_with fail
    generalize (w2.setCell ⟨w1.heap.size,0,none⟩ (.int .i64 0)).setCell ⟨w1.heap.size,1,none⟩ (.int .i64 0)=w3 at *;clear x0 x1 fx lx y0 y1 fy ly Aa ls2;have ls3:=hB3.size;refine(A9u r.1 HWf.o _ w3 pb pa pn pc cs hpb3 hpo3 hrep3 z4va).mono ?_;rintro e w4 ⟨rfl,B8⟩;have hR4:=Fq B8 I8;have Cn:Hid (Below w.heap.size w w4):=hB3.trans (B8.mono ls3);have Gr:∀g,w.heap.size<g->g<w3.heap.size->w4.heap[g]?=w3.heap[g]?/\w.heap.size<g:=fun g h1 h2=>⟨B8.block g h2,h1⟩;have HPo:=A0 (hpo3.keep Gr);have HRep:=A0 (An.keep Gr _ _ hrep3);have HPb:=A0 (Fq B8 hpb3);have ls4:=B8.size;obtain⟨x0,x1,fx,lx⟩:=Iu hR4;have Cu:=A0 hR4;clear hR4 Gr B8 hpo3 hrep3 hpb3 hB3 I8;by_cases hs:(Et (Cr r.1) r.1 [] [] (0,0)).1=0
    ·rw[hs];have HE:Hid (Hi l=((0,0),some r.1)):=HCp2.o.trans (if_neg z4va);have HLpT:=A0 (Akn _ _ _ _ _ hs).2;clear hs;generalize hfl:(Et (Cr r.1) r.1 [] [] (0,0)).2=fl at *;clear hfl;go_wp2;refine bodyPost_ret (v:=.tuple #[.pointer (some ⟨pb,0,none⟩),.agg #[.int .i64 0,.int .i64 0]]) z5ua rfl ?_;have hk5:∀g,w.heap.size<g->g<w4.heap.size->(((w4.setCell ⟨w.heap.size,0,none⟩ (.int .i64 0)).setCell ⟨w.heap.size,1,none⟩ (.int .i64 0)).alloc (.cells #[.int .i64 0,.int .i64 (fl:Nat)] 50)).heap[g]?=w4.heap[g]?/\w.heap.size<=g:=by
      intro g h1 h2;rw[Below.heap_alloc _ _ _ z4za,Below.heap_setCell _ _ _ _ z61a,Below.heap_setCell _ _ _ _ z61a];exact⟨rfl,by omega⟩
     refine⟨?_,.inr ⟨r.1,pb,pa,pn,pc,cs,HE.o,HLpT.o,rfl,by omega,(hk5 pb hpb1' (A5 HPb.o)).1.trans HPb.o,HPo.o.keep hk5,An.keep hk5 _ _ HRep.o,HWf.o,hbs⟩⟩;repeat (first|exact Cn.o|refine Below.alloc ?_ z4za _|refine Below.setCell ?_ z4ya _|refine Below.setCell ?_ z50a _|refine Below.drew ?_)
    ·have HE:Hid (Hi l=(Et (Cr r.1) r.1 [] [] (0,0),none)):=HCp2.o.trans (if_pos hs);generalize hfl:Et (Cr r.1) r.1 [] [] (0,0)=fl at *;have t4:((fl.1:Int)==0)=false:=Xj hs;have HS:=A0 hs;clear hs hfl;go_wp2;go_region
     all_goals go_wp2
     all_goals refine bodyPost_ret (v:=.tuple #[.pointer none,.agg #[.int .i64 (fl.1:Nat),.int .i64 (fl.2:Nat)]]) z5ua rfl ?_
     all_goals refine⟨?_,.inl (by rw[HE.o];exact⟨HS.o,rfl⟩)⟩
     all_goals repeat (first|exact Cn.o|refine Below.alloc ?_ z4za _|refine Below.setCell ?_ z4ya _|refine Below.setCell ?_ z50a _|refine Below.drew ?_)
def Rq(E:Nat->Prop)(w:World)(gb:Nat)(P:D7):Prop:=∃pb,E gb/\w.heap[gb]?=some (.cells #[.pointer (some ⟨pb,0,none⟩)] 92 (0,0))/\K3 E w pb P
def A5c(l:List UInt8)(w:World)(e:Ending)(w':World):Prop:=
 Below w.heap.size w w'/\(((Hi l).1.1≠0/\e=.returned (.tuple #[.pointer none,.agg #[.int .i64 ((Hi l).1.1:Nat),.int .i64 ((Hi l).1.2:Nat)]]))\/
  ∃c gb E,Hi l=((0,0),some c)/\Np c/\Wf 4 c/\bsize c<=4002/\e=.returned (.tuple #[.pointer (some ⟨gb,0,none⟩),.agg #[.int .i64 0,.int .i64 0]])/\Rq E w' gb (Ny c)/\(∀g,E g->w.heap.size<=g/\g<w'.heap.size))
theorem K3.keep{E E':Nat->Prop}{w w':World}{pb:Nat}{P:D7}(h:K3 E w pb P)(hk:∀g,E g->g<w.heap.size->w'.heap[g]?=w.heap[g]?/\E' g):K3 E' w' pb P:=by
 obtain⟨sa,sn,sc,ha,hn,hc,ms,h0,h1,h2,h3,h4⟩:=h;exact⟨sa,sn,sc,ha,hn,hc,ms,(hk pb h0 (A5 h1)).2,(hk pb h0 (A5 h1)).1.trans h1,h2.keep hk,h3.keep hk,h4.keep hk⟩
theorem b9(l:List UInt8)(hP:l.length<=2000->Qd l)(w:World)(hg:It w)(hw:4<=w.heap.size) :
  Calls Tryz.prog 22 #[.string ⟨l.toArray⟩] w (A5c l w):=by
 have HRt:=A0 (Ajh l hP (w.alloc (.cells #[.int .i64 0,.int .i64 0] 50)) (hg.below (Below.alloc (Below.refl _ _) (Nat.le_refl _) _)) z4ya);clear hg;go_enter Tryz.func22,Tryz.ntmps22;go_wp2_with fail
 refine HRt.o.mono ?_;rintro e w1 ⟨A1,⟨hf,rfl⟩|⟨c,pb,va,vn,vc,cs,hcp,hlpt,rfl,hpb,hpc,hpo,hrep,hwf,hbs⟩⟩
 ·have hR:=Fq A1 (heap_alloc_new w (.cells #[.int .i64 0,.int .i64 0] 50));have A4:Hid (Below w.heap.size w w1):=Below.trans (Below.alloc (Below.refl _ _) (Nat.le_refl _) _) (A1.mono z50a);obtain⟨x0,x1,fx,lx⟩:=Iu hR;generalize hfl:(Hi l).1=fl at *;have HFl:=A0 hfl;have t4:((fl.1:Int)==0)=false:=Xj hf;have HF:=A0 hf;clear hf hfl hR A1 HRt;go_wp2;go_region
  all_goals go_wp2
  all_goals refine bodyPost_ret (v:=.tuple #[.pointer none,.agg #[.int .i64 (fl.1:Nat),.int .i64 (fl.2:Nat)]]) (by simp[results,Tryz.results22,go_sem,x0,x1,lx]) rfl ?_
  all_goals refine⟨?_,.inl (by rw[HFl.o];exact⟨HF.o,rfl⟩)⟩
  all_goals repeat (first|exact A4.o|refine Below.alloc ?_ z4za _|refine Below.setCell ?_ z4ya _|refine Below.setCell ?_ z50a _|refine Below.drew ?_)
 ·have hR:=Fq A1 (heap_alloc_new w (.cells #[.int .i64 0,.int .i64 0] 50));have A4:Hid (Below w.heap.size w w1):=Below.trans (Below.alloc (Below.refl _ _) (Nat.le_refl _) _) (A1.mono z50a);have HR:=A0 hR;have E6:=A1.size;rw[World.size_alloc]at E6;have HCp:=A0 hcp;have HWf:=A0 hwf;have HLt:=A0 hlpt;have HPc:=A0 hpc;have HPo:=A0 hpo;have HRep:=A0 hrep;obtain⟨x0,x1,fx,lx⟩:=Iu hR;clear hcp hwf hlpt hpc hpo hrep hR HRt A1;have Ci:∀g,w.heap.size+1<=g->g<w1.heap.size->(w1.alloc (.cells #[.int .i64 0,.int .i64 0] 50)).heap[g]?=w1.heap[g]?/\g<w1.heap.size+1:=fun g _ h2=>⟨Below.heap_alloc _ _ _ h2,by omega⟩;have hsz9:(w.alloc (.cells #[.int .i64 0,.int .i64 0] 50)).heap.size=w.heap.size+1:=by simp
  rw[hsz9]at HPo HRep;have lpb:=A5 HPc.o;have HEp:=A0 (Aby c HWf.o HLt.o (fun g=>g<w1.heap.size+1) (w1.alloc (.cells #[.int .i64 0,.int .i64 0] 50)) pb va vn vc cs z4va (fun g hg=>by simp;exact hg) (alloc_old HPc.o) (HPo.o.keep Ci) (An.keep Ci _ _ HRep.o) z4va);clear Ci hsz9;go_wp2_with fail
  refine HEp.o.mono ?_;rintro r w4 ⟨eb,E,rfl,hprg,hE,B8⟩;have hR4:=(B8.block w.heap.size (by show w.heap.size<_;omega)).trans (alloc_old HR.o);have hB4:Below w.heap.size w w4:=⟨B8.os.trans A4.o.os,B8.tape.trans A4.o.tape,B8.output.trans A4.o.output,by have:=B8.size;have:=A4.o.size;simp at *;omega,fun k hk=>(B8.block k (by show k<_;omega)).trans ((Below.heap_alloc _ _ _ z4va).trans (A4.o.block k hk))⟩;have Ff:=B8.size;rw[World.size_alloc]at Ff;obtain⟨x0,x1,fx,lx⟩:=Iu hR4;have HPrg:=A0 hprg;have HE:=A0 hE;have Cn:=A0 hB4;clear hprg hE hB4 B8 hR4;go_wp2;refine bodyPost_ret (v:=.tuple #[.pointer (some ⟨w4.heap.size,0,none⟩),.agg #[.int .i64 0,.int .i64 0]]) (by simp[results,Tryz.results22,go_sem,x0,x1,lx]) rfl ?_;have hk5:∀g,E g->g<w4.heap.size->(((w4.setCell ⟨w.heap.size,0,none⟩ (.int .i64 0)).setCell ⟨w.heap.size,1,none⟩ (.int .i64 0)).alloc (.cells #[.pointer (some ⟨eb,0,none⟩)] 92)).heap[g]?=w4.heap[g]?/\(E g\/g=w4.heap.size):=by
   intro g hg hl;have h1:¬g<w1.heap.size+1:=(HE.o g hg).1;rw[Below.heap_alloc _ _ _ (by simp[World.setCell];exact hl),Below.heap_setCell _ _ _ _ z61a,Below.heap_setCell _ _ _ _ z61a];exact⟨rfl,.inl hg⟩
  refine⟨?_,.inr ⟨c,w4.heap.size,fun g=>E g\/g=w4.heap.size,HCp.o,HLt.o,HWf.o,hbs,rfl,⟨eb,.inr rfl,?_,HPrg.o.keep hk5⟩,?_⟩⟩
  ·repeat (first|exact Cn.o|refine Below.alloc ?_ z4za _|refine Below.setCell ?_ z50a _)
  ·have:=heap_alloc_new ((w4.setCell ⟨w.heap.size,0,none⟩ (.int .i64 0)).setCell ⟨w.heap.size,1,none⟩ (.int .i64 0)) (.cells #[.pointer (some ⟨eb,0,none⟩)] 92);simpa [World.setCell]using this
  ·intro g hg;rcases hg with hg|hg
   ·have h1:¬g<w1.heap.size+1:=(HE.o g hg).1;have h2:=(HE.o g hg).2;exact⟨by omega,by simp[World.setCell];omega⟩
   ·subst hg;exact⟨by omega,by simp[World.setCell]⟩
end
end Go.Proofs.YtjdlndhfaaolaaaGreatDoor
