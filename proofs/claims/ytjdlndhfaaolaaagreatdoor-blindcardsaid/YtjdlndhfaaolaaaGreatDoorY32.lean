import Derived.Test.YtjdlndhfaaolaaaGreatDoorY26
import Derived.Test.YtjdlndhfaaolaaaGreatDoorY31
set_option maxHeartbeats 20000000
set_option linter.all false
namespace Go.Proofs.YtjdlndhfaaolaaaGreatDoor
section
set_option maxRecDepth 100000
open Go.RowKit
open Go.Deep (BT)
def Abe(l:List UInt8)(w:World)(e:Ending)(w':World):Prop:=
 Bw w w'/\(((Gu l).1.1≠0/\e=.returned (.tuple #[.pointer none,.agg #[.n ((Gu l).1.1),.n ((Gu l).1.2)]]))\/
  ∃c pb va vn vc cs,Gu l=((0,0),some c)/\Q5 c/\e=.returned (.tuple #[.p pb,.agg #[.i 0,.i 0]])/\w.heap.size<=pb/\w'.heap[pb]?=some (.cells #[.slice va vn vc] 140 (0,0))/\
   Dj (fun g=>w.heap.size<=g) w' 142 1 (.slice va vn vc) cs.length cs/\Ar (fun g=>w.heap.size<=g) w' c cs/\Wf 4 c/\bsize c<=4002)
def z5la {P:Prop} (h:P:=by simp[results,Tryz.results37,go_sem,x0,x1,lx]):P:=h
def z5ua {P:Prop} (h:P:=by show g≠w.heap.size;omega):P:=h
def z68a {P:Prop} (h:P:=by rw[HE.o];exact⟨by simp,rfl⟩):P:=h
def Aqa(l:List UInt8)(hP:l.length<=2000->Xf l)(w:World)(hg:K6 w)(hw:4<=w.heap.size) :
  Calls Tryz.prog 37 #[.s l] w (Abe l w):=by
 by_cases hlong:2000<l.length
 ·have t:=Ahj hlong;have HE:Hid (Gu l=((1,0),none)):=A7 hlong;go_in;go_wp2;refine B9 (v:=.tuple #[.pointer none,.agg #[.i 1,.i 0]]) (by simp[results,Tryz.results37,go_sem]) rfl ?_;refine⟨Ah (Al _ _) (Af _) _,.inl ?_⟩;rw[HE.o];exact⟨by simp,rfl⟩
 ·have t:=Ahk hlong;have hl:l.length<=2000:=by omega
  have HSc:=Aqy l (w.alloc (.cells #[.i 0,.i 0] 50)) z4ma (hg.below (Ah (Al _ _) (Af _) _)) z4qa;have HTf:=A2n l hl;go_in;go_wp2_with fail
  refine HSc.mono ?_;rintro e w1 ⟨A2,⟨n,hn,rfl⟩|⟨ts,va,vn,vc,hn,rfl,hown,hlo⟩⟩
  ·have hR:=Gn A2 (Bp w (.cells #[.i 0,.i 0] 50));obtain⟨x0,x1,fx,lx⟩:=K9 hR;have A9:Hid (Bw w w1):=Ib (Ah (Al _ _) (Af _) _) (A2.mono z4ra);have HE:Hid (Gu l=((2,n),none)):=by
    show Gu l=_;unfold Gu;rw[A1 hlong,hn]
   go_wp2;go_region
   all_goals go_wp2
   all_goals refine B9 (v:=.tuple #[.pointer none,.agg #[.i 2,.n n]]) z5la rfl ?_
   all_goals refine⟨?_,.inl z68a⟩
   all_goals repeat (first|exact A9.o|refine Ah ?_ z4sa _|refine B0 ?_ z4ra _|refine B8 ?_)
  ·have hR:=Gn A2 (Bp w (.cells #[.i 0,.i 0] 50));have A9:Hid (Bw w w1):=Ib (Ah (Al _ _) (Af _) _) (A2.mono z4ra);have hfit:ts.length<=2001/\Kt 1 2000 ts:=by
    rcases HTf with⟨n,h1,_⟩|⟨ts',h1,h2,h3⟩
    ·rw[hn]at h1;cases h1
    ·rw[hn]at h1;cases h1;exact⟨h2,h3⟩
   obtain⟨hf1,hf2⟩:=hfit;have hpos:=hf2.pos;obtain⟨r,hr,hsane⟩:=hP hl ts hn;have hcp:Gu l=(if r.2.bad≠0 then((2,r.2.bad),none) else if nest ts 0≠0 then((1,nest ts 0),none) else if(G2 (Cr r.1) r.1 [] [] (0,0)).1≠0 then(G2 (Cr r.1) r.1 [] [] (0,0),none) else((0,0),some r.1)):=by
    unfold Gu;rw[A1 hlong,hn];simp only[];rw[hr]
   obtain⟨g,cap,cur,hv,Kj,Jw,hg3,hg4⟩:=An3 hown z4ma;injection hv with e1 e2 e3;subst e1;subst e2;subst e3;have HRow:Ns g vc ts (w1.alloc (.cells #[.i 0,.i 0] 50)):=⟨Ahb hf1 hf2,⟨cur,alloc_old Jw,hg4⟩,hg3⟩;have HPa:=An5 z4oa _ r HRow hpos hr;have ls1:=A2.size;rw[K3]at ls1;go_wp2_with fail
   refine HPa.mono ?_;rintro e w2 ⟨Ad,⟨hbad,rfl⟩|⟨hbad,hnest,rfl⟩|⟨hbad,hnest,pb,pa,pn,pc,cs,rfl,hpb1,hpb2,hpo,hrep⟩⟩
   ·have G7:=Gn Ad (alloc_old hR);have hF2:=Gn Ad (Bp w1 (.cells #[.i 0,.i 0] 50));have Ab:Hid (Bw w w2):=A9.o.trans (Ib (Ah (Al _ _) z4ma _) (Ad.mono z4qa));have ls2:=Ad.size;rw[K3]at ls2;obtain⟨x0,x1,fx,lx⟩:=K9 G7;obtain⟨y0,y1,fy,ly⟩:=K9 hF2;have HE:Hid (Gu l=((2,r.2.bad),none)):=hcp.trans (A7 hbad);go_wp2;go_region
    all_goals go_wp2
    all_goals refine B9 (v:=.tuple #[.pointer none,.agg #[.i 2,.n r.2.bad]]) (by simp[results,Tryz.results37,go_sem,x0,x1]) rfl ?_
    all_goals refine⟨?_,.inl z68a⟩
    all_goals repeat (first|exact Ab.o|refine Ah ?_ z4sa _|refine B0 ?_ z4qa _|refine B0 ?_ z4ra _|refine B8 ?_)
   ·have G7:=Gn Ad (alloc_old hR);have hF2:=Gn Ad (Bp w1 (.cells #[.i 0,.i 0] 50));have Ab:Hid (Bw w w2):=A9.o.trans (Ib (Ah (Al _ _) z4ma _) (Ad.mono z4qa));have ls2:=Ad.size;rw[K3]at ls2;obtain⟨x0,x1,fx,lx⟩:=K9 G7;obtain⟨y0,y1,fy,ly⟩:=K9 hF2;have HE:Hid (Gu l=((1,nest ts 0),none)):=hcp.trans ((Ai).trans (A7 hnest));generalize hdd:nest ts 0=dd at *;go_wp2;go_region
    all_goals go_wp2
    all_goals refine B9 (v:=.tuple #[.pointer none,.agg #[.i 1,.n dd]]) (by simp[results,Tryz.results37,go_sem,x0,x1]) rfl ?_
    all_goals refine⟨?_,.inl z68a⟩
    all_goals repeat (first|exact Ab.o|refine Ah ?_ z4sa _|refine B0 ?_ z4qa _|refine B0 ?_ z4ra _|refine B8 ?_)
   ·have G7:=Gn Ad (alloc_old hR);have hF2:=Gn Ad (Bp w1 (.cells #[.i 0,.i 0] 50));have Ab:Hid (Bw w w2):=A9.o.trans (Ib (Ah (Al _ _) z4ma _) (Ad.mono z4qa));have ls2:=Ad.size;rw[K3]at ls2;obtain⟨x0,x1,fx,lx⟩:=K9 G7;obtain⟨y0,y1,fy,ly⟩:=K9 hF2;have Ky:∀g,w1.heap.size<g->g<w2.heap.size->((w2.setCell ⟨w1.heap.size,0,none⟩ (.i 0)).setCell ⟨w1.heap.size,1,none⟩ (.i 0)).heap[g]?=w2.heap[g]?:=by
     intro g h1 h2;rw[Bh _ _ _ _ (by show g≠w1.heap.size;omega),Bh _ _ _ _ (by show g≠w1.heap.size;omega)]
    have D4:∀g,(w1.alloc (.cells #[.i 0,.i 0] 50)).heap.size<=g->g<w2.heap.size->((w2.setCell ⟨w1.heap.size,0,none⟩ (.i 0)).setCell ⟨w1.heap.size,1,none⟩ (.i 0)).heap[g]?=w2.heap[g]?/\w.heap.size<g:=fun g h1 h2=>⟨Ky g (by simp at h1;omega) h2,by simp at h1;omega⟩;have lpb:=A6 hpb2;have hpb3:=(Ky pb (by simp at hpb1;omega) lpb).trans hpb2;have hpo3:=hpo.keep D4;have hrep3:=Ar.keep D4 _ _ hrep;have Ki:((w2.setCell ⟨w1.heap.size,0,none⟩ (.i 0)).setCell ⟨w1.heap.size,1,none⟩ (.i 0)).heap[w.heap.size]?=_:=A92 (A92 G7 (by show w.heap.size≠w1.heap.size;omega)) (by show w.heap.size≠w1.heap.size;omega);have hB3:Bw w ((w2.setCell ⟨w1.heap.size,0,none⟩ (.i 0)).setCell ⟨w1.heap.size,1,none⟩ (.i 0)):=B0 (B0 Ab.o (by show w.heap.size<=w1.heap.size;omega) _) (by show w.heap.size<=w1.heap.size;omega) _;have hpb1':w.heap.size<pb:=by simp at hpb1;omega
    have HCp2:Gu l=if(G2 (Cr r.1) r.1 [] [] (0,0)).1≠0 then(G2 (Cr r.1) r.1 [] [] (0,0),none) else((0,0),some r.1):=hcp.trans ((Ai).trans (Ai));have hbw:=hsane hbad;have HWf:=A0 hbw.2;have hbs:=hbw.1;go_wp2_with fail
    generalize (w2.setCell ⟨w1.heap.size,0,none⟩ (.i 0)).setCell ⟨w1.heap.size,1,none⟩ (.i 0)=w3 at *;have ls3:=hB3.size;refine(Afv r.1 HWf.o _ w3 pb pa pn pc cs hpb3 hpo3 hrep3 z4ma).mono ?_;rintro e w4 ⟨rfl,Bz⟩;have hR4:=Gn Bz Ki;have D6:Bw w w4:=hB3.trans (Bz.mono ls3);have Jk:∀g,w.heap.size<g->g<w3.heap.size->w4.heap[g]?=w3.heap[g]?/\w.heap.size<g:=fun g h1 h2=>⟨Bz.block g h2,h1⟩;have HPo:=hpo3.keep Jk;have HRep:=Ar.keep Jk _ _ hrep3;have HPb:=Gn Bz hpb3;have ls4:=Bz.size;obtain⟨x0,x1,fx,lx⟩:=K9 hR4;by_cases hs:(G2 (Cr r.1) r.1 [] [] (0,0)).1=0
    ·rw[hs];have HE:Hid (Gu l=((0,0),some r.1)):=HCp2.trans (Ai);have HLpT:=A0 (Ar6 _ _ _ _ _ hs).2;generalize hfl:(G2 (Cr r.1) r.1 [] [] (0,0)).2=fl at *;go_wp2;refine B9 (v:=.tuple #[.p pb,.agg #[.i 0,.i 0]]) z5la rfl ?_;have hk5:∀g,w.heap.size<g->g<w4.heap.size->(((w4.setCell ⟨w.heap.size,0,none⟩ (.i 0)).setCell ⟨w.heap.size,1,none⟩ (.i 0)).alloc (.cells #[.i 0,.n fl] 50)).heap[g]?=w4.heap[g]?/\w.heap.size<=g:=by
      intro g h1 h2;rw[Ck _ _ _ z4sa,Bh _ _ _ _ z5ua,Bh _ _ _ _ z5ua];exact⟨rfl,by omega⟩
     refine⟨?_,.inr ⟨r.1,pb,pa,pn,pc,cs,HE.o,HLpT.o,rfl,by omega,(hk5 pb hpb1' (A6 HPb)).1.trans HPb,HPo.keep hk5,Ar.keep hk5 _ _ HRep,HWf.o,hbs⟩⟩;repeat (first|exact D6|refine Ah ?_ z4sa _|refine B0 ?_ z4qa _|refine B0 ?_ z4ra _|refine B8 ?_)
    ·have HE:Hid (Gu l=(G2 (Cr r.1) r.1 [] [] (0,0),none)):=HCp2.trans (A7 hs);generalize hfl:G2 (Cr r.1) r.1 [] [] (0,0)=fl at *;have t4:((fl.1:Int)==0)=false:=kn0 hs;go_wp2;go_region
     all_goals go_wp2
     all_goals refine B9 (v:=.tuple #[.pointer none,.agg #[.n fl.1,.n fl.2]]) z5la rfl ?_
     all_goals refine⟨?_,.inl (by rw[HE.o];exact⟨hs,rfl⟩)⟩
     all_goals repeat (first|exact D6|refine Ah ?_ z4sa _|refine B0 ?_ z4qa _|refine B0 ?_ z4ra _|refine B8 ?_)
def Tp(E:Nat->Prop)(w:World)(gb:Nat)(P:C5):Prop:=∃pb,E gb/\w.heap[gb]?=some (.cells #[.p pb] 92 (0,0))/\M0 E w pb P
def A3x(l:List UInt8)(w:World)(e:Ending)(w':World):Prop:=
 Bw w w'/\(((Gu l).1.1≠0/\e=.returned (.tuple #[.pointer none,.agg #[.n ((Gu l).1.1),.n ((Gu l).1.2)]]))\/
  ∃c gb E,Gu l=((0,0),some c)/\Q5 c/\Wf 4 c/\bsize c<=4002/\e=.returned (.tuple #[.p gb,.agg #[.i 0,.i 0]])/\Tp E w' gb (Fo c)/\(∀g,E g->w.heap.size<=g/\g<w'.heap.size))
def M0.keep{E E':Nat->Prop}{w w':World}{pb:Nat}{P:C5}(h:M0 E w pb P)(hk:∀g,E g->g<w.heap.size->w'.heap[g]?=w.heap[g]?/\E' g):M0 E' w' pb P:=by
 obtain⟨sa,sn,sc,ha,hn,hc,ms,h0,h1,h2,h3,h4⟩:=h;exact⟨sa,sn,sc,ha,hn,hc,ms,(hk pb h0 (A6 h1)).2,(hk pb h0 (A6 h1)).1.trans h1,h2.keep hk,h3.keep hk,h4.keep hk⟩
def A56(l:List UInt8)(hP:l.length<=2000->Xf l)(w:World)(hg:K6 w)(hw:4<=w.heap.size) :
  Calls Tryz.prog 22 #[.s l] w (A3x l w):=by
 have HRt:=Aqa l hP (w.alloc (.cells #[.i 0,.i 0] 50)) (hg.below (Ah (Al _ _) (Af _) _)) z4qa;go_in;go_wp2_with fail
 refine HRt.mono ?_;rintro e w1 ⟨A2,⟨hf,rfl⟩|⟨c,pb,va,vn,vc,cs,hcp,hlpt,rfl,hpb,hpc,hpo,hrep,hwf,hbs⟩⟩
 ·have hR:=Gn A2 (Bp w (.cells #[.i 0,.i 0] 50));have A9:Hid (Bw w w1):=Ib (Ah (Al _ _) (Af _) _) (A2.mono z4ra);obtain⟨x0,x1,fx,lx⟩:=K9 hR;generalize hfl:(Gu l).1=fl at *;have t4:((fl.1:Int)==0)=false:=kn0 hf;go_wp2;go_region
  all_goals go_wp2
  all_goals refine B9 (v:=.tuple #[.pointer none,.agg #[.n fl.1,.n fl.2]]) (by simp[results,Tryz.results22,go_sem,x0,x1,lx]) rfl ?_
  all_goals refine⟨?_,.inl (by rw[hfl];exact⟨hf,rfl⟩)⟩
  all_goals repeat (first|exact A9.o|refine Ah ?_ z4sa _|refine B0 ?_ z4qa _|refine B0 ?_ z4ra _|refine B8 ?_)
 ·have hR:=Gn A2 (Bp w (.cells #[.i 0,.i 0] 50));have A9:Hid (Bw w w1):=Ib (Ah (Al _ _) (Af _) _) (A2.mono z4ra);have ls1:=A2.size;rw[K3]at ls1;have HPo:=A0 hpo;have HRep:=A0 hrep;obtain⟨x0,x1,fx,lx⟩:=K9 hR;have D4:∀g,w.heap.size+1<=g->g<w1.heap.size->(w1.alloc (.cells #[.i 0,.i 0] 50)).heap[g]?=w1.heap[g]?/\g<w1.heap.size+1:=fun g _ h2=>⟨Ck _ _ _ h2,by omega⟩;have hsz9:(w.alloc (.cells #[.i 0,.i 0] 50)).heap.size=w.heap.size+1:=by simp
  rw[hsz9]at HPo HRep;have lpb:=A6 hpc;have HEp:=Ahv c hwf hlpt (fun g=>g<w1.heap.size+1) (w1.alloc (.cells #[.i 0,.i 0] 50)) pb va vn vc cs z4ma (fun g hg=>by simp;exact hg) (alloc_old hpc) (HPo.o.keep D4) (Ar.keep D4 _ _ HRep.o) z4ma;go_wp2_with fail
  refine HEp.mono ?_;rintro r w4 ⟨eb,E,rfl,hprg,hE,Bz⟩;have hR4:=(Bz.block w.heap.size (by show w.heap.size<_;omega)).trans (alloc_old hR);have hB4:Bw w w4:=⟨Bz.os.trans A9.o.os,Bz.tape.trans A9.o.tape,Bz.output.trans A9.o.output,by have:=Bz.size;have:=A9.o.size;simp at *;omega,fun k hk=>(Bz.block k (by show k<_;omega)).trans ((Ck _ _ _ z4ma).trans (A9.o.block k hk))⟩;have He:=Bz.size;rw[K3]at He;obtain⟨x0,x1,fx,lx⟩:=K9 hR4;go_wp2;refine B9 (v:=.tuple #[.p w4.heap.size,.agg #[.i 0,.i 0]]) (by simp[results,Tryz.results22,go_sem,x0,x1,lx]) rfl ?_;have hk5:∀g,E g->g<w4.heap.size->(((w4.setCell ⟨w.heap.size,0,none⟩ (.i 0)).setCell ⟨w.heap.size,1,none⟩ (.i 0)).alloc (.cells #[.p eb] 92)).heap[g]?=w4.heap[g]?/\(E g\/g=w4.heap.size):=by
   intro g hg hl;have h1:¬g<w1.heap.size+1:=(hE g hg).1;rw[Ck _ _ _ (by simp[World.setCell];exact hl),Bh _ _ _ _ z5ua,Bh _ _ _ _ z5ua];exact⟨rfl,.inl hg⟩
  refine⟨?_,.inr ⟨c,w4.heap.size,fun g=>E g\/g=w4.heap.size,hcp,hlpt,hwf,hbs,rfl,⟨eb,.inr rfl,?_,hprg.keep hk5⟩,?_⟩⟩
  ·repeat (first|exact hB4|refine Ah ?_ z4sa _|refine B0 ?_ z4ra _)
  ·have:=Bp ((w4.setCell ⟨w.heap.size,0,none⟩ (.i 0)).setCell ⟨w.heap.size,1,none⟩ (.i 0)) (.cells #[.p eb] 92);simpa [World.setCell]using this
  ·intro g hg;rcases hg with hg|hg
   ·have h1:¬g<w1.heap.size+1:=(hE g hg).1;have h2:=(hE g hg).2;exact⟨by omega,by simp[World.setCell];omega⟩
   ·subst hg;exact⟨by omega,by simp[World.setCell]⟩
