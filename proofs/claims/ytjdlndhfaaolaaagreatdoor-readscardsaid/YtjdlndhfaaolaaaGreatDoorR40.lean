import Derived.Test.YtjdlndhfaaolaaaGreatDoorR28
import Derived.Test.YtjdlndhfaaolaaaGreatDoorR34
import Derived.Test.YtjdlndhfaaolaaaGreatDoorR35
set_option maxHeartbeats 20000000
namespace Go.Proofs.YtjdlndhfaaolaaaGreatDoor
section
set_option maxRecDepth 100000
open Go.RowKit
open Go.Deep (BT)
theorem Aav(fns:List (Nm×Nat))(l:A2)(c:BT A2)(outer cur:List Nm)(wh:Nat)(inn:Bool)(f:B3)(h:l.kd=7):Ag fns (nd l c) outer cur wh inn f=Ag fns c outer cur wh inn (Bu (Ky fns l.s (A8 c)) 3 l.line f):=by
 unfold nd;rw[Ag,if_neg (by omega),if_neg (by omega),if_neg (by omega)];simp only[h,Ag];rfl
theorem A2y{fns:List (Nm×Nat)}{s:Nm}(n:Nat)(h:∀j,∀h:j<fns.length,fns[j].1≠s):Ky fns s n=true:=by
 unfold Ky;rw[Ys fns s h]
theorem A2z{fns:List (Nm×Nat)}{s:Nm}(n i:Nat)(h:i<fns.length)(e:fns[i].1=s)(hno:∀j,j<i->∀h':j<fns.length,fns[j].1≠s):Ky fns s n=(fns[i].2 !=n):=by
 unfold Ky;rw[Yr fns s i h e hno]
theorem A7j(K:Ctx)(l:A2)(c:BT A2)(hkd:l.kd=7)(hok:Mc K c)(hshp:Hs c)(F2:Dq c):Lo K l c:=by
 have J4:l.kd≠32:=by omega
 have hI:Dy l.kd=[99,97,108,108]:=by rw[hkd];rfl
 have hsens:=fun(outer cur:List Nm) (wh:Nat) (inn:Bool) (f:B3)=>Aav K.fns l c outer cur wh inn f (hkd);intro D w outer ob cur blk wh inn f ln nn S va vn vc pa pn pc c1 hst hrt A3 A9 Ar;have Ig:wh+Cy l.kd=wh:=by unfold Cy;rw[if_neg J4];rfl
 rw[Ig]at hst ⊢;rw[hI];clear hI;have HSens:=A0 (hsens outer cur wh inn f);have Dk:=A0 hst;have Gg:=A0 hrt;have E9:=A0 (hst.Lw (.cells #[.string ⟨#[99,97,108,108]⟩,.int .i64 ln,.string ⟨S.toArray⟩,.int .i64 nn,.slice va vn vc,.slice pa pn pc] 77));have HOk:=A0 hok;have HShp:=A0 hshp;have HT:=A0 F2;have hvn:vn=A8 c:=(C9 hrt.own.1).1;have hbls:=Kl c;have hnds:=B8 l c;have Ie:Ji (fun g=>D g\/g=w.heap.size) (w.alloc (.cells #[.string ⟨#[99,97,108,108]⟩,.int .i64 ln,.string ⟨S.toArray⟩,.int .i64 nn,.slice va vn vc,.slice pa pn pc] 77)) l c ln nn S va vn vc pa pn pc c1:=hrt.keep (fun g hg hl=>⟨Below.heap_alloc _ _ _ hl,.inl hg⟩);have HRt1':=A0 Ie;subst hvn;obtain⟨w1,Bm⟩:∃w1,w1=w.alloc (.cells #[.string ⟨#[99,97,108,108]⟩,.int .i64 ln,.string ⟨S.toArray⟩,.int .i64 nn,.slice va (A8 c) vc,.slice pa pn pc] 77):=⟨_,rfl⟩;have Hr:Hid (Ji (fun g=>D g\/g=w.heap.size) w1 l c ln nn S va (A8 c) vc pa pn pc c1):=by rw[Bm];exact HRt1'.o
 have Ea:Hid (w1.heap[w.heap.size]?=some (.cells #[.string ⟨#[99,97,108,108]⟩,.int .i64 ln,.string ⟨S.toArray⟩,.int .i64 nn,.slice va (A8 c) vc,.slice pa pn pc] 77)):=by show _=_;rw[Bm];exact heap_alloc_new w (.cells #[.string ⟨#[99,97,108,108]⟩,.int .i64 ln,.string ⟨S.toArray⟩,.int .i64 nn,.slice va (A8 c) vc,.slice pa pn pc] 77)
 have Br:Hid (A4 D w w1):=by rw[Bm];exact Md Dk.o (.cells #[.string ⟨#[99,97,108,108]⟩,.int .i64 ln,.string ⟨S.toArray⟩,.int .i64 nn,.slice va (A8 c) vc,.slice pa pn pc] 77)
 have HEq:=A0 Bm;have hsw1:w1.heap.size=w.heap.size+1:=by rw[Bm];simp
 have K4:=A0 Gg.o.line;have HNm0:=A0 Gg.o.name;clear hsens hst hrt Ie hok hshp F2 Ig J4 Bm HRt1' Gg;have hln:ln=l.line:=K4.o (by rw[hkd];rfl);have hS:S=l.s:=HNm0.o (by rw[hkd];rfl);have HS:=A0 hS;have HLn:=A0 hln;clear hS hln;clear hkd K4 HNm0;have HStA:Hid (K.St (fun g=>D g\/g=w.heap.size) w1 outer ob cur blk wh inn f):=by rw[HEq.o];exact E9.o
 obtain⟨na,nm,nc,ba,bm,bc,bs,hss⟩:=HStA.o.st;obtain⟨y0,y1,y2,y3,y4,y5,y6,y7,fy,ly⟩:=Gn hss.cell;obtain⟨x0,x1,x2,x3,x4,x5,fX,lX⟩:=As Ea.o;have hfr:=HStA.o.fr;have z0:=Ac hfr.cell 0 _ rfl;have z1:=Ac hfr.cell 1 _ rfl;have lz:=A5 hfr.cell;have hfl:=hfr.len;have hff:=hfr.few;have HFr2:=A0 (hfr.keep (w':=w1.drew) ⟨rfl,rfl,rfl,Nat.le_refl _,fun _ _=>rfl⟩);clear hss hfr;go_enter Tryz.func64,Tryz.ntmps64;go_wp2;rw[←HEq.o];refine Mu 6 (by kernel_rfl) (by kernel_rfl) ?_;simp only[List.take_succ_cons,List.take_zero,List.drop_succ_cons,List.drop_zero];iterate 6 (refine Gv (fun K' hK'=>?_);go_simp;refine hK' _ ?_;clear hK' K')
 refine Mt ?_;go_wp2_with fail
 refine(Yx HFr2.o S).mono ?_;rintro e w' ⟨q,rfl,hq,rfl⟩;have HQ:=A0 hq;clear hq x0 x1 x2 x3 x4 x5 fX lX;have hq:=HQ.o;have HStB:=A0 (HStA.o.keep (w':=w1.drew) (fun _ _=>rfl) ⟨rfl,rfl,rfl,Nat.le_refl _,fun _ _=>rfl⟩);have HBB:Hid (A4 (fun g=>D g\/g=w.heap.size) w1 w1.drew):=⟨rfl,rfl,rfl,Nat.le_refl _,fun _ _=>rfl⟩;clear HQ E9 HStA y0 y1 y2 y3 y4 y5 y6 y7 fy ly z0 z1 lz;go_wp2;generalize w1.drew=w2 at *;obtain⟨na',nm',nc',ba',bm',bc',bs',hss'⟩:=HStB.o.st;obtain⟨y0,y1,y2,y3,y4,y5,y6,y7,fy,ly⟩:=Gn hss'.cell;obtain⟨x0,x1,x2,x3,x4,x5,fX,lX⟩:=As ((HBB.o.block w.heap.size (.inr rfl)).trans Ea.o);have z0:=Ac HFr2.o.cell 0 _ rfl;have z1:=Ac HFr2.o.cell 1 _ rfl;have lz:=A5 HFr2.o.cell;clear hss';rcases hq with⟨i,hi,rfl,he,hno⟩|⟨hqe,hno⟩
 ·have HCB:=A0 (A2z (A8 c) i hi he hno);obtain⟨g,hfa,hDg,lg,hcp,v2,pa',pc',v5⟩:=HFr2.o.at' i hi;have tN:(((K.fns[i].2:Nat):Int) !=((A8 c:Nat):Int))=(K.fns[i].2 !=A8 c):=by
   rw[Bool.eq_iff_iff,bne_iff_ne,bne_iff_ne];omega
  rw[hfa]at z1;clear he hno v2;generalize hm:K.fns[i].2=m at *;generalize hb:(m !=A8 c)=bb at *;have HBm:=A0 hb;clear hm hb;have hng:(decide ((i:Int)<0)||bb)=bb:=by
   have:¬((i:Int)<0):=by omega
   rw[decide_eq_false this];rfl
  have HNg:=A0 hng;clear hng;refine Mu 23 (by kernel_rfl) (by kernel_rfl) ?_;simp only[List.take_succ_cons,List.take_zero,List.drop_succ_cons,List.drop_zero];iterate 23 (refine Gv (fun K' hK'=>?_);go_simp;refine hK' _ ?_;clear hK' K')
  refine Mt ?_;go_wp2_with fail
  rw[HNg.o];refine(Nz (HStB.o.st.keep (w':=w2.drew) (fun _ _=>rfl)) (bb) 3 l.line _ _ rfl HLn.o).mono ?_;rintro e w3 ⟨rfl,At,hb3'⟩;rw[←HCB.o,HS.o]at At;have Ai:Hid (A4 (fun g=>D g\/g=w.heap.size) w1 w3):=HBB.o.trans ⟨hb3'.os,hb3'.tape,hb3'.output,hb3'.size,hb3'.block⟩;have Et:=A0 (HStB.o.next At ⟨hb3'.os,hb3'.tape,hb3'.output,hb3'.size,hb3'.block⟩);clear At hb3' y0 y1 y2 y3 y4 y5 y6 y7 fy ly x0 x1 x2 x3 x4 x5 fX lX z0 z1 lz;go_wp2;go_loopg [7] (A8 c) (fun k v wr=>∃(n:Nat) (cn:List Nm) (fn:B3),v=.int .i64 n/\n+k=A8 c/\cn.length+bsize (Au n c)<=(cur).length+bsize c/\K.St (fun g=>D g\/g=w.heap.size) wr outer ob cn blk wh inn fn/\Ag K.fns (Au n c) outer cn wh inn fn=Ag K.fns c outer (cur) wh inn (Bu (Ky K.fns l.s (A8 c)) 3 l.line f)/\A4 (fun g=>D g\/g=w.heap.size) w1 wr)
  case atStart=>exact⟨0,cur,Bu (Ky K.fns l.s (A8 c)) 3 l.line f,rfl,by omega,Nat.le_refl _,Et.o,rfl,Ai.o⟩
  case round=>
   clear Et Ai;obtain⟨n,cn,fn,rfl,hnk,hcn,hst,hse,hbel⟩:=hrel;have hX:=(hbel.block w.heap.size (.inr rfl)).trans Ea.o;obtain⟨x0,x1,x2,x3,x4,x5,fX,lX⟩:=As hX;have HSt:=A0 hst;have HSe:=A0 hse;have HBel:=A0 hbel;clear hst hse hbel;by_cases hlt:n<A8 c
   ·have hk:∀g,(D g\/g=w.heap.size)->g<w1.heap.size->wr.heap[g]?=w1.heap[g]?/\(D g\/g=w.heap.size):=fun g hg _=>⟨HBel.o.block g hg,hg⟩;obtain⟨x,y,l',cc,r,hd,ln',mm,S',Ev,G2,Ew,Eg,Gd,Eh,c2,hrt,k0,k1,k2,k3,k4,k5⟩:=Ak.at' n c c1 HShp.o (Ak.keep hk _ _ Hr.o.kids) hlt;obtain⟨g,rfl,_,hcap,lg,hcell⟩:=Fs (Hr.o.own.keep hk).1 (by omega);have d0:=hcell _ _ k0;have d1:=hcell _ _ k1;have d2:=hcell _ _ k2;have d3:=hcell _ _ k3;have d4:=hcell _ _ k4;have d5:=hcell _ _ k5;have h32:l'.kd≠32:=by have:=N2 n c HT.o;rw[hd]at this;exact this.1
    have hw:wh+Cy l'.kd=wh:=by unfold Cy;rw[if_neg h32];rfl
    have hsz:bsize (Au n c)=bsize (nd l' cc)+bsize r:=by rw[hd,B8,bsize]
    have hdn:=M4 n c;have HNd:=A0 (HOk.o n x y l' cc r hd);have HDs:=A0 (Ko n c x y l' cc r hd);have HRt:=A0 hrt;have HSx:=A0 ((congrArg (fun q=>Ag K.fns q outer cn wh inn fn) hd).trans (Mi K.fns x y l' cc r outer cn wh inn fn));have hcur:=M8 K.fns (nd l' cc) outer cn wh inn fn;have HW:=A0 hw;clear hcell hd hrt hw h32;clear k0 k1 k2 k3 k4 k5;go_wp2_with fail
    refine(HNd.o _ wr outer ob cn blk wh inn fn ln' mm S' Ev G2 Ew Eg Gd Eh c2 (by rw[HW.o];exact HSt.o) HRt.o (by simp only[List.length_append]at A3 ⊢;omega) (by omega) (by omega)).mono ?_;rintro e w3 ⟨rfl,At,Fi⟩;rw[HW.o]at At;have Hf:=A0 At;have B4:Hid (A4 (fun g=>D g\/g=w.heap.size) w1 w3):=HBel.o.trans Fi;clear At Fi;go_wp2;go_roundg (gk-1)
    case measure=>omega
    case rel=>exact⟨n+1,_,_,rfl,by omega,by rw[HDs.o];omega,Hf.o,by rw[HDs.o,←HSx.o];exact HSe.o,B4.o⟩
   ·have HE:Hid ((cn,fn)=Ag K.fns c outer (cur) wh inn (Bu (Ky K.fns l.s (A8 c)) 3 l.line f)):=by
     have h0:Au n c=.nil:=Ms _ (by rw[L4];omega);have:=HSe.o;rw[h0]at this;exact this
    clear HSe;go_wp2;go_end0;have hbl:=Br.o.trans (HBel.o.weak (fun g hg=>.inl hg));rw[HSens.o,←HE.o];exact⟨rfl,Dk.o.back HSt.o.st hbl,hbl⟩
 ·have HCB:=A0 (A2y (A8 c) hno);clear hno;have hneg:decide (q<0)=true:=by rw[hqe];rfl
  clear hqe;refine Mu 23 (by kernel_rfl) (by kernel_rfl) ?_;simp only[List.take_succ_cons,List.take_zero,List.drop_succ_cons,List.drop_zero];iterate 3 (refine Gv (fun K' hK'=>?_);go_simp;refine hK' _ ?_;clear hK' K')
  refine A2t (.tmp 51) (fun K' hK'=>?_) (by kernel_rfl) (by kernel_rfl);go_simp;refine hK' _ ?_;clear hK' K';iterate 16 (refine A2u (fun K' hK'=>?_) (by kernel_rfl);go_simp;refine hK' _ ?_;clear hK' K')
  iterate 3 (refine Gv (fun K' hK'=>?_);go_simp;refine hK' _ ?_;clear hK' K')
  refine Mt ?_;go_wp2_with fail
  refine(Nz (HStB.o.st.keep (w':=w2.drew) (fun _ _=>rfl)) (true) 3 l.line _ _ rfl HLn.o).mono ?_;rintro e w3 ⟨rfl,At,hb3'⟩;rw[←HCB.o,HS.o]at At;have Ai:Hid (A4 (fun g=>D g\/g=w.heap.size) w1 w3):=HBB.o.trans ⟨hb3'.os,hb3'.tape,hb3'.output,hb3'.size,hb3'.block⟩;have Et:=A0 (HStB.o.next At ⟨hb3'.os,hb3'.tape,hb3'.output,hb3'.size,hb3'.block⟩);clear At hb3' y0 y1 y2 y3 y4 y5 y6 y7 fy ly x0 x1 x2 x3 x4 x5 fX lX z0 z1 lz;go_wp2;go_loopg [7] (A8 c) (fun k v wr=>∃(n:Nat) (cn:List Nm) (fn:B3),v=.int .i64 n/\n+k=A8 c/\cn.length+bsize (Au n c)<=(cur).length+bsize c/\K.St (fun g=>D g\/g=w.heap.size) wr outer ob cn blk wh inn fn/\Ag K.fns (Au n c) outer cn wh inn fn=Ag K.fns c outer (cur) wh inn (Bu (Ky K.fns l.s (A8 c)) 3 l.line f)/\A4 (fun g=>D g\/g=w.heap.size) w1 wr)
  case atStart=>exact⟨0,cur,Bu (Ky K.fns l.s (A8 c)) 3 l.line f,rfl,by omega,Nat.le_refl _,Et.o,rfl,Ai.o⟩
  case round=>
   clear Et Ai;obtain⟨n,cn,fn,rfl,hnk,hcn,hst,hse,hbel⟩:=hrel;have hX:=(hbel.block w.heap.size (.inr rfl)).trans Ea.o;obtain⟨x0,x1,x2,x3,x4,x5,fX,lX⟩:=As hX;have HSt:=A0 hst;have HSe:=A0 hse;have HBel:=A0 hbel;clear hst hse hbel;by_cases hlt:n<A8 c
   ·have hk:∀g,(D g\/g=w.heap.size)->g<w1.heap.size->wr.heap[g]?=w1.heap[g]?/\(D g\/g=w.heap.size):=fun g hg _=>⟨HBel.o.block g hg,hg⟩;obtain⟨x,y,l',cc,r,hd,ln',mm,S',Ev,G2,Ew,Eg,Gd,Eh,c2,hrt,k0,k1,k2,k3,k4,k5⟩:=Ak.at' n c c1 HShp.o (Ak.keep hk _ _ Hr.o.kids) hlt;obtain⟨g,rfl,_,hcap,lg,hcell⟩:=Fs (Hr.o.own.keep hk).1 (by omega);have d0:=hcell _ _ k0;have d1:=hcell _ _ k1;have d2:=hcell _ _ k2;have d3:=hcell _ _ k3;have d4:=hcell _ _ k4;have d5:=hcell _ _ k5;have h32:l'.kd≠32:=by have:=N2 n c HT.o;rw[hd]at this;exact this.1
    have hw:wh+Cy l'.kd=wh:=by unfold Cy;rw[if_neg h32];rfl
    have hsz:bsize (Au n c)=bsize (nd l' cc)+bsize r:=by rw[hd,B8,bsize]
    have hdn:=M4 n c;have HNd:=A0 (HOk.o n x y l' cc r hd);have HDs:=A0 (Ko n c x y l' cc r hd);have HRt:=A0 hrt;have HSx:=A0 ((congrArg (fun q=>Ag K.fns q outer cn wh inn fn) hd).trans (Mi K.fns x y l' cc r outer cn wh inn fn));have hcur:=M8 K.fns (nd l' cc) outer cn wh inn fn;have HW:=A0 hw;clear hcell hd hrt hw h32;clear k0 k1 k2 k3 k4 k5;go_wp2_with fail
    refine(HNd.o _ wr outer ob cn blk wh inn fn ln' mm S' Ev G2 Ew Eg Gd Eh c2 (by rw[HW.o];exact HSt.o) HRt.o (by simp only[List.length_append]at A3 ⊢;omega) (by omega) (by omega)).mono ?_;rintro e w3 ⟨rfl,At,Fi⟩;rw[HW.o]at At;have Hf:=A0 At;have B4:Hid (A4 (fun g=>D g\/g=w.heap.size) w1 w3):=HBel.o.trans Fi;clear At Fi;go_wp2;go_roundg (gk-1)
    case measure=>omega
    case rel=>exact⟨n+1,_,_,rfl,by omega,by rw[HDs.o];omega,Hf.o,by rw[HDs.o,←HSx.o];exact HSe.o,B4.o⟩
   ·have HE:Hid ((cn,fn)=Ag K.fns c outer (cur) wh inn (Bu (Ky K.fns l.s (A8 c)) 3 l.line f)):=by
     have h0:Au n c=.nil:=Ms _ (by rw[L4];omega);have:=HSe.o;rw[h0]at this;exact this
    clear HSe;go_wp2;go_end0;have hbl:=Br.o.trans (HBel.o.weak (fun g hg=>.inl hg));rw[HSens.o,←HE.o];exact⟨rfl,Dk.o.back HSt.o.st hbl,hbl⟩
end
section
open Go.RowKit
open Go.Deep (BT)
theorem A6h:∀kd,kd<=140->Mw kd=true->kd=8\/Q8 kd=true\/kd=6\/kd=7\/kd=21\/kd=23\/kd=24\/kd=25\/kd=26\/kd=28\/kd=31\/kd=32:=by decide +kernel
theorem Zo{kd:Nat}(h:Mw kd=true):kd<=140:=by
 unfold Mw at h;simp only[Bool.or_eq_true,Bool.and_eq_true,decide_eq_true_eq]at h;omega
theorem Yw(K:Ctx):∀f:BT A2,Hs f->Kd f->Mc K f:=by
 intro f;induction f with
 | nil=>
  intro _ _ i x y l c r hd;cases i <;> (rw[Au]at hd;cases hd)
 | node x y l c r C2 Bl=>
  intro hs hk i x' y' l' c' r' hd;cases i with
  | succ i=>rw[Au]at hd;exact Bl hs.2.2.2.2 hk.2.2 i x' y' l' c' r' hd
  | zero=>
   rw[Au]at hd;injection hd with _ _ e1 e2 _;subst e1 e2;have hok:=C2 hs.2.2.2.1 hk.2.1;have hsc:=hs.2.2.2.1;have ht:l.kd≠23->Dq c:=hs.2.2.1;rcases A6h l.kd (Zo hk.1) hk.1 with h|h|h|h|h|h|h|h|h|h|h|h
   ·exact absurd h hs.1
   ·exact A7k K l c h hok hsc (ht (by intro e;rw[e]at h;exact absurd h (by decide)))
   ·exact A7i K l c h hok hsc (ht (by omega))
   ·exact A7j K l c h hok hsc (ht (by omega))
   ·exact A7a K l c h hok hsc (ht (by omega))
   ·obtain⟨x1,y1,l1,c1,x2,y2,l2,c2,e,h1,h2⟩:=hs.2.1 h;exact A7b K l c h x1 y1 l1 c1 x2 y2 l2 c2 e h1 h2 (hok 0 x1 y1 l1 c1 _ (by rw[e];rfl)) (hok 1 x2 y2 l2 c2 .nil (by rw[e];rfl)) hsc
   ·exact A7c K l c h hok hsc (ht (by omega))
   ·exact A7d K l c h hok hsc (ht (by omega))
   ·exact A7e K l c h hok hsc (ht (by omega))
   ·exact A7f K l c h hok hsc (ht (by omega))
   ·exact A7g K l c h hok hsc (ht (by omega))
   ·exact A7h K l c h hok hsc (ht (by omega))
end
section
set_option maxRecDepth 100000
open Go.RowKit
open Go.Deep (BT)
theorem Yt:∀kd,kd<=140->(kd=20\/Mw kd=true)->kd≠20->(Dy kd==[102,110])=false:=by decide +kernel
theorem Zz(K:Ctx):∀(i:Nat) (c:BT A2),Hs c->Jh c->∀x y l cc r,Au i c=.node x y l cc r->l.kd<=140/\(l.kd=20\/Mw l.kd=true)/\(l.kd=20->Mc K cc/\Hs cc/\Dq cc)/\(l.kd≠20->Lo K l cc):=by
 intro i;induction i with
 | zero=>
  intro c hs hk x y l cc r hd;rw[show Au 0 c=c from by cases c <;> rfl]at hd;subst hd;refine⟨?_,hk.1,fun h=>⟨Yw K cc hs.2.2.2.1 hk.2.1,hs.2.2.2.1,hs.2.2.1 (by omega)⟩,fun h=>?_⟩
  ·rcases hk.1 with h|h
   ·omega
   ·exact Zo h
  ·have ho:Mw l.kd=true:=hk.1.resolve_left h;exact Yw K (.node x y l cc .nil) ⟨hs.1,hs.2.1,hs.2.2.1,hs.2.2.2.1,trivial⟩ ⟨ho,hk.2.1,trivial⟩ 0 x y l cc .nil rfl
 | succ i ih=>
  intro c hs hk x y l cc r hd;cases c with
  | nil=>rw[Au]at hd;cases hd
  | node x' y' l' c' r'=>rw[Au]at hd;exact ih r' hs.2.2.2.2 hk.2.2 x y l cc r hd
theorem A1n(K:Ctx)(c:BT A2)(c1:List Value)(D:Nat->Prop)(w:World)(f:B3)(hst:K.St D w [] [] [] 0 0 false f)(hown:C1 D w 77 6 (.slice K.la K.ln K.lc) (A8 c) c1)(hrep:Ak D w c c1)(hshp:Hs c)(F2:Dq c)(hkd:Jh c)(hfns:K.fns=Bf c)(hb:bsize c<=99000) :
  Calls Tryz.prog 46 #[.pointer (some ⟨K.sb,0,none⟩)] w fun e w'=>e=.returned (.tuple #[])/\∃cur,K.St D w' [] [] cur 0 0 false (Dj K.fns c [] [] f)/\A4 D w w':=by
 have Dk:=A0 hst;have HOwn:=A0 hown;have HRep:=A0 hrep;have HShp:=A0 hshp;have HT:=A0 F2;have HKd:=A0 hkd;have HFns:=A0 hfns;have hbls:=Kl c;have hln:K.ln=A8 c:=(C9 hown.1).1;have HLn:=A0 hln;have hlo:=hst.lo;clear hst hown hrep hshp F2 hkd hfns hln;go_enter Tryz.func46,Tryz.ntmps46;go_wp2;go_loopg [2,3] (A8 c) (fun k vn vi wr=>∃(i n:Nat) (cn:List Nm) (fl:B3),vn=.int .i64 n/\vi=.int .i64 i/\i+k=A8 c/\n<=i/\cn.length+bsize (Au i c)<=bsize c/\K.St D wr [] [] cn 0 0 false fl/\K.fns.drop n=Bf (Au i c)/\Dj K.fns (Au i c) ((K.fns.take n).map (·.1)) cn fl=Dj K.fns c [] [] f/\A4 D w wr)
 case atStart=>exact⟨0,0,[],f,rfl,rfl,by omega,Nat.le_refl _,by simp[Au],Dk.o,HFns.o,rfl,A4.refl _ _⟩
 case round=>
  clear Dk;obtain⟨i,n,cn,fl,rfl,rfl,hik,hni,hcn,hst,hdr,hse,hbel⟩:=hrel;obtain⟨na,nm,nc,ba,bm,bc,bs,hss⟩:=hst.st;obtain⟨y0,y1,y2,y3,y4,y5,y6,y7,fy,ly⟩:=Gn hss.cell;have z0:=Ac hst.fr.cell 0 _ rfl;have z1:=Ac hst.fr.cell 1 _ rfl;have lz:=A5 hst.fr.cell;have hlow:=hst.lo;rw[HLn.o]at z0;have HSS:=A0 hss;have HSt:=A0 hst;have HSe:=A0 hse;have HBel:=A0 hbel;have HDr:=A0 hdr;clear hst hse hbel hdr hss;by_cases hlt:i<A8 c
  ·have hk:∀g,D g->g<w.heap.size->wr.heap[g]?=w.heap[g]?/\D g:=fun g hg _=>⟨HBel.o.block g hg,hg⟩;obtain⟨x,y,l,cc,r,hd,ln',mm,S',Ev,G2,Ew,Eg,Gd,Eh,c2,hrt,k0,k1,k2,k3,k4,k5⟩:=Ak.at' i c c1 HShp.o (Ak.keep hk _ _ HRep.o) hlt;obtain⟨g,hla,_,hcap,lg,hcell⟩:=Fs (HOwn.o.keep hk).1 (by omega);rw[hla]at z0;have d0:=hcell _ _ k0;have d1:=hcell _ _ k1;have d2:=hcell _ _ k2;have d3:=hcell _ _ k3;have d4:=hcell _ _ k4;have d5:=hcell _ _ k5;have hDg:D g:=(HOwn.o.keep hk).2 g (by rw[hla];rfl);have h32:l.kd≠32:=by have:=N2 i c HT.o;rw[hd]at this;exact this.1
   have hsz:bsize (Au i c)=bsize (nd l cc)+bsize r:=by rw[hd,B8,bsize]
   have hdn:=M4 i c;have HDs:=A0 (Ko i c x y l cc r hd);obtain⟨h140,hok,hfn,hst⟩:=Zz K i c HShp.o HKd.o x y l cc r hd;have HFn:=A0 hfn;have HNd:=A0 hst;have HRt:=A0 hrt;have HD:=A0 hd;have HLa:=A0 hla;clear hcell hd hrt hla hfn hst k0 k1 k2 k3 k4 k5;by_cases h20:l.kd=20
   ·have hI:Dy l.kd=[102,110]:=by rw[h20];rfl
    have hIA:(Dy l.kd).toArray=#[102,110]:=by rw[hI]
    rw[hIA]at d0;clear hIA;have HFn':=A0 (HFn.o h20);obtain⟨xs,hxo,hxm⟩:=HRt.o.prm h20;have hvn:G2=A8 cc:=(C9 HRt.o.own.1).1;have hpn:Gd=xs.length:=(C9 hxo.1).1;subst hvn hpn;have hS:S'=l.s:=HRt.o.name (by rw[h20];rfl);have hL:ln'=l.line:=HRt.o.line (by rw[h20];rfl);have hps:l.ps.length=xs.length:=by rw[←hxm];simp
    have hnds:=B8 l cc;obtain⟨hnl,hnf,hdr',htk⟩:=Yv (HDr.o.trans ((congrArg Bf HD.o).trans (T2 x y l cc r h20)));have HNf:=A0 hnf;have HDr':=A0 hdr';have HTk:=A0 htk;have HSx:=A0 ((congrArg (fun q=>Dj K.fns q ((K.fns.take n).map (·.1)) cn fl) HD.o).symm.trans HSe.o);have HSx2:=A0 (Tu K.fns x y l cc r ((K.fns.take n).map (·.1)) cn fl h20);have E9:=A0 (HSt.o.Lw (.cells #[.string ⟨#[102,110]⟩,.int .i64 ln',.string ⟨S'.toArray⟩,.int .i64 mm,.slice Ev (A8 cc) Ew,.slice Eg xs.length Eh] 77));have Ks:∀g,D g->g<wr.heap.size->(wr.alloc (.cells #[.string ⟨#[102,110]⟩,.int .i64 ln',.string ⟨S'.toArray⟩,.int .i64 mm,.slice Ev (A8 cc) Ew,.slice Eg xs.length Eh] 77)).heap[g]?=wr.heap[g]?/\(D g\/g=wr.heap.size):=fun g hg hl=>⟨Below.heap_alloc _ _ _ hl,.inl hg⟩;have HRt1':=A0 (HRt.o.keep Ks);have HXo':=A0 (hxo.keep Ks);obtain⟨w1,Bm⟩:∃w1,w1=wr.alloc (.cells #[.string ⟨#[102,110]⟩,.int .i64 ln',.string ⟨S'.toArray⟩,.int .i64 mm,.slice Ev (A8 cc) Ew,.slice Eg xs.length Eh] 77):=⟨_,rfl⟩;have Ea:Hid (w1.heap[wr.heap.size]?=some (.cells #[.string ⟨#[102,110]⟩,.int .i64 ln',.string ⟨S'.toArray⟩,.int .i64 mm,.slice Ev (A8 cc) Ew,.slice Eg xs.length Eh] 77)):=by show _=_;rw[Bm];exact heap_alloc_new wr (.cells #[.string ⟨#[102,110]⟩,.int .i64 ln',.string ⟨S'.toArray⟩,.int .i64 mm,.slice Ev (A8 cc) Ew,.slice Eg xs.length Eh] 77)
    have Br:Hid (A4 D wr w1):=by rw[Bm];exact Md HSt.o (.cells #[.string ⟨#[102,110]⟩,.int .i64 ln',.string ⟨S'.toArray⟩,.int .i64 mm,.slice Ev (A8 cc) Ew,.slice Eg xs.length Eh] 77)
    have HStA:Hid (K.St (fun g=>D g\/g=wr.heap.size) w1 [] [] cn 0 0 false fl):=by rw[Bm];exact E9.o
    have HOw1:Hid (C1 (fun g=>D g\/g=wr.heap.size) w1 77 6 (.slice Ev (A8 cc) Ew) (A8 cc) c2):=by rw[Bm];exact HRt1'.o.own
    have HRf1:Hid (Ak (fun g=>D g\/g=wr.heap.size) w1 cc c2):=by rw[Bm];exact HRt1'.o.kids
    have HXo1:Hid (C1 (fun g=>D g\/g=wr.heap.size) w1 174 4 (.slice Eg xs.length Eh) xs.length (Jc xs)):=by rw[Bm];exact HXo'.o
    have HEq:=A0 Bm;have hsw1:w1.heap.size=wr.heap.size+1:=by rw[Bm];simp
    have HFr2:=A0 (HStA.o.fr.keep (w':=w1.drew) ⟨rfl,rfl,rfl,Nat.le_refl _,fun _ _=>rfl⟩);have HXm:=A0 hxm;have HS:=A0 hS;have HL:=A0 hL;clear Bm Ks HRt1' HXo' E9 hxo hxm hS hL hnf hdr' htk hI h140 hok HFn HNd;have HK20:=A0 h20;clear h20;go_wp2;rw[←HEq.o];clear y0 y1 y2 y3 y4 y5 y6 y7 fy ly z0 z1 lz d0 d1 d2 d3 d4 d5 HSS na nm nc ba bm bc bs;obtain⟨na,nm,nc,ba,bm,bc,bs,hss⟩:=HStA.o.st;obtain⟨y0,y1,y2,y3,y4,y5,y6,y7,fy,ly⟩:=Gn hss.cell;obtain⟨x0,x1,x2,x3,x4,x5,fX,lX⟩:=As Ea.o;clear hss;go_still_tail 6,(by kernel_rfl)
    go_wp2_with fail
    refine(Yx HFr2.o S').mono ?_;rintro e w' ⟨q,rfl,hq,rfl⟩;rw[HS.o]at hq;have hfs:=A5n hnl (by rw[HNf.o]) hq;have HStB:=A0 (HStA.o.keep (w':=w1.drew) (fun _ _=>rfl) ⟨rfl,rfl,rfl,Nat.le_refl _,fun _ _=>rfl⟩);have HBB:Hid (A4 (fun g=>D g\/g=wr.heap.size) w1 w1.drew):=⟨rfl,rfl,rfl,Nat.le_refl _,fun _ _=>rfl⟩;clear hq HStA y0 y1 y2 y3 y4 y5 y6 y7 fy ly x0 x1 x2 x3 x4 x5 fX lX HFr2 na nm nc ba bm bc bs;generalize hbb:decide (l.s∈(K.fns.take n).map (·.1))=bb at *;have HBb:=A0 hbb;clear hbb;generalize w1.drew=w2 at *;obtain⟨na,nm,nc,ba,bm,bc,bs,hss⟩:=HStB.o.st;obtain⟨y0,y1,y2,y3,y4,y5,y6,y7,fy,ly⟩:=Gn hss.cell;obtain⟨x0,x1,x2,x3,x4,x5,fX,lX⟩:=As ((HBB.o.block wr.heap.size (.inr rfl)).trans Ea.o);clear hss;go_wp2_with fail
    refine(Nz HStB.o.st bb 3 l.line _ _ rfl HL.o).mono ?_;rintro e w3 ⟨rfl,At,Ar⟩;have Hf:=A0 (HStB.o.next At Ar);have B4:Hid (A4 (fun g=>D g\/g=wr.heap.size) w1 w3):=HBB.o.trans Ar;clear y0 y1 y2 y3 y4 y5 y6 y7 fy ly x0 x1 x2 x3 x4 x5 fX lX na nm nc ba bm bc bs At Ar;obtain⟨na,nm,nc,ba,bm,bc,bs,hss⟩:=Hf.o.st;obtain⟨y0,y1,y2,y3,y4,y5,y6,y7,fy,ly⟩:=Gn hss.cell;obtain⟨x0,x1,x2,x3,x4,x5,fX,lX⟩:=As ((B4.o.block wr.heap.size (.inr rfl)).trans Ea.o);have HSS:=A0 hss;have hsbx:K.sb≠wr.heap.size:=fun e=>hss.Di (.inr e);have Dm:Hid (A4 (fun g=>D g\/g=wr.heap.size) w1 (w3.setCell ⟨K.sb,5,none⟩ (.bool true))):=B4.o.trans (A4.set (p:=⟨K.sb,5,none⟩) (A4.refl _ _) hss.Di _);have HSt4:Hid (K.St (fun g=>D g\/g=wr.heap.size) (w3.setCell ⟨K.sb,5,none⟩ (.bool true)) [] [] cn 0 0 true (Bu bb 3 l.line fl)):=by
     refine Hf.o.next ⟨na,nm,nc,ba,bm,bc,bs,HSS.o.put 0 true _ (by omega) ?_ (fun g _ hne=>Below.heap_setCell _ _ _ _ (by exact hne))⟩ (A4.set (p:=⟨K.sb,5,none⟩) (A4.refl _ _) HSS.o.Di _);have:=heap_set (j:=5) HSS.o.cell (.bool true);simpa using this
    have Iu:∀g,(D g\/g=wr.heap.size)->g<w1.heap.size->(w3.setCell ⟨K.sb,5,none⟩ (.bool true)).heap[g]?=w1.heap[g]?/\(D g\/g=wr.heap.size):=fun g hg _=>⟨Dm.o.block g hg,hg⟩;have HCall:=A0 (Uu K cc HFn'.o.1 HFn'.o.2.1 HFn'.o.2.2 _ _ [] [] cn 0 0 true _ Ev _ Ew Eg _ Eh c2 xs HSt4.o (HOw1.o.keep Iu) (Ak.keep Iu _ _ HRf1.o) (HXo1.o.keep Iu) (by simp only[List.nil_append];omega) (by omega) (by omega) (by omega));clear hss Iu;go_wp2_with fail
    refine HCall.o.mono ?_;rintro e w5 ⟨rfl,C0,C7⟩;rw[HXm.o,List.nil_append]at C0;have HSt5:=A0 C0;have Fo:Hid (A4 (fun g=>D g\/g=wr.heap.size) w1 w5):=Dm.o.trans C7;clear y0 y1 y2 y3 y4 y5 y6 y7 fy ly x0 x1 x2 x3 x4 x5 fX lX C0 C7 HSS HCall HSt4 na nm nc ba bm bc bs;obtain⟨na,nm,nc,ba,bm,bc,bs,hss⟩:=HSt5.o.st;obtain⟨y0,y1,y2,y3,y4,y5,y6,y7,fy,ly⟩:=Gn hss.cell;have HSS:=A0 hss;clear hss;go_wp2;have Kq:A4 D wr (w5.setCell ⟨K.sb,5,none⟩ (.bool false)):=Br.o.trans ((Fo.o.trans (A4.set (p:=⟨K.sb,5,none⟩) (A4.refl _ _) HSS.o.Di _)).weak (fun g hg=>.inl hg));have K3:=A0 (HBel.o.trans Kq);have HSt6:Hid (K.St D (w5.setCell ⟨K.sb,5,none⟩ (.bool false)) [] [] cn 0 0 false (Ag K.fns cc cn (Ge l.ps [] (Bu bb 3 l.line fl)).1 0 true (Ge l.ps [] (Bu bb 3 l.line fl)).2).2):=by
     refine HSt.o.back ⟨na,nm,nc,ba,bm,bc,bs,HSS.o.put 0 false _ (by omega) ?_ (fun g _ hne=>Below.heap_setCell _ _ _ _ (by exact hne))⟩ Kq;have:=heap_set (j:=5) HSS.o.cell (.bool false);simpa using this
    clear Kq;go_roundg (gk-1)
    case measure=>omega
    case rel=>exact⟨i+1,n+1,cn,_,rfl,rfl,by omega,by omega,by rw[HDs.o];omega,HSt6.o,by rw[HDs.o];exact HDr'.o,by rw[HDs.o,HTk.o,←HSx.o,HSx2.o],K3.o⟩
   ·have t:=Yt l.kd h140 hok h20;have hw:0+Cy l.kd=0:=by unfold Cy;rw[if_neg h32]
    have HW:=A0 hw;have hcur:=M8 K.fns (nd l cc) [] cn 0 false fl;have HN:=A0 (HNd.o h20);have HF2:=A0 ((HDr.o.trans (congrArg Bf HD.o)).trans (Qt x y l cc r h20));have hnil:Ag K.fns (.node x y l cc .nil) [] cn 0 false fl=Ag K.fns (nd l cc) [] cn 0 false fl:=by rw[Mi,Ag]
    have hsx:=((congrArg (fun q=>Dj K.fns q ((K.fns.take n).map (·.1)) cn fl) HD.o).symm.trans HSe.o);rw[R6 K.fns x y l cc r _ cn fl h20,hnil]at hsx;have HSx:=A0 hsx;have Ab:=A0 (Md HSt.o (.cells #[.string ⟨(Dy l.kd).toArray⟩,.int .i64 ln',.string ⟨S'.toArray⟩,.int .i64 mm,.slice Ev G2 Ew,.slice Eg Gd Eh] 77));have E9:=A0 (HSt.o.keep (fun g hl=>Below.heap_alloc _ _ _ hl) Ab.o);have Hr:=A0 (HRt.o.keep (w':=wr.alloc (.cells #[.string ⟨(Dy l.kd).toArray⟩,.int .i64 ln',.string ⟨S'.toArray⟩,.int .i64 mm,.slice Ev G2 Ew,.slice Eg Gd Eh] 77)) (D':=D) (fun g hg hl=>⟨Below.heap_alloc _ _ _ hl,hg⟩));clear hw hnil hsx h32 h140 hok;have HK20:=A0 h20;clear h20;go_wp2_with fail
    refine(HN.o D _ [] [] cn 0 0 false fl ln' mm S' Ev G2 Ew Eg Gd Eh c2 (by rw[HW.o];exact E9.o) Hr.o (by simp only[List.nil_append];omega) (by omega) (by omega)).mono ?_;rintro e w3 ⟨rfl,At,Fi⟩;rw[HW.o]at At;have Hf:=A0 At;have B4:Hid (A4 D w w3):=HBel.o.trans (Ab.o.trans Fi);clear At Fi;go_wp2;go_roundg (gk-1)
    case measure=>omega
    case rel=>exact⟨i+1,n,_,_,rfl,rfl,by omega,by omega,by rw[HDs.o];omega,Hf.o,by rw[HDs.o];exact HF2.o,by rw[HDs.o];exact HSx.o,B4.o⟩
  ·have HE:Hid (fl=Dj K.fns c [] [] f):=by
    have h0:Au i c=.nil:=Ms _ (by rw[L4];omega);have:=HSe.o;rw[h0]at this;exact this
   clear HSe;go_wp2;go_end0;rw[←HE.o];exact⟨rfl,cn,HSt.o,HBel.o⟩
theorem Lg{w:World}{g:Nat}{a0 a1:Value}{t:TypeId}(h:w.heap[g]?=some (.cells #[a0,a1] t (0,0))) :
  w.cell? ⟨g,0,none⟩=some a0/\w.cell? ⟨g,1,none⟩=some a1/\(∀o,w.frozen? ⟨g,o,none⟩=false)/\g<w.heap.size:=
 ⟨Ac h 0 _ rfl,Ac h 1 _ rfl,Ce h,A5 h⟩
theorem A3r(l:List UInt8)(w:World)(hl:2000<l.length) :
  Calls Tryz.prog 31 #[.string ⟨l.toArray⟩] w fun e w'=>e=.returned (.tuple #[.pointer none,.agg #[.int .i64 1,.int .i64 0]])/\Below w.heap.size w w':=by
 have hl':2000<(l.length:Int):=by omega
 have t:decide (2000<(l.length:Int))=true:=decide_eq_true hl';clear hl hl';go_enter Tryz.func31,Tryz.ntmps31;go_wp2;refine bodyPost_ret (v:=.tuple #[.pointer none,.agg #[.int .i64 1,.int .i64 0]]) (by simp[results,Tryz.results31,go_sem]) rfl ⟨rfl,?_⟩;repeat (first|exact Below.refl _ _|refine Below.alloc ?_ (by simp) _|refine Below.setCell ?_ (by simp) _|refine Below.drew ?_)
theorem A3o(l:List UInt8)(w:World)(hl:l.length<=2000)(n:Nat)(hn:lex (l.length+1) l 1 false=.inl n)(h1:1<=n)(h2:n<=2001) :
  Calls Tryz.prog 31 #[.string ⟨l.toArray⟩] w fun e w'=>e=.returned (.tuple #[.pointer none,.agg #[.int .i64 2,.int .i64 n]])/\Below w.heap.size w w':=by
 have t:decide (2000<(l.length:Int))=false:=decide_eq_false (by omega);have t2:decide (0<(n:Int))=true:=decide_eq_true (by omega);have HN:=A0 hn;have HC:=A0 (fun w=>U8 l w (by omega));clear hn;go_enter Tryz.func31,Tryz.ntmps31;go_wp2_with fail
 refine(HC.o _).mono ?_;rintro e w' ⟨v,k,rfl,ho,hbel⟩;rw[HN.o]at ho;obtain rfl:k=n:=ho;have hR:=Bg hbel (heap_alloc_new w (.cells #[.int .i64 0,.int .i64 0] 50));obtain⟨x0,x1,fX,lX⟩:=Lg hR;have HBel:Hid (Below w.heap.size w w'):=Below.trans (Below.alloc (Below.refl _ _) (Nat.le_refl _) _) (hbel.mono (by simp));clear hbel HC hR;go_wp2;refine bodyPost_ret (v:=.tuple #[.pointer none,.agg #[.int .i64 2,.int .i64 (k:Nat)]]) (by simp[results,Tryz.results31,go_sem,x0,x1]) rfl ⟨rfl,?_⟩;repeat (first|exact HBel.o|refine Below.alloc ?_ (by simp) _|refine Below.setCell ?_ (by simp) _|refine Below.drew ?_)
theorem Wk{xs:List (Tk×List UInt8)}{ts:List Tk}(hm:xs.map (·.1)=ts)(hk:U6 xs)(hl:ts.length<=2001)(ho:Gk 1 2000 ts):Sp xs:=by
 subst hm;rw[List.length_map]at hl;refine⟨hk,by omega,fun i h=>?_,fun x hx=>?_⟩
 ·have:=Gk.last _ ho i (by rw[List.length_map];exact h);simpa using this
 ·have:=Gk.mem _ ho x.1 (List.mem_map.mpr ⟨x,hx,rfl⟩);exact⟨this.1,by omega,this.2.2⟩
theorem Gk.pos{line m:Nat}{ts:List Tk}(h:Gk line m ts):0<ts.length:=by
 cases ts with
 | nil=>exact absurd h id
 | cons x r=>simp
theorem Tc{w:World}{base:Nat}{e:TypeId}{size:Nat}{v:Value}{n:Nat}{xs:List Value}(h:w.ownsRow base e size v n xs)(hn:0<n) :
  ∃g cap cur,v=.slice (some ⟨g,0,none⟩) n cap/\base<=g/\w.heap[g]?=some (.cells cur e (0,0))/\n<=cap/\cur.toList.take (n*size)=xs:=by
 obtain⟨hl,⟨h2,h3⟩|⟨g,cap,cur,hv,hb,hg,hcap,_,_,ht⟩⟩:=h
 ·omega
 ·exact⟨g,cap,cur,hv,hb,hg,hcap,ht⟩
theorem A3t(l:List UInt8)(w:World)(hl:l.length<=2000)(ts:List Tk)(hn:lex (l.length+1) l 1 false=.inr ts)(h1:ts.length<=2001)(h2:Gk 1 2000 ts)(r:BT A2×PS)(hr:A7 100000 10 0 .nil ⟨ts,0⟩=some r)(hb:r.2.bad≠0) :
  Calls Tryz.prog 31 #[.string ⟨l.toArray⟩] w fun e w'=>e=.returned (.tuple #[.pointer none,.agg #[.int .i64 2,.int .i64 (r.2.bad:Nat)]])/\Below w.heap.size w w':=by
 have t:decide (2000<(l.length:Int))=false:=decide_eq_false (by omega);have HN:=A0 hn;have HC:=A0 (fun w=>U8 l w (by omega));have HR:=A0 hr;clear hn hr;go_enter Tryz.func31,Tryz.ntmps31;go_wp2_with fail
 refine(HC.o _).mono ?_;rintro e w1 ⟨v,k,rfl,ho,hbel⟩;rw[HN.o]at ho;obtain⟨rfl,xs,hxm,hxk,hown⟩:=ho;have hxl:ts.length=xs.length:=by rw[←hxm];simp
 have hpos:=h2.pos;obtain⟨g,cap,cur,rfl,hg1,Eo,hg3,hg4⟩:=Tc hown (by omega);have hT:=Wk hxm hxk h1 h2;have hR:=Bg hbel (heap_alloc_new w (.cells #[.int .i64 0,.int .i64 0] 50));obtain⟨x0,x1,fX,lX⟩:=Lg hR;have HRb:=A0 hR;have HBel:Hid (Below w.heap.size w w1):=Below.trans (Below.alloc (Below.refl _ _) (Nat.le_refl _) _) (hbel.mono (by simp));have HG:=A0 Eo;have lg:=A5 Eo;have HRS:Hid (RS w1.heap.size g cap 108 xs (w1.alloc (.cells #[.slice (some ⟨g,0,none⟩) xs.length cap,.int .i64 0,.int .i64 0] 108)) ⟨ts,0⟩):=by
  refine⟨0,hT,heap_alloc_new w1 _,⟨cur,alloc_old Eo,hg4⟩,by omega,by omega,hg3,fun _=>by rw[←hxm];rfl,fun e=>absurd rfl e⟩
 clear hbel HC hR hown Eo hg4 hxk hT;go_wp2_with fail
 refine(Vt (by decide) _ _ r HRS.o HR.o).mono ?_;rintro e w2 ⟨va,vn,vc,n,cs,rfl,hown,_,hrs,honly,_⟩;have hRr:=honly.blk (alloc_old (o':=.cells #[.slice (some ⟨g,0,none⟩) xs.length cap,.int .i64 0,.int .i64 0] 108) HRb.o) (by omega);obtain⟨hbc,hbl⟩:=hrs.Nj;have lb:w1.heap.size<w2.heap.size:=by have:=honly.size;simp at this;omega
 have t2:decide (0<(r.2.bad:Int))=true:=decide_eq_true (by omega);have Ai:Hid (Below w.heap.size w w2):=HBel.o.trans (Below.trans (b:=w1.alloc (.cells #[.slice (some ⟨g,0,none⟩) xs.length cap,.int .i64 0,.int .i64 0] 108)) (Below.alloc (Below.refl _ _) (by omega) _) ⟨honly.os,honly.tape,honly.output,honly.size,fun k hk=>honly.block k (by simp;omega) (by omega)⟩);clear x0 x1 fX lX HRS honly hrs hown;obtain⟨x0,x1,fX,lX⟩:=Lg hRr;clear hRr;generalize hbad:r.2.bad=bad at *;have HBad:=A0 hbad;clear hbad;go_wp2;go_region
 all_goals go_wp2
 all_goals refine bodyPost_ret (v:=.tuple #[.pointer none,.agg #[.int .i64 2,.int .i64 (bad:Nat)]]) (by simp[results,Tryz.results31,go_sem,x0,x1,lX]) rfl ⟨by rw[HBad.o],?_⟩
 all_goals repeat (first|exact Ai.o|refine Below.alloc ?_ (by simp;omega) _|refine Below.setCell ?_ (by simp) _|refine Below.drew ?_)
theorem A3p(l:List UInt8)(w:World)(hl:l.length<=2000)(ts:List Tk)(hn:lex (l.length+1) l 1 false=.inr ts)(h1:ts.length<=2001)(h2:Gk 1 2000 ts)(r:BT A2×PS)(hr:A7 100000 10 0 .nil ⟨ts,0⟩=some r)(hb:r.2.bad=0)(hd:nest ts 0≠0) :
  Calls Tryz.prog 31 #[.string ⟨l.toArray⟩] w fun e w'=>e=.returned (.tuple #[.pointer none,.agg #[.int .i64 1,.int .i64 (nest ts 0:Nat)]])/\Below w.heap.size w w':=by
 have t:decide (2000<(l.length:Int))=false:=decide_eq_false (by omega);have HN:=A0 hn;have HC:=A0 (fun w=>U8 l w (by omega));have HR:=A0 hr;have hdl:nest ts 0<=2001:=A77 ts 0 (fun t ht=>by have:=Gk.mem _ h2 t ht;omega);clear hn hr;go_enter Tryz.func31,Tryz.ntmps31;go_wp2_with fail
 refine(HC.o _).mono ?_;rintro e w1 ⟨v,k,rfl,ho,hbel⟩;rw[HN.o]at ho;obtain⟨rfl,xs,hxm,hxk,hown⟩:=ho;have hxl:ts.length=xs.length:=by rw[←hxm];simp
 have hpos:=h2.pos;obtain⟨g,cap,cur,rfl,hg1,Eo,hg3,hg4⟩:=Tc hown (by omega);have hT:=Wk hxm hxk h1 h2;have hR:=Bg hbel (heap_alloc_new w (.cells #[.int .i64 0,.int .i64 0] 50));obtain⟨x0,x1,fX,lX⟩:=Lg hR;have HRb:=A0 hR;have HBel:Hid (Below w.heap.size w w1):=Below.trans (Below.alloc (Below.refl _ _) (Nat.le_refl _) _) (hbel.mono (by simp));have HG:=A0 Eo;have lg:=A5 Eo;have HTk:=A0 hT;have HG4:=A0 hg4;have HXm:=A0 hxm;have HRS:Hid (RS w1.heap.size g cap 108 xs (w1.alloc (.cells #[.slice (some ⟨g,0,none⟩) xs.length cap,.int .i64 0,.int .i64 0] 108)) ⟨ts,0⟩):=by
  refine⟨0,hT,heap_alloc_new w1 _,⟨cur,alloc_old Eo,hg4⟩,by omega,by omega,hg3,fun _=>by rw[←hxm];rfl,fun e=>absurd rfl e⟩
 clear hbel HC hR hown Eo hg4 hxk hT;go_wp2_with fail
 refine(Vt (by decide) _ _ r HRS.o HR.o).mono ?_;rintro e w2 ⟨va,vn,vc,n,cs,rfl,hown,_,hrs,honly,_⟩;have hRr:=honly.blk (alloc_old (o':=.cells #[.slice (some ⟨g,0,none⟩) xs.length cap,.int .i64 0,.int .i64 0] 108) HRb.o) (by omega);obtain⟨hbc,hbl⟩:=hrs.Nj;rw[hb]at hbc;clear hbl;have lb:w1.heap.size<w2.heap.size:=by have:=honly.size;simp at this;omega
 have Ai:Hid (Below w.heap.size w w2):=HBel.o.trans (Below.trans (b:=w1.alloc (.cells #[.slice (some ⟨g,0,none⟩) xs.length cap,.int .i64 0,.int .i64 0] 108)) (Below.alloc (Below.refl _ _) (by omega) _) ⟨honly.os,honly.tape,honly.output,honly.size,fun k hk=>honly.block k (by simp;omega) (by omega)⟩);have HG2:=A0 (honly.blk (alloc_old (o':=.cells #[.slice (some ⟨g,0,none⟩) xs.length cap,.int .i64 0,.int .i64 0] 108) HG.o) (by omega));have HRow:Hid (Oi g cap xs (w2.alloc (.cells #[.slice va vn vc,.slice none 0 0] 74))):=⟨HTk.o,⟨cur,alloc_old HG2.o,HG4.o⟩,hg3⟩;clear x0 x1 fX lX HRS honly hrs hown;obtain⟨x0,x1,fX,lX⟩:=Lg hRr;have HRr:=A0 hRr;clear hRr hxm;go_wp2_with fail
 refine(Zj _ HRow.o).mono ?_;rintro e w3 ⟨rfl,hbel3⟩;rw[HXm.o];have hR3:=Bg hbel3 (alloc_old HRr.o);have B4:Hid (Below w.heap.size w w3):=Ai.o.trans (Below.trans (Below.alloc (Below.refl _ _) (by omega) _) (hbel3.mono (by simp;omega)));clear x0 x1 fX lX hbc hbel3;obtain⟨x0,x1,fX,lX⟩:=Lg hR3;clear hR3;generalize hdd:nest ts 0=dd at *;have HDd:=A0 hdd;clear hdd;have t2:decide (0<(dd:Int))=true:=decide_eq_true (by omega);go_wp2;all_goals refine bodyPost_ret (v:=.tuple #[.pointer none,.agg #[.int .i64 1,.int .i64 (dd:Nat)]]) (by simp[results,Tryz.results31,go_sem,x0,x1]) rfl ⟨by rw[HDd.o],?_⟩
 all_goals repeat (first|exact B4.o|refine Below.alloc ?_ (by simp;omega) _|refine Below.setCell ?_ (by simp) _|refine Below.drew ?_)
end
section
open Go.RowKit
open Go.Deep (BT)
variable {W:World}{pb:Nat}{va:Option Addr}{vn vc:Nat}{fs:List (Nm×Nat)}{w2:World}{fa:Option Addr}{fc:Nat}{cs:List Value}{g2 cap2:Nat}
theorem Qy{w:World}{base:Nat}{e:TypeId}{size g n cap:Nat}{xs:List Value}(h:w.ownsRow base e size (.slice (some ⟨g,0,none⟩) n cap) n xs)(j:Nat)(u:Value) :
  (w.setCell ⟨g,j,none⟩ u).ownsRow base e size (.slice (some ⟨g,0,none⟩) n cap) n (xs.set j u):=by
 obtain⟨hl,⟨h2,h3⟩|⟨g',cap',cur,hv,hb,hg,hcap,hm,hs,ht⟩⟩:=h
 ·cases h2
 ·cases hv;refine⟨by rw[List.length_set];exact hl,.inr ⟨g,cap,_,rfl,hb,heap_set hg u,hcap,hm,by simp[hs],?_⟩⟩;rw[←ht,Array.toList_setIfInBounds,List.take_set]
theorem Zp{w:World}{base:Nat}{e:TypeId}{g m n cap:Nat}{cs:List Value}{z0 z1 z2 z3 z4 z5:Value}(hm:cs.length=m*6)(h:w.ownsRow base e 6 (.slice (some ⟨g,0,none⟩) n cap) n (cs++[z0,z1,z2,z3,z4,z5]))(u0 u1 u2 u3 u4 u5:Value) :
  ((((((w.setCell ⟨g,m*6,none⟩ u0).setCell ⟨g,m*6+1,none⟩ u1).setCell ⟨g,m*6+2,none⟩ u2).setCell ⟨g,m*6+3,none⟩ u3).setCell ⟨g,m*6+4,none⟩ u4).setCell ⟨g,m*6+5,none⟩ u5).ownsRow base e 6 (.slice (some ⟨g,0,none⟩) n cap) n (cs++[u0,u1,u2,u3,u4,u5]):=by
 have h6:=Qy (Qy (Qy (Qy (Qy (Qy h (m*6) u0) (m*6+1) u1) (m*6+2) u2) (m*6+3) u3) (m*6+4) u4) (m*6+5) u5;have hx:(((((((cs++[z0,z1,z2,z3,z4,z5]).set (m*6) u0).set (m*6+1) u1).set (m*6+2) u2).set (m*6+3) u3).set (m*6+4) u4).set (m*6+5) u5)=cs++[u0,u1,u2,u3,u4,u5]:=by
  rw[←hm];simp
 rw[hx]at h6;exact h6
def Qs(fs:List (Nm×Nat))(cs:List Value):Prop:=∀j (_:j<fs.length),cs[j*6+2]?=some (.string ⟨fs[j].1.toArray⟩)/\∃pa pc,cs[j*6+5]?=some (.slice pa fs[j].2 pc)
theorem Yq{fs:List (Nm×Nat)}{cs:List Value}(h:Qs fs cs)(hl:cs.length=fs.length*6)(s:Nm)(n:Nat)(u0 u1 u3 u4:Value)(pa:Option Addr)(pc:Nat):Qs (fs++[(s,n)]) (cs++[u0,u1,.string ⟨s.toArray⟩,u3,u4,.slice pa n pc]):=by
 intro j hj;by_cases hlt:j<fs.length
 ·obtain⟨k1,qa,qc,k2⟩:=h j hlt;rw[List.getElem_append_left hlt,List.getElem?_append_left (by omega),List.getElem?_append_left (by omega)];exact⟨k1,qa,qc,k2⟩
 ·have hje:j=fs.length:=by simp at hj;omega
  subst hje;rw[List.getElem_append_right (Nat.le_refl _),List.getElem?_append_right (by omega),List.getElem?_append_right (by omega),hl];simp
structure Qg (W : World) (pb : Nat) (va : Option Addr) (vn vc : Nat) (fs : List (Nm × Nat)) (wr : World) (fa : Option Addr) (fc : Nat) (cs : List Value) : Prop where
 cell:wr.heap[pb]?=some (.cells #[.slice va vn vc,.slice fa fs.length fc] 74 (0,0))
 own:wr.ownsRow 0 77 6 (.slice fa fs.length fc) fs.length cs
 at':Qs fs cs
 lo:∀g,(Value.slice fa fs.length fc).ownBlock=some g->W.heap.size<=g
 only:A1 pb W wr
def O2:Array Value:=#[.string ⟨#[]⟩,.int .i64 0,.string ⟨#[]⟩,.int .i64 0,.slice none 0 0,.slice none 0 0]
theorem Af6:∀u∈O2.toList,u.oneCell'=true:=by
 intro u hu;simp only[O2,List.mem_cons,List.not_mem_nil,or_false]at hu;rcases hu with rfl|rfl|rfl|rfl|rfl|rfl <;> rfl
theorem A72(m:Nat):(m:Int)<(m:Int)+1:=by omega
structure Mz (W : World) (pb : Nat) (va : Option Addr) (vn vc : Nat) (fs : List (Nm × Nat)) (w2 : World) (fa : Option Addr) (fc : Nat) (cs : List Value) (g2 cap2 : Nat) : Prop where
 cell:w2.heap[pb]?=some (.cells #[.slice va vn vc,.slice fa fs.length fc] 74 (0,0))
 own:w2.ownsRow 0 77 6 (.slice (some ⟨g2,0,none⟩) (fs.length+1) cap2) (fs.length+1) (cs++O2.toList)
 len:cs.length=fs.length*6
 at':Qs fs cs
 lo:W.heap.size<=g2
 ne:g2≠pb
 only:A1 pb W w2
theorem Qg.mid{W:World}{pb:Nat}{va:Option Addr}{vn vc:Nat}{fs:List (Nm×Nat)}{wr w2:World}{fa:Option Addr}{fc:Nat}{cs:List Value}{g2 cap2:Nat}(h:Qg W pb va vn vc fs wr fa fc cs)(hpb:pb<W.heap.size)
  (hown:w2.ownsRow 0 77 6 (.slice (some ⟨g2,0,none⟩) (fs.length+1) cap2) (fs.length+1) (cs++O2.toList))
  (hgrow:(wr.alloc (.cells O2 77)).grownBy w2 (Value.slice fa fs.length fc).ownBlock) (hat:(Value.slice fa fs.length fc).ownBlock=some g2\/g2=(wr.alloc (.cells O2 77)).heap.size):Mz W pb va vn vc fs w2 fa fc cs g2 cap2:=by
 have hs:=h.only.size;have Av:=hgrow.size;rw[World.size_alloc]at Av;have hk:∀k,k<W.heap.size->w2.heap[k]?=wr.heap[k]?:=fun k hk=>(hgrow.block k (by simp;omega) (fun e=>by have:=h.lo k e.symm;omega)).trans (Below.heap_alloc _ _ _ (by omega));have Eo:W.heap.size<=g2:=by
  rcases hat with e|e
  ·exact h.lo g2 e
  ·rw[e,World.size_alloc];omega
 exact⟨(hk pb hpb).trans h.cell,hown,h.own.1,h.at',Eo,by omega,⟨hgrow.os.trans h.only.os,hgrow.tape.trans h.only.tape,hgrow.output.trans h.only.output,by omega,fun k h1 h2=>(hk k h1).trans (h.only.block k h1 h2)⟩⟩
theorem Mz.zs(h:Mz W pb va vn vc fs w2 fa fc cs g2 cap2) :
  w2.cell? ⟨g2,fs.length*6,none⟩=some (.string ⟨#[]⟩)/\w2.cell? ⟨g2,fs.length*6+1,none⟩=some (.int .i64 0)/\w2.cell? ⟨g2,fs.length*6+2,none⟩=some (.string ⟨#[]⟩)/\w2.cell? ⟨g2,fs.length*6+3,none⟩=some (.int .i64 0)/\w2.cell? ⟨g2,fs.length*6+4,none⟩=some (.slice none 0 0)/\w2.cell? ⟨g2,fs.length*6+5,none⟩=some (.slice none 0 0):=by
 obtain⟨g,k1,_,_,_,k5⟩:=Fs h.own (by omega);cases k1;have hl:=h.len;have hz:∀k,(cs++O2.toList)[fs.length*6+k]?=O2.toList[k]?:=fun k=>by rw[List.getElem?_append_right (by omega),hl,Nat.add_sub_cancel_left]
 exact⟨k5 _ _ (hz 0),k5 _ _ (hz 1),k5 _ _ (hz 2),k5 _ _ (hz 3),k5 _ _ (hz 4),k5 _ _ (hz 5)⟩
theorem Mz.frz(h:Mz W pb va vn vc fs w2 fa fc cs g2 cap2):∀o,w2.frozen? ⟨g2,o,none⟩=false:=by
 obtain⟨hl,⟨h2,h3⟩|⟨g',cap',cur,hv,hb,hg,hcap,hm,hs,ht⟩⟩:=h.own
 ·omega
 ·cases hv;exact Ce hg
theorem Mz.lt(h:Mz W pb va vn vc fs w2 fa fc cs g2 cap2):g2<w2.heap.size/\fs.length+1<=cap2:=by
 obtain⟨g,k1,_,k3,k4,k5⟩:=Fs h.own (by omega);cases k1;exact⟨k4,k3⟩
theorem Mz.A4l(h:Mz W pb va vn vc fs w2 fa fc cs g2 cap2)(u0 u1 u3 u4:Value)(s:Nm)(n:Nat)(pa:Option Addr)(pc:Nat) :
  Qg W pb va vn vc (fs++[(s,n)]) (((((((w2.setCell ⟨g2,fs.length*6,none⟩ u0).setCell ⟨g2,fs.length*6+1,none⟩ u1).setCell ⟨g2,fs.length*6+2,none⟩ (.string ⟨s.toArray⟩)).setCell ⟨g2,fs.length*6+3,none⟩ u3).setCell ⟨g2,fs.length*6+4,none⟩ u4).setCell ⟨g2,fs.length*6+5,none⟩ (.slice pa n pc)).setCell ⟨pb,1,none⟩ (.slice (some ⟨g2,0,none⟩) (fs.length+1) cap2)) (some ⟨g2,0,none⟩) cap2 (cs++[u0,u1,.string ⟨s.toArray⟩,u3,u4,.slice pa n pc]):=by
 have hne:=h.ne;have hlen:(fs++[(s,n)]).length=fs.length+1:=by simp
 refine⟨?_,?_,Yq h.at' h.len s n u0 u1 u3 u4 pa pc,?_,?_⟩
 ·rw[hlen];have:=heap_set (j:=1) (Cn (Cn (Cn (Cn (Cn (Cn h.cell (p:=⟨g2,fs.length*6,none⟩) (u:=u0) (by exact hne.symm)) (p:=⟨g2,fs.length*6+1,none⟩) (u:=u1) (by exact hne.symm)) (p:=⟨g2,fs.length*6+2,none⟩) (u:=(.string ⟨s.toArray⟩)) (by exact hne.symm)) (p:=⟨g2,fs.length*6+3,none⟩) (u:=u3) (by exact hne.symm)) (p:=⟨g2,fs.length*6+4,none⟩) (u:=u4) (by exact hne.symm)) (p:=⟨g2,fs.length*6+5,none⟩) (u:=.slice pa n pc) (by exact hne.symm)) (.slice (some ⟨g2,0,none⟩) (fs.length+1) cap2);simpa using this
 ·rw[hlen];have:=Zp h.len (show w2.ownsRow 0 77 6 (.slice (some ⟨g2,0,none⟩) (fs.length+1) cap2) (fs.length+1) (cs++[.string ⟨#[]⟩,.int .i64 0,.string ⟨#[]⟩,.int .i64 0,.slice none 0 0,.slice none 0 0]) from h.own) u0 u1 (.string ⟨s.toArray⟩) u3 u4 (.slice pa n pc);exact Bb this (fun k hk _=>Below.heap_setCell _ _ _ _ (by simp only[Value.ownBlock,Option.some.injEq]at hk;rw[←hk];exact hne))
 ·intro g e;simp only[Value.ownBlock,Option.some.injEq]at e;rw[←e];exact h.lo
 ·exact A1.set (A1.set (A1.set (A1.set (A1.set (A1.set (A1.set h.only (.inr h.lo) _) (.inr h.lo) _) (.inr h.lo) _) (.inr h.lo) _) (.inr h.lo) _) (.inr h.lo) _) (.inl rfl) _
theorem Mz.A4m(h:Mz W pb va vn vc fs w2 fa fc cs g2 cap2)(u0 u1 u3 u4:Value)(s:Nm)(n:Nat)(pa:Option Addr)(pc:Nat) :
  Qg W pb va vn vc (fs++[(s,n)]) (((((((w2.setCell ⟨pb,1,none⟩ (.slice (some ⟨g2,0,none⟩) (fs.length+1) cap2)).setCell ⟨g2,fs.length*6,none⟩ u0).setCell ⟨g2,fs.length*6+1,none⟩ u1).setCell ⟨g2,fs.length*6+2,none⟩ (.string ⟨s.toArray⟩)).setCell ⟨g2,fs.length*6+3,none⟩ u3).setCell ⟨g2,fs.length*6+4,none⟩ u4).setCell ⟨g2,fs.length*6+5,none⟩ (.slice pa n pc)) (some ⟨g2,0,none⟩) cap2 (cs++[u0,u1,.string ⟨s.toArray⟩,u3,u4,.slice pa n pc]):=by
 have hne:=h.ne;have hlen:(fs++[(s,n)]).length=fs.length+1:=by simp
 have hc:(w2.setCell ⟨pb,1,none⟩ (.slice (some ⟨g2,0,none⟩) (fs.length+1) cap2)).heap[pb]?=some (.cells #[.slice va vn vc,.slice (some ⟨g2,0,none⟩) (fs.length+1) cap2] 74 (0,0)):=by
  have:=heap_set (j:=1) h.cell (.slice (some ⟨g2,0,none⟩) (fs.length+1) cap2);simpa using this
 refine⟨?_,?_,Yq h.at' h.len s n u0 u1 u3 u4 pa pc,?_,?_⟩
 ·rw[hlen];exact Cn (Cn (Cn (Cn (Cn (Cn hc (p:=⟨g2,fs.length*6,none⟩) (u:=u0) (by exact hne.symm)) (p:=⟨g2,fs.length*6+1,none⟩) (u:=u1) (by exact hne.symm)) (p:=⟨g2,fs.length*6+2,none⟩) (u:=(.string ⟨s.toArray⟩)) (by exact hne.symm)) (p:=⟨g2,fs.length*6+3,none⟩) (u:=u3) (by exact hne.symm)) (p:=⟨g2,fs.length*6+4,none⟩) (u:=u4) (by exact hne.symm)) (p:=⟨g2,fs.length*6+5,none⟩) (u:=.slice pa n pc) (by exact hne.symm)
 ·rw[hlen];have h1:(w2.setCell ⟨pb,1,none⟩ (.slice (some ⟨g2,0,none⟩) (fs.length+1) cap2)).ownsRow 0 77 6 (.slice (some ⟨g2,0,none⟩) (fs.length+1) cap2) (fs.length+1) (cs++[.string ⟨#[]⟩,.int .i64 0,.string ⟨#[]⟩,.int .i64 0,.slice none 0 0,.slice none 0 0]):=Bb h.own (fun k hk _=>Below.heap_setCell _ _ _ _ (by simp only[Value.ownBlock,Option.some.injEq]at hk;rw[←hk];exact hne));exact Zp h.len h1 u0 u1 (.string ⟨s.toArray⟩) u3 u4 (.slice pa n pc)
 ·intro g e;simp only[Value.ownBlock,Option.some.injEq]at e;rw[←e];exact h.lo
 ·exact A1.set (A1.set (A1.set (A1.set (A1.set (A1.set (A1.set h.only (.inl rfl) _) (.inr h.lo) _) (.inr h.lo) _) (.inr h.lo) _) (.inr h.lo) _) (.inr h.lo) _) (.inr h.lo) _
end
end Go.Proofs.YtjdlndhfaaolaaaGreatDoor
