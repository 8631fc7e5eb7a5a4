import Derived.Test.YtjdlndhfaaolaaaGreatDoorV33
set_option maxHeartbeats 20000000
namespace Go.Proofs.YtjdlndhfaaolaaaGreatDoor
section
set_option maxRecDepth 100000
open Go.RowKit
open Go.Deep (BT)
variable {C:MC} {D X:Nat->Prop} {w w':World} {m:MS} {β:Nat->Nat}
theorem MC.Ms.Ai2(h:C.Ms D X β w m):∀g,dx D X g->g<w.heap.size:=by
 obtain⟨ρ,s,x,fv,ab,lp,h⟩:=h;exact fun g hg=>(h.prot g hg).1
theorem MC.Ms.Abv{Y:Nat->Prop}(h:C.Ms D (fun g=>X g\/Y g) β w m):C.Ms D X β w.drew m:=
 ((h.below (w':=w.drew) ⟨rfl,rfl,rfl,Nat.le_refl _,fun _ _=>rfl⟩).1).less (fun _ h=>.inl h) (fun _ _ _=>rfl) rfl
theorem Ux{w:World}{g:Nat}(a0 a1 a2 a3 a4:Value)(k:Nat)(h:k≠g):(((((w.setCell ⟨g,0,none⟩ a0).setCell ⟨g,1,none⟩ a1).setCell ⟨g,2,none⟩ a2).setCell ⟨g,3,none⟩ a3).setCell ⟨g,4,none⟩ a4).heap[k]?=w.heap[k]?:=by
 rw[Below.heap_setCell _ _ _ _ (by exact h),Below.heap_setCell _ _ _ _ (by exact h),Below.heap_setCell _ _ _ _ (by exact h),Below.heap_setCell _ _ _ _ (by exact h),Below.heap_setCell _ _ _ _ (by exact h)]
theorem Uw{E:Nat->Prop}{w:World}{g:Nat}(h:∀k,E k->k≠g)(a0 a1 a2 a3 a4:Value):A3 E w (((((w.setCell ⟨g,0,none⟩ a0).setCell ⟨g,1,none⟩ a1).setCell ⟨g,2,none⟩ a2).setCell ⟨g,3,none⟩ a3).setCell ⟨g,4,none⟩ a4):=
 ⟨by simp only[R8],by simp only[Ra],by simp only[R9],by simp[World.setCell],fun k hk=>Ux _ _ _ _ _ k (h k hk)⟩
theorem A3r{w:World}{g:Nat}{b0 b1 b2 b3 b4:Value}{t:TypeId}(h:w.heap[g]?=some (.cells #[b0,b1,b2,b3,b4] t (0,0)))(a0 a1 a2 a3 a4:Value):(((((w.setCell ⟨g,0,none⟩ a0).setCell ⟨g,1,none⟩ a1).setCell ⟨g,2,none⟩ a2).setCell ⟨g,3,none⟩ a3).setCell ⟨g,4,none⟩ a4).heap[g]?=some (.cells #[a0,a1,a2,a3,a4] t (0,0)):=by
 rw[heap_set (heap_set (heap_set (heap_set (heap_set h _) _) _) _) _];simp
theorem MC.Ms.Uv(h:C.Ms D X β w m){g:Nat}(hx:X g)(hd:¬D g)(a0 a1 a2 a3 a4:Value):C.Ms D X β (((((w.setCell ⟨g,0,none⟩ a0).setCell ⟨g,1,none⟩ a1).setCell ⟨g,2,none⟩ a2).setCell ⟨g,3,none⟩ a3).setCell ⟨g,4,none⟩ a4) m:=
 h.less (fun _ h=>h) (fun k _ hk=>Ux _ _ _ _ _ k (fun e=>hd (e ▸ hk (e ▸ hx)))) z58a
theorem My{w:World}{b:Nat}{a0 a1 a2 a3 a4:Value}{t:TypeId}(h:w.heap[b]?=some (.cells #[a0,a1,a2,a3,a4] t (0,0))):w.cell? ⟨b,0,none⟩=some a0/\w.cell? ⟨b,1,none⟩=some a1/\w.cell? ⟨b,2,none⟩=some a2/\w.cell? ⟨b,3,none⟩=some a3/\w.cell? ⟨b,4,none⟩=some a4/\(∀o,w.frozen? ⟨b,o,none⟩=false)/\b<w.heap.size:=
 ⟨A2 h 0 _ rfl,A2 h 1 _ rfl,A2 h 2 _ rfl,A2 h 3 _ rfl,A2 h 4 _ rfl,Bd h,A5 h⟩
theorem Eh(h:C.Ms D X β w m):Calls Tryz.prog 210 #[.pointer (some ⟨C.mb,0,none⟩)] w (MP C D X β w m.pop.pop (.tuple #[Az β m.pop.top,Az β m.top])):=by
 have lb:=h.Au;have HPr:=A0 h.Ai2;obtain⟨w0,Cz⟩:∃w0,w0=(w.alloc (.cells #[.int .i64 0,.bool false,.int .i64 0,.string ⟨#[]⟩,.pointer none] 225)).alloc (.cells #[.int .i64 0,.bool false,.int .i64 0,.string ⟨#[]⟩,.pointer none] 225):=⟨_,rfl⟩;have Bf:Below w.heap.size w w0:=by rw[Cz];exact Below.alloc (Below.alloc (Below.refl _ _) (Nat.le_refl _) _) z50a _
 have Gt:w0.heap.size=w.heap.size+2:=by rw[Cz];simp
 have h0:=h.more Bf;have hR1:w0.heap[w.heap.size]?=some (.cells #[.int .i64 0,.bool false,.int .i64 0,.string ⟨#[]⟩,.pointer none] 225 (0,0)):=by rw[Cz,Below.heap_alloc _ _ _ z50a];exact heap_alloc_new w _
 have Ei:w0.heap[w.heap.size+1]?=some (.cells #[.int .i64 0,.bool false,.int .i64 0,.string ⟨#[]⟩,.pointer none] 225 (0,0)):=by
  have:=heap_alloc_new (w.alloc (.cells #[.int .i64 0,.bool false,.int .i64 0,.string ⟨#[]⟩,.pointer none] 225)) (.cells #[.int .i64 0,.bool false,.int .i64 0,.string ⟨#[]⟩,.pointer none] 225);rw[Cz];simpa using this
 have HP0:=A0 h0.pop;have Am:=A0 Cz;have Af:Hid (A3 (dx D X) w w0):=⟨Bf.os,Bf.tape,Bf.output,Bf.size,fun g hg=>Bf.block g (HPr.o g hg)⟩;have F6:=A0 hR1;have Cd:=A0 Ei;have Ap:=A0 Gt;have E1:dx D (fun g=>X g\/(w.heap.size<=g/\g<w0.heap.size)) w.heap.size:=.inr (.inr ⟨Nat.le_refl _,by omega⟩);have Fl:dx D (fun g=>X g\/(w.heap.size<=g/\g<w0.heap.size)) (w.heap.size+1):=.inr (.inr ⟨by omega,by omega⟩);have I4:=A0 E1;have HX2:=A0 Fl;clear h Cz Bf h0 hR1 Ei Gt E1 Fl;go_enter Tryz.func210,Tryz.ntmps210;go_wp2_with fail
 rw[←Am.o];refine HP0.o.mono ?_;rintro e w1 ⟨rfl,h1,A1⟩;have hq1:=(A1.block _ I4.o).trans F6.o;have F1:=(A1.block _ HX2.o).trans Cd.o;obtain⟨p0,p1,p2,p3,p4,fp,lp⟩:=My hq1;obtain⟨r0,r1,r2,r3,r4,fr,lr⟩:=My F1;have hnD1:¬D w.heap.size:=fun hd=>by have:=HPr.o _ (.inl hd);omega
 have hnD2:¬D (w.heap.size+1):=fun hd=>by have:=HPr.o _ (.inl hd);omega
 have HQ1:=A0 hq1;have Gy:=A0 F1;have hxx:(fun g=>X g\/(w.heap.size<=g/\g<w0.heap.size)) (w.heap.size+1):=.inr ⟨by omega,by have:=Ap.o;omega⟩;have hxy:(fun g=>X g\/(w.heap.size<=g/\g<w0.heap.size)) w.heap.size:=.inr ⟨by omega,by have:=Ap.o;omega⟩;have HM1:=A0 (fun(a0 a1 a2 a3 a4:Value)=>(h1.Uv hxx hnD2 a0 a1 a2 a3 a4).pop);have A4:=A0 A1;have HXY:=A0 hxy;have HND1:=A0 hnD1;have HND2:=A0 hnD2;have HXX:=A0 hxx;clear h1 A1 hq1 F1 hnD1 hnD2 hxx hxy;unfold Az;go_wp2_with fail
 refine(HM1.o _ _ _ _ _).mono ?_;rintro e w3 ⟨rfl,h3,Aj⟩;have hq1:=(Aj.block _ I4.o).trans ((Ux _ _ _ _ _ _ z4va).trans HQ1.o);have F1:=(Aj.block _ HX2.o).trans (A3r Gy.o _ _ _ _ _);obtain⟨w4,hw4⟩:∃w4,w4=(((((w3.setCell ⟨w.heap.size,0,none⟩ (.int .i64 (m.pop.top.k:Nat))).setCell ⟨w.heap.size,1,none⟩ (.bool m.pop.top.y)).setCell ⟨w.heap.size,2,none⟩ (.int .i64 m.pop.top.n)).setCell ⟨w.heap.size,3,none⟩ (.string ⟨m.pop.top.t.toArray⟩)).setCell ⟨w.heap.size,4,none⟩ (.pointer (Bk β m.pop.top))):=⟨_,rfl⟩;have Ak:w4.heap[w.heap.size]?=some (.cells #[.int .i64 (m.pop.top.k:Nat),.bool m.pop.top.y,.int .i64 m.pop.top.n,.string ⟨m.pop.top.t.toArray⟩,.pointer (Bk β m.pop.top)] 225 (0,0)):=by rw[hw4];exact A3r hq1 _ _ _ _ _
 have B0:w4.heap[w.heap.size+1]?=some (.cells #[.int .i64 (m.top.k:Nat),.bool m.top.y,.int .i64 m.top.n,.string ⟨m.top.t.toArray⟩,.pointer (Bk β m.top)] 225 (0,0)):=by rw[hw4];exact(Ux _ _ _ _ _ _ z4va).trans F1
 have hm4:C.Ms D (fun g=>X g\/(w.heap.size<=g/\g<w0.heap.size)) β w4 m.pop.pop:=by rw[hw4];exact h3.Uv HXY.o HND1.o _ _ _ _ _
 have hne1:∀k,dx D X k->k≠w.heap.size:=fun k hk=>by have:=HPr.o k hk;omega
 have hne2:∀k,dx D X k->k≠w.heap.size+1:=fun k hk=>by have:=HPr.o k hk;omega
 have hb34:A3 (dx D X) w3 w4:=by rw[hw4];exact Uw hne1 _ _ _ _ _
 have hb13:A3 (dx D X) w1 w3:=A3.trans (Uw hne2 _ _ _ _ _) (A3.weak Aj (fun g hg=>hg.imp id .inl));have B8:A3 (dx D X) w w4:=Af.o.trans (A3.trans (A3.weak A4.o (fun g hg=>hg.imp id .inl)) (hb13.trans hb34));have HNe1:=A0 hne1;have HNe2:=A0 hne2;clear hb34 hb13 hne1 hne2;obtain⟨u0,u1,u2,u3,u4,fu,lu⟩:=My hq1;have HW4:=A0 hw4;have HM4:=A0 hm4;have Cn:=A0 B8;have Gq:=A0 Ak;have HT2:=A0 B0;clear h3 Aj hq1 F1 p0 p1 p2 p3 p4 fp lp r0 r1 r2 r3 r4 fr lr hw4 hm4 B8 Ak B0;unfold Az;go_wp2;rw[←HW4.o];clear HW4 u0 u1 u2 u3 u4 fu lu;obtain⟨u0,u1,u2,u3,u4,fu,lu⟩:=My Gq.o;obtain⟨v0,v1,v2,v3,v4,fv,lv⟩:=My HT2.o;go_region
 all_goals go_wp2
 all_goals refine bodyPost_ret (v:=.tuple #[.agg #[.int .i64 (m.pop.top.k:Nat),.bool m.pop.top.y,.int .i64 m.pop.top.n,.string ⟨m.pop.top.t.toArray⟩,.pointer (Bk β m.pop.top)],.agg #[.int .i64 (m.top.k:Nat),.bool m.top.y,.int .i64 m.top.n,.string ⟨m.top.t.toArray⟩,.pointer (Bk β m.top)]]) (by simp[results,Tryz.results210,go_sem,u0,u1,u2,u3,u4,v0,v1,v2,v3,v4]) rfl ?_
 all_goals
  have q1:=(HM4.o.Uv HXY.o HND1.o (.int .i64 (m.pop.top.k:Nat)) (.bool m.pop.top.y) (.int .i64 m.pop.top.n) (.string ⟨m.pop.top.t.toArray⟩) (.pointer (Bk β m.pop.top))).Uv HXX.o HND2.o (.int .i64 (m.top.k:Nat)) (.bool m.top.y) (.int .i64 m.top.n) (.string ⟨m.top.t.toArray⟩) (.pointer (Bk β m.top));have q2:=(Uw (w:=w4) HNe1.o (.int .i64 (m.pop.top.k:Nat)) (.bool m.pop.top.y) (.int .i64 m.pop.top.n) (.string ⟨m.pop.top.t.toArray⟩) (.pointer (Bk β m.pop.top))).trans (Uw HNe2.o (.int .i64 (m.top.k:Nat)) (.bool m.top.y) (.int .i64 m.top.n) (.string ⟨m.top.t.toArray⟩) (.pointer (Bk β m.top)));exact⟨rfl,q1.Abv,Cn.o.trans (q2.trans (Dw _ _ 1))⟩
def Cp(X:Nat->Prop)(w:World):Nat->Prop:=fun g=>X g\/(w.heap.size<=g/\g<w.heap.size+1)
theorem MC.Ms.back(h:C.Ms D (Cp X w) β w' m):C.Ms D X β w' m:=h.less (fun _ h=>.inl h) (fun _ _ _=>rfl) rfl
theorem Ae{w1 w2:World}(h:A3 (dx D (Cp X w)) w1 w2):A3 (dx D X) w1 w2:=h.weak (fun _ hg=>hg.imp id .inl)
theorem MC.Ms.Hs(h:C.Ms D X β w m):C.Ms D X β w.drew m:=(h.below (w':=w.drew) ⟨rfl,rfl,rfl,Nat.le_refl _,fun _ _=>rfl⟩).1
theorem MC.Ms.enter(h:C.Ms D X β w m)(o:Obj):C.Ms D (Cp X w) β (w.alloc o) m/\A3 (dx D X) w (w.alloc o)/\dx D (Cp X w) w.heap.size:=by
 have hb:Below w.heap.size w (w.alloc o):=Below.alloc (Below.refl _ _) (Nat.le_refl _) _;refine⟨?_,(h.below hb).2,.inr (.inr ⟨Nat.le_refl _,by omega⟩)⟩;have:=h.more hb;rw[World.size_alloc]at this;exact this
theorem B1{w:World}{b:Nat}{a0 a1 a2 a3 a4 a5 a6 a7:Value}{t:TypeId}(h:w.heap[b]?=some (.cells #[a0,a1,a2,a3,a4,a5,a6,a7] t (0,0))):w.cell? ⟨b,0,none⟩=some a0/\w.cell? ⟨b,1,none⟩=some a1/\w.cell? ⟨b,2,none⟩=some a2/\w.cell? ⟨b,3,none⟩=some a3/\w.cell? ⟨b,4,none⟩=some a4/\w.cell? ⟨b,5,none⟩=some a5/\w.cell? ⟨b,6,none⟩=some a6/\w.cell? ⟨b,7,none⟩=some a7/\b<w.heap.size:=
 ⟨A2 h 0 _ rfl,A2 h 1 _ rfl,A2 h 2 _ rfl,A2 h 3 _ rfl,A2 h 4 _ rfl,A2 h 5 _ rfl,A2 h 6 _ rfl,A2 h 7 _ rfl,A5 h⟩
theorem MC.Ms.C1(h:C.Ms D X β w m)(i:Ac):∃w0,Hid (w0=w.alloc (.cells #[.int .i64 (i.op:Nat),.int .i64 i.arg,.int .i64 (i.line:Nat),.int .i64 (i.v.k:Nat),.bool i.v.y,.int .i64 i.v.n,.string ⟨i.v.t.toArray⟩,.pointer none] 251))/\Hid (C.Ms D (Cp X w) β w0 m)/\Hid (A3 (dx D X) w w0)/\Hid (dx D (Cp X w) w.heap.size)/\Hid (w0.heap[w.heap.size]?=some (.cells #[.int .i64 (i.op:Nat),.int .i64 i.arg,.int .i64 (i.line:Nat),.int .i64 (i.v.k:Nat),.bool i.v.y,.int .i64 i.v.n,.string ⟨i.v.t.toArray⟩,.pointer none] 251 (0,0)))/\w0.cell? ⟨w.heap.size,0,none⟩=some (.int .i64 (i.op:Nat))/\w0.cell? ⟨w.heap.size,1,none⟩=some (.int .i64 i.arg)/\w0.cell? ⟨w.heap.size,2,none⟩=some (.int .i64 (i.line:Nat))/\w0.cell? ⟨w.heap.size,3,none⟩=some (.int .i64 (i.v.k:Nat))/\w0.cell? ⟨w.heap.size,4,none⟩=some (.bool i.v.y)/\w0.cell? ⟨w.heap.size,5,none⟩=some (.int .i64 i.v.n)/\w0.cell? ⟨w.heap.size,6,none⟩=some (.string ⟨i.v.t.toArray⟩)/\w0.cell? ⟨w.heap.size,7,none⟩=some (.pointer none)/\w.heap.size<w0.heap.size/\C.mb<w.heap.size/\C.mb<w0.heap.size:=by
 obtain⟨h0,Bf,F9⟩:=h.enter (.cells #[.int .i64 (i.op:Nat),.int .i64 i.arg,.int .i64 (i.line:Nat),.int .i64 (i.v.k:Nat),.bool i.v.y,.int .i64 i.v.n,.string ⟨i.v.t.toArray⟩,.pointer none] 251);have hi0:=heap_alloc_new w (.cells #[.int .i64 (i.op:Nat),.int .i64 i.arg,.int .i64 (i.line:Nat),.int .i64 (i.v.k:Nat),.bool i.v.y,.int .i64 i.v.n,.string ⟨i.v.t.toArray⟩,.pointer none] 251);obtain⟨n0,n1,n2,n3,n4,n5,n6,n7,ln⟩:=B1 hi0;exact⟨_,A0 rfl,A0 h0,A0 Bf,A0 F9,A0 hi0,n0,n1,n2,n3,n4,n5,n6,n7,ln,h.Au,h0.Au⟩
theorem z21a {P:Prop} (h:P:=by
  refine Ig ?_;go_wp2_with fail
  refine(HP.o).mono ?_;rintro e w1 ⟨rfl,h1,k1⟩;have A7:=A0 h1.back;have A4:Hid (A3 (dx D X) w w1):=Af.o.trans ((Dw _ w0 1).trans (Ae k1));clear h1 k1;go_wp2;go_end0;exact⟨rfl,A7.o,A4.o⟩):P:=h
theorem aconst(h:C.Ms D X β w m)(i:Ac)(hr:i.v.r=none)(hk:i.v.k≠4)(hn:m.vals.length+1<=100000):Calls Tryz.prog 148 #[.pointer (some ⟨C.mb,0,none⟩),Ab i] w (MP C D X β w (m.push i.v) (.tuple #[])):=by
 obtain⟨w0,Am,Ap,Af,Al,Aq,n0,n1,n2,n3,n4,n5,n6,n7,ln,lb,Bz⟩:=h.C1 i;clear h;have HP:=A0 ((Ap.o.Hs).push i.v (by unfold C8;rw[hr];exact hk) hn);have hrf:Bk β i.v=none:=by unfold Bk;rw[hr]
 unfold Az at HP;rw[hrf]at HP;clear hr hrf;unfold Ab;go_enter Tryz.func148,Tryz.ntmps148;go_wp2;rw[←Am.o];refine Ih 5 z4xa z4xa ?_;simp only[List.take_succ_cons,List.take_zero,List.drop_succ_cons,List.drop_zero];iterate 5 (refine Ez (fun K' hK'=>?_);go_simp;refine hK' _ ?_;clear hK' K')
 exact z21a
theorem z26a {P:Prop} (h:P:=by
  go_wp2_with fail
  rw[←Am.o];refine HP.o.mono ?_;rintro e w1 ⟨rfl,h1,k1⟩;have A7:=A0 h1.back;have A4:Hid (A3 (dx D X) w w1):=Af.o.trans (Ae k1);clear h1 k1;unfold Az;go_wp2;go_end0;exact⟨rfl,A7.o,A4.o⟩):P:=h
theorem A73(h:C.Ms D X β w m)(i:Ac):Calls Tryz.prog 153 #[.pointer (some ⟨C.mb,0,none⟩),Ab i] w (MP C D X β w (m.pop) (.tuple #[])):=by
 obtain⟨w0,Am,Ap,Af,Al,Aq,n0,n1,n2,n3,n4,n5,n6,n7,ln,lb,Bz⟩:=h.C1 i;clear h;have HP:=A0 Ap.o.pop;unfold Ab;go_enter Tryz.func153,Tryz.ntmps153;exact z26a
theorem A61(h:C.Ms D X β w m)(i:Ac):Calls Tryz.prog 157 #[.pointer (some ⟨C.mb,0,none⟩),Ab i] w (MP C D X β w (if m.top.k=1 then m else m.fail 5 i) (.tuple #[])):=by
 obtain⟨w0,Am,Ap,Af,Al,Aq,n0,n1,n2,n3,n4,n5,n6,n7,ln,lb,Bz⟩:=h.C1 i;clear h;have HP:=A0 Ap.o.top;have HF:=A0 (fun(W:World) (hs:C.Ms D (Cp X w) β W m)=>Gw hs 5 i);have vf0:=Rm;by_cases hk:m.top.k=1
 ·have t1:(((m.top.k:Nat):Int) !=1)=false:=by rw[hk];rfl
  rw[if_pos hk];clear hk;unfold Ab;go_enter Tryz.func157,Tryz.ntmps157;exact z26a
 ·have t1:(((m.top.k:Nat):Int) !=1)=true:=by rw[bne_iff_ne];omega
  rw[if_neg hk];clear hk;unfold Ab;go_enter Tryz.func157,Tryz.ntmps157;go_wp2_with fail
  rw[←Am.o];refine HP.o.mono ?_;rintro e w1 ⟨rfl,h1,k1⟩;have Ad:=(k1.block _ Al.o).trans Aq.o;have HF1:=A0 (HF.o w1 h1);have A4:Hid (A3 (dx D X) w w1):=Af.o.trans (Ae k1);clear n0 n1 n2 n3 n4 n5 n6 n7 ln;obtain⟨n0,n1,n2,n3,n4,n5,n6,n7,ln⟩:=B1 Ad;clear h1 k1 Ad;unfold Az;unfold Ab at HF1;go_wp2_with fail
  refine HF1.o.mono ?_;rintro e w2 ⟨rfl,h2,k2⟩;have Ai:=A0 h2.back;have Aa:Hid (A3 (dx D X) w w2):=A4.o.trans (Ae k2);clear h2 k2;go_wp2;go_end0;exact z38a
theorem Sn(h:C.Ms D X β w m)(i:Ac)(hb:m.both 2=true):Calls Tryz.prog 251 #[.pointer (some ⟨C.mb,0,none⟩),Ab i] w (MP C D X β w (m) (.bool true)):=by
 obtain⟨w0,Am,Ap,Af,Al,Aq,n0,n1,n2,n3,n4,n5,n6,n7,ln,lb,Bz⟩:=h.C1 i;clear h;have HP:=A0 (Jh Ap.o 2);rw[hb]at HP;have HF:=A0 (fun(W:World) (hs:C.Ms D (Cp X w) β W m)=>Gw hs 5 i);clear hb;unfold Ab;go_enter Tryz.func251,Tryz.ntmps251;go_wp2_with fail
 rw[←Am.o];refine HP.o.mono ?_;rintro e w1 ⟨rfl,h1,k1⟩;have A7:=A0 h1.back;have A4:Hid (A3 (dx D X) w w1):=Af.o.trans (Ae k1);clear h1 k1 HF;go_wp2;go_ret;exact z3ja
theorem Sm(h:C.Ms D X β w m)(i:Ac)(hb:m.both 2=false):Calls Tryz.prog 251 #[.pointer (some ⟨C.mb,0,none⟩),Ab i] w (MP C D X β w (m.fail 5 i) (.bool false)):=by
 obtain⟨w0,Am,Ap,Af,Al,Aq,n0,n1,n2,n3,n4,n5,n6,n7,ln,lb,Bz⟩:=h.C1 i;clear h;have HP:=A0 (Jh Ap.o 2);rw[hb]at HP;have HF:=A0 (fun(W:World) (hs:C.Ms D (Cp X w) β W m)=>Gw hs 5 i);clear hb;unfold Ab;go_enter Tryz.func251,Tryz.ntmps251;go_wp2_with fail
 rw[←Am.o];refine HP.o.mono ?_;rintro e w1 ⟨rfl,h1,k1⟩;have Ad:=(k1.block _ Al.o).trans Aq.o;have HF1:=A0 (HF.o w1 h1);have A4:Hid (A3 (dx D X) w w1):=Af.o.trans (Ae k1);clear n0 n1 n2 n3 n4 n5 n6 n7 ln;obtain⟨n0,n1,n2,n3,n4,n5,n6,n7,ln⟩:=B1 Ad;clear h1 k1 Ad;unfold Ab at HF1;go_wp2_with fail
 refine HF1.o.mono ?_;rintro e w2 ⟨rfl,h2,k2⟩;have Ai:=A0 h2.back;have Aa:Hid (A3 (dx D X) w w2):=A4.o.trans (Ae k2);clear h2 k2;go_wp2;go_ret;exact z38a
theorem z0ma {P:Prop} (h:P:=by
  go_wp2_with fail
  rw[←Am.o];refine HT.o.mono ?_;rintro e w1 ⟨rfl,h1,k1⟩;have Bj:=h1.Au;have A8:Below w1.heap.size w1 ((w1.alloc (.cells #[.int .i64 (m.pop.top.k:Nat),.bool m.pop.top.y,.int .i64 m.pop.top.n,.string ⟨m.pop.top.t.toArray⟩,.pointer (Bk β m.pop.top)] 225)).alloc (.cells #[.int .i64 (m.top.k:Nat),.bool m.top.y,.int .i64 m.top.n,.string ⟨m.top.t.toArray⟩,.pointer (Bk β m.top)] 225)):=Below.alloc (Below.alloc (Below.refl _ _) (Nat.le_refl _) _) z50a _;have B2:=A0 (HP.o _ (h1.below A8).1);have Aa:Hid (A3 (dx D X) w ((w1.alloc (.cells #[.int .i64 (m.pop.top.k:Nat),.bool m.pop.top.y,.int .i64 m.pop.top.n,.string ⟨m.pop.top.t.toArray⟩,.pointer (Bk β m.pop.top)] 225)).alloc (.cells #[.int .i64 (m.top.k:Nat),.bool m.top.y,.int .i64 m.top.n,.string ⟨m.top.t.toArray⟩,.pointer (Bk β m.top)] 225))):=Af.o.trans ((Ae k1).trans (Ae (h1.below A8).2));clear h1 k1 A8;go_wp2_with fail
  refine B2.o.mono ?_;rintro e w3 ⟨rfl,h3,k3⟩;have Bc:=A0 h3.back;have Av:Hid (A3 (dx D X) w w3):=Aa.o.trans (Ae k3);clear h3 k3;go_wp2;go_end0;exact⟨rfl,Bc.o,Av.o⟩):P:=h
theorem z52a {P:Prop} (h:P:=by simp[MS.pop];omega):P:=h
theorem A8i(h:C.Ms D X β w m)(i:Ac)(ho:i.op=16)(hn:m.vals.length+1<=100000):Calls Tryz.prog 214 #[.pointer (some ⟨C.mb,0,none⟩),Ab i] w (MP C D X β w (m.two fun a b m'=>m'.push (ofInt (wr (a.n-b.n)))) (.tuple #[])):=by
 obtain⟨w0,Am,Ap,Af,Al,Aq,n0,n1,n2,n3,n4,n5,n6,n7,ln,lb,Bz⟩:=h.C1 i;clear h;have HT:=A0 (Eh Ap.o);have HP:=A0 (fun(W:World) (hs:C.Ms D (Cp X w) β W m.pop.pop)=>M7 hs (wr (m.pop.top.n-m.top.n)) z52a);have t0:((i.op:Int)==15)=false:=by rw[ho];rfl
 have t1:((i.op:Int)==16)=true:=by rw[ho];rfl
 unfold Az at HT;clear ho;unfold Ab;go_enter Tryz.func214,Tryz.ntmps214;exact z0ma
theorem z0ha {P:Prop} (h:P:=by
  go_wp2_with fail
  rw[←Am.o];refine HA.o.mono ?_;rintro e w9 ⟨rfl,h9,k9⟩;have HTx:=A0 (HTw.o w9 h9);unfold Az at HTx;have D9:Hid (A3 (dx D X) w w9):=Af.o.trans (Ae k9);have lb9:=h9.Au;clear h9 k9;go_wp2_with fail
  refine HTx.o.mono ?_;rintro e w1 ⟨rfl,h1,k1⟩;have Bj:=h1.Au;have A8:Below w1.heap.size w1 ((w1.alloc (.cells #[.int .i64 (m.pop.top.k:Nat),.bool m.pop.top.y,.int .i64 m.pop.top.n,.string ⟨m.pop.top.t.toArray⟩,.pointer (Bk β m.pop.top)] 225)).alloc (.cells #[.int .i64 (m.top.k:Nat),.bool m.top.y,.int .i64 m.top.n,.string ⟨m.top.t.toArray⟩,.pointer (Bk β m.top)] 225)):=Below.alloc (Below.alloc (Below.refl _ _) (Nat.le_refl _) _) z50a _;have B2:=A0 (HP.o _ (h1.below A8).1);have Aa:Hid (A3 (dx D X) w ((w1.alloc (.cells #[.int .i64 (m.pop.top.k:Nat),.bool m.pop.top.y,.int .i64 m.pop.top.n,.string ⟨m.pop.top.t.toArray⟩,.pointer (Bk β m.pop.top)] 225)).alloc (.cells #[.int .i64 (m.top.k:Nat),.bool m.top.y,.int .i64 m.top.n,.string ⟨m.top.t.toArray⟩,.pointer (Bk β m.top)] 225))):=D9.o.trans ((Ae k1).trans (Ae (h1.below A8).2));clear h1 k1 A8;go_wp2_with fail
  refine B2.o.mono ?_;rintro e w3 ⟨rfl,h3,k3⟩;have Bc:=A0 h3.back;have Av:Hid (A3 (dx D X) w w3):=Aa.o.trans (Ae k3);clear h3 k3;go_wp2;go_end0;exact⟨rfl,Bc.o,Av.o⟩):P:=h
theorem A8h(h:C.Ms D X β w m)(i:Ac)(ho:i.op=15)(hn:m.vals.length+1<=100000):Calls Tryz.prog 214 #[.pointer (some ⟨C.mb,0,none⟩),Ab i] w (MP C D X β w (m.ints i (fun a b m'=>m'.push (ofInt (wr (a-b))))) (.tuple #[])):=by
 obtain⟨w0,Am,Ap,Af,Al,Aq,n0,n1,n2,n3,n4,n5,n6,n7,ln,lb,Bz⟩:=h.C1 i;clear h;have HP:=A0 (fun(W:World) (hs:C.Ms D (Cp X w) β W m.pop.pop)=>M7 hs (wr (m.pop.top.n-m.top.n)) z52a);have t0:((i.op:Int)==15)=true:=by rw[ho];rfl
 have HTw:=A0 (fun(W:World) (hs:C.Ms D (Cp X w) β W m)=>Eh hs);unfold MS.ints;clear ho;cases hb:m.both 2
 ·rw[if_neg z50a];have HA:=A0 (Sm Ap.o i hb);unfold Ab at HA;clear hb HP HTw;unfold Ab;go_enter Tryz.func214,Tryz.ntmps214;go_wp2_with fail
  rw[←Am.o];refine HA.o.mono ?_;rintro e w1 ⟨rfl,h1,k1⟩;have A7:=A0 h1.back;have A4:Hid (A3 (dx D X) w w1):=Af.o.trans (Ae k1);clear h1 k1;go_wp2;refine bodyPost_ret (v:=.tuple #[]) (by simp[results,Tryz.results214,go_sem]) rfl ?_;exact z3ja
 ·rw[if_pos rfl];have HA:=A0 (Sn Ap.o i hb);unfold Ab at HA;clear hb;unfold Ab;go_enter Tryz.func214,Tryz.ntmps214;exact z0ha
theorem A7q(h:C.Ms D X β w m)(i:Ac)(ho:i.op=18)(hn:m.vals.length+1<=100000):Calls Tryz.prog 215 #[.pointer (some ⟨C.mb,0,none⟩),Ab i] w (MP C D X β w (m.two fun a b m'=>m'.push (ofInt (wr (a.n*b.n)))) (.tuple #[])):=by
 obtain⟨w0,Am,Ap,Af,Al,Aq,n0,n1,n2,n3,n4,n5,n6,n7,ln,lb,Bz⟩:=h.C1 i;clear h;have HT:=A0 (Eh Ap.o);have HP:=A0 (fun(W:World) (hs:C.Ms D (Cp X w) β W m.pop.pop)=>M7 hs (wr (m.pop.top.n*m.top.n)) z52a);have t0:((i.op:Int)==17)=false:=by rw[ho];rfl
 have t1:((i.op:Int)==18)=true:=by rw[ho];rfl
 unfold Az at HT;clear ho;unfold Ab;go_enter Tryz.func215,Tryz.ntmps215;exact z0ma
theorem A7p(h:C.Ms D X β w m)(i:Ac)(ho:i.op=17)(hn:m.vals.length+1<=100000):Calls Tryz.prog 215 #[.pointer (some ⟨C.mb,0,none⟩),Ab i] w (MP C D X β w (m.ints i (fun a b m'=>m'.push (ofInt (wr (a*b))))) (.tuple #[])):=by
 obtain⟨w0,Am,Ap,Af,Al,Aq,n0,n1,n2,n3,n4,n5,n6,n7,ln,lb,Bz⟩:=h.C1 i;clear h;have HP:=A0 (fun(W:World) (hs:C.Ms D (Cp X w) β W m.pop.pop)=>M7 hs (wr (m.pop.top.n*m.top.n)) z52a);have t0:((i.op:Int)==17)=true:=by rw[ho];rfl
 have HTw:=A0 (fun(W:World) (hs:C.Ms D (Cp X w) β W m)=>Eh hs);unfold MS.ints;clear ho;cases hb:m.both 2
 ·rw[if_neg z50a];have HA:=A0 (Sm Ap.o i hb);unfold Ab at HA;clear hb HP HTw;unfold Ab;go_enter Tryz.func215,Tryz.ntmps215;go_wp2_with fail
  rw[←Am.o];refine HA.o.mono ?_;rintro e w1 ⟨rfl,h1,k1⟩;have A7:=A0 h1.back;have A4:Hid (A3 (dx D X) w w1):=Af.o.trans (Ae k1);clear h1 k1;go_wp2;refine bodyPost_ret (v:=.tuple #[]) (by simp[results,Tryz.results215,go_sem]) rfl ?_;exact z3ja
 ·rw[if_pos rfl];have HA:=A0 (Sn Ap.o i hb);unfold Ab at HA;clear hb;unfold Ab;go_enter Tryz.func215,Tryz.ntmps215;exact z0ha
theorem MC.Ms.base(h:C.Ms D X β w m):w.cell? ⟨C.mb,8,none⟩=some (.int .i64 m.now.base):=by
 obtain⟨ρ,s,x,fv,ab,lp,h⟩:=h;have:=A2 h.cell 8 (.int .i64 x.base) rfl;rw[h.now.base]at this;exact this
theorem A7d(h:C.Ms D X β w m)(i:Ac)(ha:0<=i.arg):Calls Tryz.prog 154 #[.pointer (some ⟨C.mb,0,none⟩),Ab i] w (MP C D X β w (m.jump i.arg) (.tuple #[])):=by
 obtain⟨ρ,s,x,fv,ab,lp,h⟩:=h;obtain⟨c0,c1,c2,c3,c4,c5,c6,c7,c8,c9,c10,c11,c12,c13,fz,lb⟩:=Qj (show w.heap[C.mb]?=some (.cells #[_,_,_,_,_,_,_,_,_,_,_,_,_,_] _ (0,0)) from h.cell);have HH:=A0 h;have HA:Hid (((i.arg.toNat:Nat):Int)=i.arg):=by show _=_;omega
 have HN:=A0 (show Jk D w { x with pc:=i.arg.toNat } ⟨m.now.steps,i.arg.toNat,m.now.base⟩ from⟨h.now.row,rfl,h.now.base⟩);clear h c0 c1 c2 c3 c4 c5 c6 c8 c9 c10 c11 c12 c13 ha;unfold Ab;go_enter Tryz.func154,Tryz.ntmps154;go_wp2;go_end0;rw[show Value.int .i64 i.arg=.int .i64 ((i.arg.toNat:Nat):Int) by rw[HA.o]];have hcl:((w.setCell ⟨C.mb,7,none⟩ (.int .i64 ((i.arg.toNat:Nat):Int))).alloc (.cells #[.int .i64 (i.op:Nat),.int .i64 ((i.arg.toNat:Nat):Int),.int .i64 (i.line:Nat),.int .i64 (i.v.k:Nat),.bool i.v.y,.int .i64 i.v.n,.string ⟨i.v.t.toArray⟩,.pointer none] 251)).heap[C.mb]?=some (.cells (C.cells s { x with pc:=i.arg.toNat } (m.fuel) (m.cells) (m.code) (m.line)) 167 (0,0)):=by
  rw[Below.heap_alloc _ _ _ z4za,(heap_set (j:=7) HH.o.cell (.int .i64 ((i.arg.toNat:Nat):Int)))];simp[MC.cells]
 have hkk:∀g,g<w.heap.size->g≠C.mb->((w.setCell ⟨C.mb,7,none⟩ (.int .i64 ((i.arg.toNat:Nat):Int))).alloc (.cells #[.int .i64 (i.op:Nat),.int .i64 ((i.arg.toNat:Nat):Int),.int .i64 (i.line:Nat),.int .i64 (i.v.k:Nat),.bool i.v.y,.int .i64 i.v.n,.string ⟨i.v.t.toArray⟩,.pointer none] 251)).heap[g]?=w.heap[g]?:=by
  exact z22a
 have hpl:=HH.o.plain (now:=⟨m.now.steps,i.arg.toNat,m.now.base⟩) (fuel:=m.fuel) (cells:=m.cells) (code:=m.code) (line:=m.line) (x':={ x with pc:=i.arg.toNat }) HN.o hcl hkk z58a rfl rfl rfl;exact⟨rfl,hpl⟩
theorem A7m(h:C.Ms D X β w m)(i:Ac)(hb:-1000000<=m.now.base/\m.now.base<=1000000)(ha:-1000000<=i.arg/\i.arg<=1000000)(hn:m.vals.length+1<=100000)(hv:C8 m.arr.length (m.at' (m.now.base+i.arg))):Calls Tryz.prog 149 #[.pointer (some ⟨C.mb,0,none⟩),Ab i] w (MP C D X β w (m.push (m.at' (m.now.base+i.arg))) (.tuple #[])):=by
 obtain⟨w0,Am,Ap,Af,Al,Aq,n0,n1,n2,n3,n4,n5,n6,n7,ln,lb,Bz⟩:=h.C1 i;clear h;have cb:=Ap.o.base;have HA:=A0 (Ap.o.Hs.at' (m.now.base+i.arg));have HP:=A0 (fun(W:World) (hs:C.Ms D (Cp X w) β W m)=>hs.push (m.at' (m.now.base+i.arg)) hv hn);have Dq:IntKind.i64.wrap (m.now.base+i.arg)=m.now.base+i.arg:=by rw[IntKind.wrap_i64];omega
 unfold Az at HA HP;clear hv;generalize hu9:m.at' (m.now.base+i.arg)=u at *;clear hu9;rw[←Dq]at HA;clear Dq;unfold Ab;go_enter Tryz.func149,Tryz.ntmps149;go_wp2;rw[←Am.o];go_region_law (first
  | (refine Eo rfl 99 _ _ rfl #[.pointer (some ⟨C.mb,4,none⟩),.agg #[.int .i64 (u.k:Nat),.bool u.y,.int .i64 u.n,.string ⟨u.t.toArray⟩,.pointer (Bk β u)]] z4xa Bv.o ?_;rintro e w2 ⟨rfl,h2,k2⟩;refine⟨_,rfl,?_⟩;have Ai:=A0 h2.back;have Aa:Hid (A3 (dx D X) w w2):=A4.o.trans (Ae k2);clear h2 k2)
  | (refine Eo rfl 195 _ _ rfl #[.pointer (some ⟨C.mb,4,none⟩),.int .i64 (IntKind.i64.wrap (m.now.base+i.arg))] z4xa HA.o ?_;rintro e w1 ⟨rfl,h1,k1⟩;refine⟨_,rfl,?_⟩;have Bv:=A0 (HP.o w1 h1);have Bj:=h1.Au;have A4:Hid (A3 (dx D X) w w1):=Af.o.trans ((Dw _ w0 1).trans (Ae k1));clear h1 k1))
 all_goals go_wp2
 all_goals go_end0
 all_goals exact⟨rfl,Ai.o,Aa.o⟩
theorem A8f(h:C.Ms D X β w m)(i:Ac)(hb:-1000000<=m.now.base/\m.now.base<=1000000)(ha:-1000000<=i.arg/\i.arg<=1000000)(hv:C8 m.arr.length m.top):Calls Tryz.prog 151 #[.pointer (some ⟨C.mb,0,none⟩),Ab i] w (MP C D X β w (m.pop.put (m.now.base+i.arg) m.top) (.tuple #[])):=by
 obtain⟨w0,Am,Ap,Af,Al,Aq,n0,n1,n2,n3,n4,n5,n6,n7,ln,lb,Bz⟩:=h.C1 i;clear h;have cb:=Ap.o.base;have HA:=A0 Ap.o.Hs.pop;have HP:=A0 (fun(W:World) (hs:C.Ms D (Cp X w) β W m.pop)=>hs.put (m.now.base+i.arg) m.top hv);have Dq:IntKind.i64.wrap (m.now.base+i.arg)=m.now.base+i.arg:=by rw[IntKind.wrap_i64];omega
 unfold Az at HA HP;clear hv;have HBs:=A0 (fun(W:World) (hs:C.Ms D (Cp X w) β W m.pop)=>hs.base);generalize hu9:m.top=u at *;have HU:=A0 hu9;clear hu9;rw[show(m.now.base+i.arg)=IntKind.i64.wrap (m.now.base+i.arg) from Dq.symm]at HP;have HW9:=A0 Dq;clear Dq;unfold Ab;go_enter Tryz.func151,Tryz.ntmps151;go_wp2;rw[←Am.o];go_region_law (first
  | (refine Eo rfl 196 _ _ rfl #[.pointer (some ⟨C.mb,4,none⟩),.int .i64 (IntKind.i64.wrap (m.now.base+i.arg)),.agg #[.int .i64 (u.k:Nat),.bool u.y,.int .i64 u.n,.string ⟨u.t.toArray⟩,.pointer (Bk β u)]] z4xa Bv.o ?_;rintro e w2 ⟨rfl,h2,k2⟩;refine⟨_,rfl,?_⟩;have Ai:=A0 h2.back;have Aa:Hid (A3 (dx D X) w w2):=A4.o.trans (Ae k2);clear h2 k2)
  | (refine Eo rfl 197 _ _ rfl #[.pointer (some ⟨C.mb,4,none⟩)] z4xa HA.o ?_;rintro e w1 ⟨rfl,h1,k1⟩;refine⟨_,rfl,?_⟩;have Bv:=A0 (HP.o w1 h1);have Bj:=h1.Au;have cb1:=HBs.o w1 h1;simp only[MS.pop]at cb1;have Ad:=(k1.block _ Al.o).trans Aq.o;have y1:=A2 Ad 1 _ rfl;have ly:=A5 Ad;have A4:Hid (A3 (dx D X) w w1):=Af.o.trans ((Dw _ w0 1).trans (Ae k1));clear h1 k1 Ad))
 all_goals go_wp2
 all_goals go_end0
 all_goals
  have q:=Ai.o;rw[HW9.o]at q;exact⟨rfl,q,Aa.o⟩
theorem z4ua {P:Prop} (h:P:=by repeat (first|exact Below.refl _ _|refine Below.alloc ?_ z50a _|refine Below.setCell ?_ z50a _|refine Below.drew ?_)):P:=h
theorem z02a {P:Prop} (h:P:=by
  go_wp2_with fail
  rw[←Am.o];refine HT.o.mono ?_;rintro e w1 ⟨rfl,h1,k1⟩;have Bj:=h1.Au;have Bi:=A0 (fun(W:World) (hb:Below w1.heap.size w1 W)=>((HP.o W (h1.below hb).1).mono (fun e w3 (q:MP C D (Cp X w) β W _ _ e w3)=>(⟨q.1,q.2.1.back,Af.o.trans ((Ae k1).trans ((Ae (h1.below hb).2).trans (Ae q.2.2)))⟩:MP C D X β w _ _ e w3))));have Ad:=(k1.block _ Al.o).trans Aq.o;clear n0 n1 n2 n3 n4 n5 n6 n7 ln;obtain⟨n0,n1,n2,n3,n4,n5,n6,n7,ln⟩:=B1 Ad;clear h1 k1 Ad;go_wp2_with fail
  refine(Bi.o _ z4ua).mono ?_;rintro e w3 ⟨rfl,q2,q3⟩;have Gy:=A0 q2;have HQ3:=A0 q3;clear q2 q3;go_wp2;go_end0;exact⟨rfl,Gy.o,HQ3.o⟩):P:=h
theorem z20a {P:Prop} (h:P:=by
  unfold Az at HT;clear ho;unfold Ab;go_enter Tryz.func222,Tryz.ntmps222;exact z02a):P:=h
theorem A7o(h:C.Ms D X β w m)(i:Ac)(ho:i.op=33)(hn:m.vals.length+1<=100000):Calls Tryz.prog 222 #[.pointer (some ⟨C.mb,0,none⟩),Ab i] w (MP C D X β w (m.two fun a b m'=>m'.push (ofBool (decide (a.n<b.n)))) (.tuple #[])):=by
 obtain⟨w0,Am,Ap,Af,Al,Aq,n0,n1,n2,n3,n4,n5,n6,n7,ln,lb,Bz⟩:=h.C1 i;clear h;have t32:((i.op:Int)==32)=false:=by rw[ho];rfl
 have t33:((i.op:Int)==33)=true:=by rw[ho];rfl
 have HT:=A0 (Eh Ap.o);have HP:=A0 (fun(W:World) (hs:C.Ms D (Cp X w) β W m.pop.pop)=>Ji hs (decide (m.pop.top.n<m.top.n)) z52a);exact z20a
theorem A7h(h:C.Ms D X β w m)(i:Ac)(ho:i.op=35)(hn:m.vals.length+1<=100000):Calls Tryz.prog 222 #[.pointer (some ⟨C.mb,0,none⟩),Ab i] w (MP C D X β w (m.two fun a b m'=>m'.push (ofBool (decide (a.n<=b.n)))) (.tuple #[])):=by
 obtain⟨w0,Am,Ap,Af,Al,Aq,n0,n1,n2,n3,n4,n5,n6,n7,ln,lb,Bz⟩:=h.C1 i;clear h;have t32:((i.op:Int)==32)=false:=by rw[ho];rfl
 have t33:((i.op:Int)==33)=false:=by rw[ho];rfl
 have t34:((i.op:Int)==34)=false:=by rw[ho];rfl
 have t35:((i.op:Int)==35)=true:=by rw[ho];rfl
 have HT:=A0 (Eh Ap.o);have HP:=A0 (fun(W:World) (hs:C.Ms D (Cp X w) β W m.pop.pop)=>Ji hs (decide (m.pop.top.n<=m.top.n)) z52a);exact z20a
theorem A7b(h:C.Ms D X β w m)(i:Ac)(ho:i.op=32)(hn:m.vals.length+1<=100000):Calls Tryz.prog 222 #[.pointer (some ⟨C.mb,0,none⟩),Ab i] w (MP C D X β w (m.two fun a b m'=>m'.push (ofBool (decide (b.n<a.n)))) (.tuple #[])):=by
 obtain⟨w0,Am,Ap,Af,Al,Aq,n0,n1,n2,n3,n4,n5,n6,n7,ln,lb,Bz⟩:=h.C1 i;clear h;have t32:((i.op:Int)==32)=true:=by rw[ho];rfl
 have HT:=A0 (Eh Ap.o);have HP:=A0 (fun(W:World) (hs:C.Ms D (Cp X w) β W m.pop.pop)=>Ji hs (decide (m.top.n<m.pop.top.n)) z52a);exact z20a
theorem A7a(h:C.Ms D X β w m)(i:Ac)(ho:i.op=34)(hn:m.vals.length+1<=100000):Calls Tryz.prog 222 #[.pointer (some ⟨C.mb,0,none⟩),Ab i] w (MP C D X β w (m.two fun a b m'=>m'.push (ofBool (decide (b.n<=a.n)))) (.tuple #[])):=by
 obtain⟨w0,Am,Ap,Af,Al,Aq,n0,n1,n2,n3,n4,n5,n6,n7,ln,lb,Bz⟩:=h.C1 i;clear h;have t32:((i.op:Int)==32)=false:=by rw[ho];rfl
 have t33:((i.op:Int)==33)=false:=by rw[ho];rfl
 have t34:((i.op:Int)==34)=true:=by rw[ho];rfl
 have HT:=A0 (Eh Ap.o);have HP:=A0 (fun(W:World) (hs:C.Ms D (Cp X w) β W m.pop.pop)=>Ji hs (decide (m.top.n<=m.pop.top.n)) z52a);exact z20a
theorem A7s(h:C.Ms D X β w m)(i:Ac)(ho:i.op=24)(hn:m.vals.length+1<=100000):Calls Tryz.prog 218 #[.pointer (some ⟨C.mb,0,none⟩),Ab i] w (MP C D X β w (m.pop.push (ofInt (wr (-m.top.n)))) (.tuple #[])):=by
 obtain⟨w0,Am,Ap,Af,Al,Aq,n0,n1,n2,n3,n4,n5,n6,n7,ln,lb,Bz⟩:=h.C1 i;clear h;have HT:=A0 Ap.o.pop;have HP:=A0 (fun(W:World) (hs:C.Ms D (Cp X w) β W m.pop)=>M7 hs (wr (-m.top.n)) z52a);have vf2:=A4n;have t23:((i.op:Int)==23)=false:=by rw[ho];rfl
 have t24:((i.op:Int)==24)=true:=by rw[ho];rfl
 unfold Az at HT;clear ho;unfold Ab;go_enter Tryz.func218,Tryz.ntmps218;exact z02a
theorem A7v(h:C.Ms D X β w m)(i:Ac)(ho:i.op=27)(hk:m.top.k=1)(hn:m.vals.length+1<=100000):Calls Tryz.prog 220 #[.pointer (some ⟨C.mb,0,none⟩),Ab i] w (MP C D X β w (m.pop.push (ofBool (!m.top.y))) (.tuple #[])):=by
 obtain⟨w0,Am,Ap,Af,Al,Aq,n0,n1,n2,n3,n4,n5,n6,n7,ln,lb,Bz⟩:=h.C1 i;clear h;have HT:=A0 Ap.o.pop;have HP:=A0 (fun(W:World) (hs:C.Ms D (Cp X w) β W m.pop)=>Ji hs (!m.top.y) z52a);have tk:(((m.top.k:Nat):Int) !=1)=false:=by rw[hk];rfl
 have t26:((i.op:Int)==26)=false:=by rw[ho];rfl
 have t27:((i.op:Int)==27)=true:=by rw[ho];rfl
 unfold Az at HT;clear ho hk;unfold Ab;go_enter Tryz.func220,Tryz.ntmps220;exact z02a
theorem A7u(h:C.Ms D X β w m)(i:Ac)(ho:i.op=27)(hk:m.top.k≠1):Calls Tryz.prog 220 #[.pointer (some ⟨C.mb,0,none⟩),Ab i] w (MP C D X β w (m.pop.fail 5 i) (.tuple #[])):=by
 obtain⟨w0,Am,Ap,Af,Al,Aq,n0,n1,n2,n3,n4,n5,n6,n7,ln,lb,Bz⟩:=h.C1 i;clear h;have HT:=A0 Ap.o.pop;have HP:=A0 (fun(W:World) (hs:C.Ms D (Cp X w) β W m.pop)=>Gw hs 5 i);have tk:(((m.top.k:Nat):Int) !=1)=true:=by rw[bne_iff_ne];omega
 have t26:((i.op:Int)==26)=false:=by rw[ho];rfl
 have t27:((i.op:Int)==27)=true:=by rw[ho];rfl
 unfold Az at HT;unfold Ab at HP;clear ho hk;unfold Ab;go_enter Tryz.func220,Tryz.ntmps220;go_wp2_with fail
 rw[←Am.o];refine HT.o.mono ?_;rintro e w1 ⟨rfl,h1,k1⟩;have Bj:=h1.Au;have Bi:=A0 (fun(W:World) (hb:Below w1.heap.size w1 W)=>((HP.o W (h1.below hb).1).mono (fun e w3 (q:MP C D (Cp X w) β W _ _ e w3)=>(⟨q.1,q.2.1.back,Af.o.trans ((Ae k1).trans ((Ae (h1.below hb).2).trans (Ae q.2.2)))⟩:MP C D X β w _ _ e w3))));have Ad:=(k1.block _ Al.o).trans Aq.o;clear n0 n1 n2 n3 n4 n5 n6 n7 ln;obtain⟨n0,n1,n2,n3,n4,n5,n6,n7,ln⟩:=B1 Ad;clear h1 k1 Ad;go_wp2_with fail
 refine(Bi.o _ z4ua).mono ?_;rintro e w3 ⟨rfl,q2,q3⟩;have Gy:=A0 q2;have HQ3:=A0 q3;clear q2 q3;go_wp2;refine bodyPost_ret (v:=.tuple #[]) (by simp[results,Tryz.results220,go_sem]) rfl ?_;exact⟨rfl,Gy.o,HQ3.o⟩
theorem MC.Ms.Uq(h:C.Ms D X β w m):(∃v,w.cell? ⟨C.mb,7,none⟩=some v)/\(∀o,w.frozen? ⟨C.mb,o,none⟩=false):=by
 obtain⟨ρ,s,x,fv,ab,lp,h⟩:=h;exact⟨⟨_,A2 h.cell 7 (.int .i64 (x.pc:Nat)) rfl⟩,Bd h.cell⟩
theorem MC.Ms.T2(h:C.Ms D X β w m)(a:Int)(ha:0<=a):C.Ms D X β (w.setCell ⟨C.mb,7,none⟩ (.int .i64 a)) (m.jump a)/\A3 (dx D X) w (w.setCell ⟨C.mb,7,none⟩ (.int .i64 a)):=by
 obtain⟨ρ,s,x,fv,ab,lp,hv⟩:=h;have hcl:(w.setCell ⟨C.mb,7,none⟩ (.int .i64 a)).heap[C.mb]?=some (.cells (C.cells s { x with pc:=a.toNat } m.fuel m.cells m.code m.line) 167 (0,0)):=by
  rw[heap_set (j:=7) hv.cell (.int .i64 a)];have:((a.toNat:Nat):Int)=a:=by omega
  simp[MC.cells,this]
 exact hv.plain (now:=⟨m.now.steps,a.toNat,m.now.base⟩) (x':={ x with pc:=a.toNat }) ⟨hv.now.row,rfl,hv.now.base⟩ hcl (fun g _ hne=>Below.heap_setCell _ _ _ _ z5ma) z58a rfl rfl rfl
theorem A8m(h:C.Ms D X β w m)(i:Ac)(ho:i.op=8)(hk:m.top.k≠1):Calls Tryz.prog 155 #[.pointer (some ⟨C.mb,0,none⟩),Ab i] w (MP C D X β w (m.pop.fail 5 i) (.tuple #[])):=by
 obtain⟨w0,Am,Ap,Af,Al,Aq,n0,n1,n2,n3,n4,n5,n6,n7,ln,lb,Bz⟩:=h.C1 i;clear h;have HT:=A0 Ap.o.pop;have HP:=A0 (fun(W:World) (hs:C.Ms D (Cp X w) β W m.pop)=>Gw hs 5 i);have tk:(((m.top.k:Nat):Int) !=1)=true:=by rw[bne_iff_ne];omega
 have t7:((i.op:Int)==7)=false:=by rw[ho];rfl
 have t8:((i.op:Int)==8)=true:=by rw[ho];rfl
 unfold Az at HT;unfold Ab at HP;clear ho hk;unfold Ab;go_enter Tryz.func155,Tryz.ntmps155;exact z02a
theorem z49a {P:Prop} (h:P:=by
  go_wp2;go_end0;exact⟨rfl,HQ.o _ (Below.alloc (Below.refl _ _) (Nat.le_refl _) _)⟩):P:=h
theorem A8o(h:C.Ms D X β w m)(i:Ac)(ho:i.op=8)(hk:m.top.k=1)(hy:m.top.y=true):Calls Tryz.prog 155 #[.pointer (some ⟨C.mb,0,none⟩),Ab i] w (MP C D X β w (m.pop) (.tuple #[])):=by
 obtain⟨w0,Am,Ap,Af,Al,Aq,n0,n1,n2,n3,n4,n5,n6,n7,ln,lb,Bz⟩:=h.C1 i;clear h;have HT:=A0 Ap.o.pop;have tk:(((m.top.k:Nat):Int) !=1)=false:=by rw[hk];rfl
 have t7:((i.op:Int)==7)=false:=by rw[ho];rfl
 have t8:((i.op:Int)==8)=true:=by rw[ho];rfl
 unfold Az at HT;clear ho hk;unfold Ab;go_enter Tryz.func155,Tryz.ntmps155;go_wp2_with fail
 rw[←Am.o];refine HT.o.mono ?_;rintro e w1 ⟨rfl,h1,k1⟩;have Ad:=(k1.block _ Al.o).trans Aq.o;clear n0 n1 n2 n3 n4 n5 n6 n7 ln;obtain⟨n0,n1,n2,n3,n4,n5,n6,n7,ln⟩:=B1 Ad;have HQ:=A0 (fun(W:World) (hb:Below w1.heap.size w1 W)=>And.intro (h1.below hb).1.back (Af.o.trans ((Ae k1).trans (Ae (h1.below hb).2))));clear h1 k1 Ad;exact z49a
theorem A8n(h:C.Ms D X β w m)(i:Ac)(ho:i.op=8)(hk:m.top.k=1)(hy:m.top.y=false)(ha:0<=i.arg):Calls Tryz.prog 155 #[.pointer (some ⟨C.mb,0,none⟩),Ab i] w (MP C D X β w (m.pop.jump i.arg) (.tuple #[])):=by
 obtain⟨w0,Am,Ap,Af,Al,Aq,n0,n1,n2,n3,n4,n5,n6,n7,ln,lb,Bz⟩:=h.C1 i;clear h;have HT:=A0 Ap.o.pop;have tk:(((m.top.k:Nat):Int) !=1)=false:=by rw[hk];rfl
 have t7:((i.op:Int)==7)=false:=by rw[ho];rfl
 have t8:((i.op:Int)==8)=true:=by rw[ho];rfl
 unfold Az at HT;clear ho hk;unfold Ab;go_enter Tryz.func155,Tryz.ntmps155;go_wp2_with fail
 rw[←Am.o];refine HT.o.mono ?_;rintro e w1 ⟨rfl,h1,k1⟩;have Ad:=(k1.block _ Al.o).trans Aq.o;clear n0 n1 n2 n3 n4 n5 n6 n7 ln;obtain⟨n0,n1,n2,n3,n4,n5,n6,n7,ln⟩:=B1 Ad;obtain⟨⟨v7,c7⟩,f7⟩:=h1.Uq;have Bj:=h1.Au;obtain⟨s1,s2⟩:=h1.T2 i.arg ha;have HQ:=A0 (fun(W:World) (hb:Below (w1.setCell ⟨C.mb,7,none⟩ (.int .i64 i.arg)).heap.size (w1.setCell ⟨C.mb,7,none⟩ (.int .i64 i.arg)) W)=>And.intro (s1.below hb).1.back (Af.o.trans ((Ae k1).trans ((Ae s2).trans (Ae (s1.below hb).2)))));clear h1 k1 Ad s1 s2;exact z49a
end
section
open Go.RowKit
open Go.Deep (BT)
variable {C:MC} {D X:Nat->Prop} {w w':World} {m:MS} {ρ β:Nat->Nat} {s:Oe} {x:Eu} {fv:List Eu} {ab:List AB} {lp:List (Option Addr×Dv)}
theorem MC.Mv.Uy(h:C.Mv D X w m ρ β s x fv ab lp)(hc:G9 5 ρ w w'){ca:Option Addr}{cn cc:Nat}{fv':List Eu}{calls:List Fr}{x':Eu}{now:Fr}{fuel cells code line:Nat}
  (hcell:w'.heap[C.mb]?=some (.cells (C.cells { s with ca:=ca,cn:=cn,cc:=cc } x' fuel cells code line) 167 (0,0)))
  (hrow:w'.ownsRow 0 165 3 (.slice ca cn cc) fv'.length (Bw I7 fv')) (hro:∀g,(Value.slice ca cn cc).ownBlock=some g->(Value.slice s.ca s.cn s.cc).ownBlock=some g\/w.heap.size<=g) (hx:Jk D w x' now) (hfr:Kk D w fv' calls) (hl:calls.length<=100) :
  C.Mv D X w' { m with calls:=calls,now:=now,fuel:=fuel,cells:=cells,code:=code,line:=line } (F2 ρ w.heap.size 5) β { s with ca:=ca,cn:=cn,cc:=cc } x' fv' ab lp:=by
 have hbd:=h.F7 hc z4va;have hk:∀g,D g->g<w.heap.size->w'.heap[g]?=w.heap[g]?/\D g:=fun g hg _=>⟨hbd.block g (.inl hg),hg⟩;have hown:∀g,(Value.slice ca cn cc).ownBlock=some g->F2 ρ w.heap.size 5 g=5:=by
  intro g hg;rcases hro g hg with e|e
  ·rw[Bm (Bn h.calls g e)];exact h.callo g e
  ·exact Hj e
 refine⟨hcell,h.prog.keep hk,B4 h.lots (fun g hg hl=>hc.block g hl z57a z57a),fun g hg=>by rw[Bm (Bn h.lots g hg)];exact h.loto g hg,h.lotm,fun q hq=>(h.forms q hq).keep hk,
  B4 h.gl (fun g hg hl=>hc.block g hl z59a z59a),fun g hg=>by rw[Bm (Bn h.gl g hg)];exact h.glo g hg,B4 h.vals (fun g hg hl=>hc.block g hl z55a z55a),fun g hg=>by rw[Bm (Bn h.vals g hg)];exact h.valo g hg,
  hrow,hown,hfr.keep hk,hx.keep hk,
  B4 h.out (fun g hg hl=>hc.block g hl z56a z56a),fun g hg=>by rw[Bm (Bn h.out g hg)];exact h.outo g hg,h.arr.keep (fun g hl h7=>⟨hc.block g hl z4va z4va,Bm hl⟩),
  fun g hg=>⟨Nat.lt_of_lt_of_le (h.prot g hg).1 hc.size,by rw[Bm (h.prot g hg).1];exact(h.prot g hg).2⟩,⟨by rw[Bm h.lo.1];exact h.one.1,fun g hg=>?_⟩,⟨h.Br.1,hl,h.Br.2.2⟩,h.vv⟩
 exact z14a
theorem MC.Mv.Akt(h:C.Mv D X w m ρ β s x fv ab lp)(hc:G9 6 ρ w w'){oa:Option Addr}{on oc:Nat}{out:List (List UInt8)}{x':Eu}{now:Fr}{fuel cells code line:Nat}
  (hcell:w'.heap[C.mb]?=some (.cells (C.cells { s with oa:=oa,on:=on,oc:=oc } x' fuel cells code line) 167 (0,0)))
  (hrow:w'.ownsRow 0 9 1 (.slice oa on oc) out.length (Bw T6 out)) (hro:∀g,(Value.slice oa on oc).ownBlock=some g->(Value.slice s.oa s.on s.oc).ownBlock=some g\/w.heap.size<=g) (hx:Jk D w x' now) (hl:out.length<=100) :
  C.Mv D X w' { m with out:=out,now:=now,fuel:=fuel,cells:=cells,code:=code,line:=line } (F2 ρ w.heap.size 6) β { s with oa:=oa,on:=on,oc:=oc } x' fv ab lp:=by
 have hbd:=h.F7 hc z4va;have hk:∀g,D g->g<w.heap.size->w'.heap[g]?=w.heap[g]?/\D g:=fun g hg _=>⟨hbd.block g (.inl hg),hg⟩;have hown:∀g,(Value.slice oa on oc).ownBlock=some g->F2 ρ w.heap.size 6 g=6:=by
  intro g hg;rcases hro g hg with e|e
  ·rw[Bm (Bn h.out g e)];exact h.outo g e
  ·exact Hj e
 refine⟨hcell,h.prog.keep hk,B4 h.lots (fun g hg hl=>hc.block g hl z57a z57a),fun g hg=>by rw[Bm (Bn h.lots g hg)];exact h.loto g hg,h.lotm,fun q hq=>(h.forms q hq).keep hk,
  B4 h.gl (fun g hg hl=>hc.block g hl z59a z59a),fun g hg=>by rw[Bm (Bn h.gl g hg)];exact h.glo g hg,B4 h.vals (fun g hg hl=>hc.block g hl z55a z55a),fun g hg=>by rw[Bm (Bn h.vals g hg)];exact h.valo g hg,
  B4 h.calls (fun g hg hl=>hc.block g hl z54a z54a),fun g hg=>by rw[Bm (Bn h.calls g hg)];exact h.callo g hg,h.frs.keep hk,hx.keep hk,
  hrow,hown,h.arr.keep (fun g hl h7=>⟨hc.block g hl z4va z4va,Bm hl⟩),
  fun g hg=>⟨Nat.lt_of_lt_of_le (h.prot g hg).1 hc.size,by rw[Bm (h.prot g hg).1];exact(h.prot g hg).2⟩,⟨by rw[Bm h.lo.1];exact h.one.1,fun g hg=>?_⟩,⟨h.Br.1,h.Br.2.1,hl⟩,h.vv⟩
 exact z14a
theorem MC.Mv.Yc(h:C.Mv D X w m ρ β s x fv ab lp)(hc:G9 3 ρ w w'){ga:Option Addr}{gn gc:Nat}{gl:List PV}{x':Eu}{now:Fr}{fuel cells code line:Nat}
  (hcell:w'.heap[C.mb]?=some (.cells (C.cells { s with ga:=ga,gn:=gn,gc:=gc } x' fuel cells code line) 167 (0,0)))
  (hrow:w'.ownsRow 0 225 5 (.slice ga gn gc) gl.length (Bw (C7 β) gl)) (hro:∀g,(Value.slice ga gn gc).ownBlock=some g->(Value.slice s.ga s.gn s.gc).ownBlock=some g\/w.heap.size<=g) (hx:Jk D w x' now) (hvv:∀v∈gl,C8 m.arr.length v) :
  C.Mv D X w' { m with gl:=gl,now:=now,fuel:=fuel,cells:=cells,code:=code,line:=line } (F2 ρ w.heap.size 3) β { s with ga:=ga,gn:=gn,gc:=gc } x' fv ab lp:=by
 have hbd:=h.F7 hc z4va;have hk:∀g,D g->g<w.heap.size->w'.heap[g]?=w.heap[g]?/\D g:=fun g hg _=>⟨hbd.block g (.inl hg),hg⟩;have hown:∀g,(Value.slice ga gn gc).ownBlock=some g->F2 ρ w.heap.size 3 g=3:=by
  intro g hg;rcases hro g hg with e|e
  ·rw[Bm (Bn h.gl g e)];exact h.glo g e
  ·exact Hj e
 refine⟨hcell,h.prog.keep hk,B4 h.lots (fun g hg hl=>hc.block g hl z57a z57a),fun g hg=>by rw[Bm (Bn h.lots g hg)];exact h.loto g hg,h.lotm,fun q hq=>(h.forms q hq).keep hk,
  hrow,hown,B4 h.vals (fun g hg hl=>hc.block g hl z55a z55a),fun g hg=>by rw[Bm (Bn h.vals g hg)];exact h.valo g hg,
  B4 h.calls (fun g hg hl=>hc.block g hl z54a z54a),fun g hg=>by rw[Bm (Bn h.calls g hg)];exact h.callo g hg,h.frs.keep hk,hx.keep hk,
  B4 h.out (fun g hg hl=>hc.block g hl z56a z56a),fun g hg=>by rw[Bm (Bn h.out g hg)];exact h.outo g hg,h.arr.keep (fun g hl h7=>⟨hc.block g hl z4va z4va,Bm hl⟩),
  fun g hg=>⟨Nat.lt_of_lt_of_le (h.prot g hg).1 hc.size,by rw[Bm (h.prot g hg).1];exact(h.prot g hg).2⟩,⟨by rw[Bm h.lo.1];exact h.one.1,fun g hg=>?_⟩,h.Br,⟨h.vv.1,hvv,h.vv.2.2⟩⟩
 exact z14a
theorem MC.Mv.Aks(h:C.Mv D X w m ρ β s x fv ab lp)(hc:G9 2 ρ w w'){la:Option Addr}{ln lc:Nat}{lp':List (Option Addr×Dv)}{x':Eu}{now:Fr}{fuel cells code line:Nat}
  (hcell:w'.heap[C.mb]?=some (.cells (C.cells { s with la:=la,ln:=ln,lc:=lc } x' fuel cells code line) 167 (0,0)))
  (hrow:w'.ownsRow 0 172 4 (.slice la ln lc) lp'.length (Bw Ip lp')) (hro:∀g,(Value.slice la ln lc).ownBlock=some g->(Value.slice s.la s.ln s.lc).ownBlock=some g\/w.heap.size<=g) (hx:Jk D w x' now) (hf:∀q∈lp',M0 D w q.1 q.2.form) :
  C.Mv D X w' { m with lots:=lp'.map Prod.snd,now:=now,fuel:=fuel,cells:=cells,code:=code,line:=line } (F2 ρ w.heap.size 2) β { s with la:=la,ln:=ln,lc:=lc } x' fv ab lp':=by
 have hbd:=h.F7 hc z4va;have hk:∀g,D g->g<w.heap.size->w'.heap[g]?=w.heap[g]?/\D g:=fun g hg _=>⟨hbd.block g (.inl hg),hg⟩;have hown:∀g,(Value.slice la ln lc).ownBlock=some g->F2 ρ w.heap.size 2 g=2:=by
  intro g hg;rcases hro g hg with e|e
  ·rw[Bm (Bn h.lots g e)];exact h.loto g e
  ·exact Hj e
 refine⟨hcell,h.prog.keep hk,hrow,hown,rfl,fun q hq=>(hf q hq).keep hk,
  B4 h.gl (fun g hg hl=>hc.block g hl z59a z59a),fun g hg=>by rw[Bm (Bn h.gl g hg)];exact h.glo g hg,B4 h.vals (fun g hg hl=>hc.block g hl z55a z55a),fun g hg=>by rw[Bm (Bn h.vals g hg)];exact h.valo g hg,
  B4 h.calls (fun g hg hl=>hc.block g hl z54a z54a),fun g hg=>by rw[Bm (Bn h.calls g hg)];exact h.callo g hg,h.frs.keep hk,hx.keep hk,
  B4 h.out (fun g hg hl=>hc.block g hl z56a z56a),fun g hg=>by rw[Bm (Bn h.out g hg)];exact h.outo g hg,h.arr.keep (fun g hl h7=>⟨hc.block g hl z4va z4va,Bm hl⟩),
  fun g hg=>⟨Nat.lt_of_lt_of_le (h.prot g hg).1 hc.size,by rw[Bm (h.prot g hg).1];exact(h.prot g hg).2⟩,⟨by rw[Bm h.lo.1];exact h.one.1,fun g hg=>?_⟩,h.Br,h.vv⟩
 exact z14a
theorem MC.Ms.Agc(h:C.Ms D X β w m)(Y:Nat->Prop)(hY:∀g,Y g->X g):C.Ms (fun g=>D g\/Y g) X β w m:=by
 obtain⟨ρ,s,x,fv,ab,lp,h⟩:=h;have hk:∀g,D g->g<w.heap.size->w.heap[g]?=w.heap[g]?/\(D g\/Y g):=fun g hg _=>⟨rfl,.inl hg⟩;refine⟨ρ,s,x,fv,ab,lp,h.cell,h.prog.keep hk,h.lots,h.loto,h.lotm,fun q hq=>(h.forms q hq).keep hk,h.gl,h.glo,h.vals,h.valo,h.calls,h.callo,h.frs.keep hk,h.now.keep hk,h.out,h.outo,h.arr,?_,h.one,h.Br,h.vv⟩;intro g hg;rcases hg with(hg|hg)|hg
 ·exact h.prot g (.inl hg)
 ·exact h.prot g (.inr (hY g hg))
 ·exact h.prot g (.inr hg)
theorem Adn:∀{xs:List Eu} {fs:List Fr},Kk D w xs fs->Jk D w (xs.getLastD O1) (fs.getLastD ⟨[],0,0⟩):=by
 intro xs;induction xs with
 | nil=>intro fs h;cases fs with
  | nil=>exact⟨P6 _ _ _ _,rfl,rfl⟩
  | cons=>exact h.elim
 | cons x xs ih=>intro fs h;cases fs with
  | nil=>exact h.elim
  | cons f fs=>
   cases xs with
   | nil=>cases fs with
    | nil=>exact h.1
    | cons=>exact h.2.elim
   | cons y ys=>cases fs with
    | nil=>exact h.2.elim
    | cons g gs=>
     have q:=ih (fs:=g::gs) h.2;simpa only[List.getLastD_cons]using q
theorem Kk.less:∀{xs:List Eu} {fs:List Fr},Kk D w xs fs->Kk D w xs.dropLast fs.dropLast:=by
 intro xs;induction xs with
 | nil=>intro fs h;cases fs with
  | nil=>trivial
  | cons=>exact h.elim
 | cons x xs ih=>intro fs h;cases fs with
  | nil=>exact h.elim
  | cons f fs=>
   cases xs with
   | nil=>cases fs with
    | nil=>trivial
    | cons=>exact h.2.elim
   | cons y ys=>cases fs with
    | nil=>exact h.2.elim
    | cons g gs=>exact⟨h.1,ih h.2⟩
def Sf(x:Eu):Value:=.agg #[.slice x.a x.n x.c,.int .i64 (x.pc:Nat),.int .i64 x.base]
theorem MC.Ms.A0v(h:C.Ms D X β w m):Calls Tryz.prog 202 #[.pointer (some ⟨C.mb,5,none⟩)] w fun e w'=>e=.returned (.int .i64 (m.calls.length:Nat))/\w'=w:=by
 obtain⟨ρ,s,x,fv,ab,lp,h⟩:=h;rw[←h.frs.len];exact X4 h.Mk
theorem MC.Ms.A10(h:C.Ms D X β w m):Calls Tryz.prog 206 #[.pointer (some ⟨C.mb,5,none⟩)] w fun e w'=>∃x,e=.returned (Sf x)/\Jk D w' x (m.calls.getLastD ⟨[],0,0⟩)/\C.Ms D X β w' { m with calls:=m.calls.dropLast }/\A3 (dx D X) w w':=by
 obtain⟨ρ,s,x,fv,ab,lp,h⟩:=h;have hfl:=h.frs.len;refine(Adt h.Mk (by have:=h.Br.2.1;omega) z5xa (fv.getLastD O1) rfl).mono ?_;rintro e w1 ⟨rfl,hs,hf⟩;have hc:G9 5 ρ w w1:=Rx hf h.one.1 h.callo;have hbd:=h.F7 hc z4va;refine⟨_,rfl,(Adn h.frs).keep (fun g hg _=>⟨hbd.block g (.inl hg),hg⟩),⟨_,{ s with ca:=s.ca,cn:=fv.length-1,cc:=s.cc },x,fv.take (fv.length-1),ab,lp,h.Uy hc ?_ hs.own (fun g hg=>.inl ((Mi _ _ _ _).trans hg)) h.now ?_ ?_⟩,hbd⟩
 ·rw[hs.blk];simp[MC.cells]
 ·rw[Yl];exact h.frs.less
 ·have:=h.Br.2.1;simp;omega
theorem MC.Ms.Adm(h:C.Ms D X β w m)(u:Eu)(f:Fr)(hu:Jk D w u f)(hn:m.calls.length+1<=100):Calls Tryz.prog 203 #[.pointer (some ⟨C.mb,5,none⟩),Sf u] w (MP C D X β w { m with calls:=m.calls++[f] } (.tuple #[])):=by
 obtain⟨ρ,s,x,fv,ab,lp,h⟩:=h;have hfl:=h.frs.len;refine(Adu h.Mk z4va u z5xa).mono ?_;rintro e w1 ⟨rfl,g,cap,hs,hat,hf⟩;have hc:G9 5 ρ w w1:=Rx hf h.one.1 h.callo;refine⟨rfl,⟨_,{ s with ca:=some ⟨g,0,none⟩,cn:=fv.length+1,cc:=cap },x,fv++[u],ab,lp,h.Uy hc ?_ hs.own ?_ h.now (h.frs.app hu) z4ya⟩,h.F7 hc z4va⟩
 ·rw[hs.blk];simp[MC.cells]
 ·intro k hk;exact z3ea
theorem MC.Ms.Ul(h:C.Ms D X β w m):∃x,Jk D w x m.now/\w.cell? ⟨C.mb,6,none⟩=some (.slice x.a x.n x.c)/\w.cell? ⟨C.mb,7,none⟩=some (.int .i64 (x.pc:Nat))/\w.cell? ⟨C.mb,8,none⟩=some (.int .i64 x.base)/\(∀o,w.frozen? ⟨C.mb,o,none⟩=false):=by
 obtain⟨ρ,s,x,fv,ab,lp,h⟩:=h;exact⟨x,h.now,A2 h.cell 6 _ rfl,A2 h.cell 7 _ rfl,A2 h.cell 8 _ rfl,Bd h.cell⟩
theorem MC.Ms.T0(h:C.Ms D X β w m)(u:Eu)(f:Fr)(hu:Jk D w u f):C.Ms D X β (((w.setCell ⟨C.mb,6,none⟩ (.slice u.a u.n u.c)).setCell ⟨C.mb,7,none⟩ (.int .i64 (u.pc:Nat))).setCell ⟨C.mb,8,none⟩ (.int .i64 u.base)) { m with now:=f }/\A3 (dx D X) w (((w.setCell ⟨C.mb,6,none⟩ (.slice u.a u.n u.c)).setCell ⟨C.mb,7,none⟩ (.int .i64 (u.pc:Nat))).setCell ⟨C.mb,8,none⟩ (.int .i64 u.base)):=by
 obtain⟨ρ,s,x,fv,ab,lp,hv⟩:=h;refine hv.plain (now:=f) (x':=u) hu ?_ (fun g _ hne=>?_) z58a (by simp only[R8]) (by simp only[Ra]) (by simp only[R9])
 ·rw[heap_set (j:=8) (heap_set (j:=7) (heap_set (j:=6) hv.cell _) _) _];simp[MC.cells]
 ·rw[Below.heap_setCell _ _ _ _ z5ma,Below.heap_setCell _ _ _ _ z5ma,Below.heap_setCell _ _ _ _ z5ma]
end
section
set_option maxRecDepth 100000
open Go.RowKit
open Go.Deep (BT)
variable {C:MC} {D X:Nat->Prop} {w w':World} {m:MS} {β:Nat->Nat}
theorem MC.Ms.R4(h:C.Ms D X β w m){a b:PV}(ha:C8 m.arr.length a)(hb:C8 m.arr.length b)(d:Nat):(Op.equalIn (d+1) 223 (.pointer (Bk β a)) (.pointer (Bk β b))).run Tryz.prog w=.ok (a.r==b.r) w:=by
 obtain⟨ρ,s,x,fv,ab,lp,h⟩:=h;have hp:Tryz.prog.underlying 223=some (.pointer 356):=by kernel_rfl
 have hs:(Tryz.prog.info? 356).map (fun j=>j.size !=0)=some true:=by kernel_rfl
 cases hj:Tryz.prog.info? 356 with
 | none=>rw[hj]at hs;cases hs
 | some j=>
 have hz:j.size≠0:=by rw[hj]at hs;simpa using hs
 unfold Bk;unfold C8 at ha hb;cases hr:a.r with
 | none=>
  cases hr':b.r with
  | none=>simp[Op.equalIn,run_underlying hp]
  | some y=>simp[Op.equalIn,run_underlying hp]
 | some x=>
  cases hr':b.r with
  | none=>simp[Op.equalIn,run_underlying hp]
  | some y=>
   rw[hr]at ha;rw[hr']at hb;have hl:=h.arr.len;obtain⟨k1,_,k3,_⟩:=h.arr.at' x z4va ha.2;obtain⟨l1,_,l3,_⟩:=h.arr.at' y z4va hb.2;by_cases he:x=y
   ·rw[he];simp[Op.equalIn,run_underlying hp,sizeOf,typeInfo,hj,run_sameAddr_same]
   ·have hne:(⟨β x,0,none⟩:Addr)≠⟨β y,0,none⟩:=by
     intro e;have e1:β x=β y:=by injection e
     rw[e1]at k3;omega
    have hs:=run_sameAddr_other (P:=Tryz.prog) w hne k1 l1;have hq:((some x:Option Nat)==some y)=false:=by simp[he]
    rw[hq];simp[Op.equalIn,run_underlying hp,sizeOf,typeInfo,hj,hz,hs]
theorem W9(a b:List UInt8):((⟨a.toArray⟩:ByteArray).toList==(⟨b.toArray⟩:ByteArray).toList)=(a==b):=by
 have h1:∀l:List UInt8,(⟨l.toArray⟩:ByteArray).toList=l:=fun l=>by simp[ByteArray.toList_mk]
 rw[h1,h1]
theorem z2na {P:Prop} (h:P:=by
  have hn':=hn;clear hn;go_enter Tryz.func254,Tryz.ntmps254;go_wp2;go_ret;exact⟨rfl,Below.alloc (Below.alloc (Below.refl _ _) (Nat.le_refl _) _) z50a _⟩):P:=h
theorem Oi(a b:PV)(β:Nat->Nat)(w:World):Calls Tryz.prog 254 #[Az β a,Az β b] w fun e w'=>e=.returned (.bool (before a b))/\Below w.heap.size w w':=by
 unfold Az before;cases hn:decide (a.n<b.n)
 ·exact z2na
 ·exact z2na
theorem z01a {P:Prop} (h:P:=by
  go_wp2_with fail
  refine((B2.o _ z4ua).1).mono ?_;rintro e w2 ⟨rfl,h2,k2⟩;have Ai:=A0 h2.back;have Aa:Hid (A3 (dx D X) w w2):=(B2.o _ z4ua).2.trans (Ae k2);clear h2 k2;go_wp2;go_end0;exact⟨rfl,Ai.o,Aa.o⟩):P:=h
theorem A77(h:C.Ms D X β w m)(i:Ac)(hva:C8 m.arr.length m.pop.top)(hvb:C8 m.arr.length m.top)(hn:m.vals.length+1<=100000)(he:m.pop.top=m.top):Calls Tryz.prog 219 #[.pointer (some ⟨C.mb,0,none⟩),Ab i] w (MP C D X β w (m.pop.pop.push (ofBool true)) (.tuple #[])):=by
 obtain⟨w0,Am,Ap,Af,Al,Aq,n0,n1,n2,n3,n4,n5,n6,n7,ln,lb,Bz⟩:=h.C1 i;clear h;have HT:=A0 (Eh Ap.o);rw[he]at hva HT;clear he;generalize m.top=v at *;unfold Ab;go_enter Tryz.func219,Tryz.ntmps219;go_wp2_with fail
 rw[←Am.o];refine HT.o.mono ?_;rintro e w1 ⟨rfl,h1,k1⟩;unfold Az;have Bj:=h1.Au;have A7:=A0 h1;have A4:Hid (A3 (dx D X) w w1):=Af.o.trans (Ae k1);have Ad:=(k1.block _ Al.o).trans Aq.o;have Bo:=A0 Ad;clear n0 n1 n2 n3 n4 n5 n6 n7 ln;obtain⟨n0,n1,n2,n3,n4,n5,n6,n7,ln⟩:=B1 Ad;clear h1 k1 Ad;have B2:=A0 (fun(W:World) (hb:Below w1.heap.size w1 W)=>And.intro (Ji (A7.o.below hb).1 true z52a) (A4.o.trans (Ae (A7.o.below hb).2)));have hqe:=fun(o o':Obj)=>(A7.o.below (Below.alloc (Below.alloc (Below.refl _ _) (Nat.le_refl _) o) z50a o')).1.R4 hva hvb 9998;exact z01a
theorem z1ka {P:Prop} (h:P:=by
  cases h:(u.k==v.k)
  ·rw[beq_eq_false_iff_ne]at h ⊢;omega
  ·rw[beq_iff_eq]at h ⊢;omega):P:=h
theorem z0sa {P:Prop} (h:P:=by
  unfold Ab;go_enter Tryz.func219,Tryz.ntmps219;go_wp2_with fail
  rw[←Am.o];refine HT.o.mono ?_;rintro e w1 ⟨rfl,h1,k1⟩;unfold Az;have Bj:=h1.Au;have A7:=A0 h1;have A4:Hid (A3 (dx D X) w w1):=Af.o.trans (Ae k1);have Ad:=(k1.block _ Al.o).trans Aq.o;have Bo:=A0 Ad;clear n0 n1 n2 n3 n4 n5 n6 n7 ln;obtain⟨n0,n1,n2,n3,n4,n5,n6,n7,ln⟩:=B1 Ad;clear h1 k1 Ad;have B2:=A0 (fun(W:World) (hb:Below w1.heap.size w1 W)=>And.intro (Ji (A7.o.below hb).1 false z52a) (A4.o.trans (Ae (A7.o.below hb).2)));have hqe:=fun(o o':Obj)=>(A7.o.below (Below.alloc (Below.alloc (Below.refl _ _) (Nat.le_refl _) o) z50a o')).1.R4 hva hvb 9998;exact z01a):P:=h
theorem z33a {P:Prop} (h:P:=by
  obtain⟨w0,Am,Ap,Af,Al,Aq,n0,n1,n2,n3,n4,n5,n6,n7,ln,lb,Bz⟩:=h.C1 i;clear h;have HT:=A0 (Eh Ap.o);generalize m.pop.top=u at *;generalize m.top=v at *;have tk:((u.k:Int)==(v.k:Int))=(u.k==v.k):=by
   exact z1ka
  rw[hk]at tk;clear hk;exact z0sa):P:=h
theorem A74(h:C.Ms D X β w m)(i:Ac)(hva:C8 m.arr.length m.pop.top)(hvb:C8 m.arr.length m.top)(hn:m.vals.length+1<=100000)(hk:(m.pop.top.k==m.top.k)=false):Calls Tryz.prog 219 #[.pointer (some ⟨C.mb,0,none⟩),Ab i] w (MP C D X β w (m.pop.pop.push (ofBool false)) (.tuple #[])):=by
 exact z33a
theorem A79(h:C.Ms D X β w m)(i:Ac)(hva:C8 m.arr.length m.pop.top)(hvb:C8 m.arr.length m.top)(hn:m.vals.length+1<=100000)(hk:(m.pop.top.k==m.top.k)=true)(hy:(m.pop.top.y==m.top.y)=false):Calls Tryz.prog 219 #[.pointer (some ⟨C.mb,0,none⟩),Ab i] w (MP C D X β w (m.pop.pop.push (ofBool false)) (.tuple #[])):=by
 exact z33a
theorem A75(h:C.Ms D X β w m)(i:Ac)(hva:C8 m.arr.length m.pop.top)(hvb:C8 m.arr.length m.top)(hn:m.vals.length+1<=100000)(hk:(m.pop.top.k==m.top.k)=true)(hy:(m.pop.top.y==m.top.y)=true)(hnn:(m.pop.top.n==m.top.n)=false):Calls Tryz.prog 219 #[.pointer (some ⟨C.mb,0,none⟩),Ab i] w (MP C D X β w (m.pop.pop.push (ofBool false)) (.tuple #[])):=by
 exact z33a
theorem A78(h:C.Ms D X β w m)(i:Ac)(hva:C8 m.arr.length m.pop.top)(hvb:C8 m.arr.length m.top)(hn:m.vals.length+1<=100000)(hk:(m.pop.top.k==m.top.k)=true)(hy:(m.pop.top.y==m.top.y)=true)(hnn:(m.pop.top.n==m.top.n)=true)(ht:(m.pop.top.t==m.top.t)=false):Calls Tryz.prog 219 #[.pointer (some ⟨C.mb,0,none⟩),Ab i] w (MP C D X β w (m.pop.pop.push (ofBool false)) (.tuple #[])):=by
 obtain⟨w0,Am,Ap,Af,Al,Aq,n0,n1,n2,n3,n4,n5,n6,n7,ln,lb,Bz⟩:=h.C1 i;clear h;have HT:=A0 (Eh Ap.o);generalize m.pop.top=u at *;generalize m.top=v at *;have tk:((u.k:Int)==(v.k:Int))=(u.k==v.k):=by
  exact z1ka
 rw[hk]at tk;clear hk;have ht2:=ht;exact z0sa
theorem A76(h:C.Ms D X β w m)(i:Ac)(hva:C8 m.arr.length m.pop.top)(hvb:C8 m.arr.length m.top)(hn:m.vals.length+1<=100000)(hk:(m.pop.top.k==m.top.k)=true)(hy:(m.pop.top.y==m.top.y)=true)(hnn:(m.pop.top.n==m.top.n)=true)(ht:(m.pop.top.t==m.top.t)=true)(hr:(m.pop.top.r==m.top.r)=false):Calls Tryz.prog 219 #[.pointer (some ⟨C.mb,0,none⟩),Ab i] w (MP C D X β w (m.pop.pop.push (ofBool false)) (.tuple #[])):=by
 obtain⟨w0,Am,Ap,Af,Al,Aq,n0,n1,n2,n3,n4,n5,n6,n7,ln,lb,Bz⟩:=h.C1 i;clear h;have HT:=A0 (Eh Ap.o);generalize m.pop.top=u at *;generalize m.top=v at *;have tk:((u.k:Int)==(v.k:Int))=(u.k==v.k):=by
  exact z1ka
 rw[hk]at tk;clear hk;have ht2:=ht;unfold Ab;go_enter Tryz.func219,Tryz.ntmps219;go_wp2_with fail
 rw[←Am.o];refine HT.o.mono ?_;rintro e w1 ⟨rfl,h1,k1⟩;unfold Az;have Bj:=h1.Au;have A7:=A0 h1;have A4:Hid (A3 (dx D X) w w1):=Af.o.trans (Ae k1);have Ad:=(k1.block _ Al.o).trans Aq.o;have Bo:=A0 Ad;clear n0 n1 n2 n3 n4 n5 n6 n7 ln;obtain⟨n0,n1,n2,n3,n4,n5,n6,n7,ln⟩:=B1 Ad;clear h1 k1 Ad;have B2:=A0 (fun(W:World) (hb:Below w1.heap.size w1 W)=>And.intro (Ji (A7.o.below hb).1 false z52a) (A4.o.trans (Ae (A7.o.below hb).2)));have hqe:=fun(o o':Obj)=>(A7.o.below (Below.alloc (Below.alloc (Below.refl _ _) (Nat.le_refl _) o) z50a o')).1.R4 hva hvb 9998;rw[hr]at hqe;exact z01a
end
end Go.Proofs.YtjdlndhfaaolaaaGreatDoor
