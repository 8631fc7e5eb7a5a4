import Derived.Test.YtjdlndhfaaolaaaGreatDoorT34
set_option maxHeartbeats 20000000
namespace Go.Proofs.YtjdlndhfaaolaaaGreatDoor
section
set_option maxRecDepth 100000
open Go.RowKit
open Go.Deep (BT)
variable {C:MC} {D X:Nat->Prop} {w w':World} {m:MS} {β:Nat->Nat}
theorem R2(a0 a1 a2 a3 a4:Value)(w:World):(Instr.field 225 (.agg #[a0,a1,a2,a3,a4]) 0).run Tryz.prog w=.ok a0 w:=by kernel_rfl
theorem A4i(a0 a1 a2 a3 a4:Value)(w:World):(Instr.field 225 (.agg #[a0,a1,a2,a3,a4]) 2).run Tryz.prog w=.ok a2 w:=by kernel_rfl
theorem R9{w w':World}(h:Below w.drew.heap.size w.drew w'):Below w.heap.size w w':=⟨h.os,h.tape,h.output,h.size,h.block⟩
theorem Lz(h:C.Ms D X β w m)(n:Int)(hn:m.vals.length+1<=100000):Calls Tryz.prog 252 #[.pointer (some ⟨C.mb,0,none⟩),.int .i64 n] w (MP C D X β w (m.push (ofInt n)) (.tuple #[])):=by
 have lb:=h.Aw;have HP:=A0 (fun(W:World) (hb:Below w.heap.size w W)=>((h.below hb).1.push (ofInt n) (by simp[Cc,ofInt]) hn));have HB:=A0 (fun(W:World) (hb:Below w.heap.size w W)=>(h.below hb).2);clear h;go_enter Tryz.func252,Tryz.ntmps252;go_wp2;go_region_law (first
  | (refine F2 rfl 99 _ _ rfl #[.pointer (some ⟨C.mb,4,none⟩),.agg #[.int .i64 2,.bool false,.int .i64 n,.string ⟨#[]⟩,.pointer none]] z53a Bz.o ?_;rintro e w2 ⟨rfl,h2,h3⟩;refine⟨_,rfl,?_⟩;have Aj:=A0 h2;have Aa:Hid (A3 (dx D X) w w2):=A4.o.trans h3;clear h2 h3)
  | (refine F2 rfl 85 _ _ rfl #[.int .i64 n] z53a (U8 n _) ?_;rintro e w1 ⟨rfl,hb1'⟩;refine⟨_,rfl,?_⟩;have A1:=R9 hb1';have Bz:=A0 (HP.o w1 A1);have A4:=A0 (HB.o w1 A1);have Bp:=A1.size;clear A1 hb1'))
 all_goals go_wp2
 all_goals go_end0
 all_goals exact⟨rfl,Aj.o,Aa.o⟩
theorem Jf(h:C.Ms D X β w m)(y:Bool)(hn:m.vals.length+1<=100000):Calls Tryz.prog 253 #[.pointer (some ⟨C.mb,0,none⟩),.bool y] w (MP C D X β w (m.push (ofBool y)) (.tuple #[])):=by
 have lb:=h.Aw;have HP:=A0 (fun(W:World) (hb:Below w.heap.size w W)=>((h.below hb).1.push (ofBool y) (by simp[Cc,ofBool]) hn));have HB:=A0 (fun(W:World) (hb:Below w.heap.size w W)=>(h.below hb).2);clear h;go_enter Tryz.func253,Tryz.ntmps253;go_wp2;go_region_law (first
  | (refine F2 rfl 99 _ _ rfl #[.pointer (some ⟨C.mb,4,none⟩),.agg #[.int .i64 1,.bool y,.int .i64 0,.string ⟨#[]⟩,.pointer none]] z53a Bz.o ?_;rintro e w2 ⟨rfl,h2,h3⟩;refine⟨_,rfl,?_⟩;have Aj:=A0 h2;have Aa:Hid (A3 (dx D X) w w2):=A4.o.trans h3;clear h2 h3)
  | (refine F2 rfl 87 _ _ rfl #[.bool y] z53a (Xg y _) ?_;rintro e w1 ⟨rfl,hb1'⟩;refine⟨_,rfl,?_⟩;have A1:=R9 hb1';have Bz:=A0 (HP.o w1 A1);have A4:=A0 (HB.o w1 A1);have Bp:=A1.size;clear A1 hb1'))
 all_goals go_wp2
 all_goals go_end0
 all_goals exact⟨rfl,Aj.o,Aa.o⟩
theorem z18a {P:Prop} (h:P:=by
  clear hq F1;generalize m.at' ((m.vals.length:Int)-2)=u at *;go_enter Tryz.func250,Tryz.ntmps250;go_wp2_with fail
  refine HL.o.mono ?_;rintro e w ⟨rfl,rfl⟩;go_wp2_with fail
  refine HA1.o.mono ?_;rintro e w1 ⟨rfl,h1,h2⟩;have A7:=A0 h1;have A4:=A0 h2;have Bp:=h1.Aw;clear h1 h2;unfold B0;go_wp2_with fail
  refine(HA2.o w1 A7.o).mono ?_;rintro e w2 ⟨rfl,h1,h2⟩;have Aj:=A0 h1;have Aa:Hid (A3 (dx D X) w w2):=A4.o.trans h2;clear h1 h2;unfold B0;go_wp2;go_ret;rw[HE.o];exact⟨rfl,Aj.o,Aa.o⟩):P:=h
theorem Je(h:C.Ms D X β w m)(k:Nat):Calls Tryz.prog 250 #[.pointer (some ⟨C.mb,0,none⟩),.int .i64 (k:Nat)] w (MP C D X β w m (.bool (m.both k))):=by
 have lb:=h.Aw;have HL:=A0 h.len;have hfew:=h.Bw.1;have HA1:=A0 (h.at' ((m.vals.length:Int)-1));have HA2:=A0 (fun(W:World) (hs:C.Ms D X β W m)=>hs.at' ((m.vals.length:Int)-1-1));have h2e:m.at' ((m.vals.length:Int)-1-1)=m.at' ((m.vals.length:Nat)-2):=by rw[show((m.vals.length:Nat):Int)-1-1=(m.vals.length:Nat)-2 by omega]
 rw[h2e]at HA2;clear h2e;have htop:m.at' ((m.vals.length:Int)-1)=m.top:=(Qe Ab m.vals).symm;rw[htop]at HA1;have vf0:=R2;clear h htop;cases hq:(m.top.k==k)
 ·have t1:(((m.top.k:Nat):Int)==(k:Int))=false:=by rw[beq_eq_false_iff_ne]at hq ⊢;omega
  have HE:Hid (m.both k=false):=by show _=_;unfold MS.both;rw[hq];rfl
  clear hq;go_enter Tryz.func250,Tryz.ntmps250;go_wp2_with fail
  refine HL.o.mono ?_;rintro e w ⟨rfl,rfl⟩;go_wp2_with fail
  refine HA1.o.mono ?_;rintro e w1 ⟨rfl,h1,h2⟩;have A7:=A0 h1;have A4:=A0 h2;have Bp:=h1.Aw;clear h1 h2;unfold B0;go_wp2;go_ret;rw[HE.o];exact z3va
 ·cases F1:((m.at' ((m.vals.length:Int)-2)).k==k)
  ·have t1:(((m.top.k:Nat):Int)==(k:Int))=true:=by rw[beq_iff_eq]at hq ⊢;omega
   have t2:((((m.at' ((m.vals.length:Int)-2)).k:Nat):Int)==(k:Int))=false:=by rw[beq_eq_false_iff_ne]at F1 ⊢;omega
   have HE:Hid (m.both k=false):=by show _=_;unfold MS.both;rw[hq,F1];rfl
   exact z18a
  ·have t1:(((m.top.k:Nat):Int)==(k:Int))=true:=by rw[beq_iff_eq]at hq ⊢;omega
   have t2:((((m.at' ((m.vals.length:Int)-2)).k:Nat):Int)==(k:Int))=true:=by rw[beq_iff_eq]at F1 ⊢;omega
   have HE:Hid (m.both k=true):=by show _=_;unfold MS.both;rw[hq,F1];rfl
   exact z18a
theorem MC.Ms.Ahw(h:C.Ms D X β w m):∀g,dx D X g->g<w.heap.size:=by
 obtain⟨ρ,s,x,fv,ab,lp,h⟩:=h;exact fun g hg=>(h.prot g hg).1
theorem MC.Ms.Abm{Y:Nat->Prop}(h:C.Ms D (fun g=>X g\/Y g) β w m):C.Ms D X β w.drew m:=
 ((h.below (w':=w.drew) ⟨rfl,rfl,rfl,Nat.le_refl _,fun _ _=>rfl⟩).1).less (fun _ h=>.inl h) (fun _ _ _=>rfl) rfl
theorem Ur{w:World}{g:Nat}(a0 a1 a2 a3 a4:Value)(k:Nat)(h:k≠g):(((((w.setCell ⟨g,0,none⟩ a0).setCell ⟨g,1,none⟩ a1).setCell ⟨g,2,none⟩ a2).setCell ⟨g,3,none⟩ a3).setCell ⟨g,4,none⟩ a4).heap[k]?=w.heap[k]?:=by
 rw[Below.heap_setCell _ _ _ _ (by exact h),Below.heap_setCell _ _ _ _ (by exact h),Below.heap_setCell _ _ _ _ (by exact h),Below.heap_setCell _ _ _ _ (by exact h),Below.heap_setCell _ _ _ _ (by exact h)]
theorem Uq{E:Nat->Prop}{w:World}{g:Nat}(h:∀k,E k->k≠g)(a0 a1 a2 a3 a4:Value):A3 E w (((((w.setCell ⟨g,0,none⟩ a0).setCell ⟨g,1,none⟩ a1).setCell ⟨g,2,none⟩ a2).setCell ⟨g,3,none⟩ a3).setCell ⟨g,4,none⟩ a4):=
 ⟨by simp only[Qs],by simp only[Qu],by simp only[Qt],by simp[World.setCell],fun k hk=>Ur _ _ _ _ _ k (h k hk)⟩
theorem A3m{w:World}{g:Nat}{b0 b1 b2 b3 b4:Value}{t:TypeId}(h:w.heap[g]?=some (.cells #[b0,b1,b2,b3,b4] t (0,0)))(a0 a1 a2 a3 a4:Value):(((((w.setCell ⟨g,0,none⟩ a0).setCell ⟨g,1,none⟩ a1).setCell ⟨g,2,none⟩ a2).setCell ⟨g,3,none⟩ a3).setCell ⟨g,4,none⟩ a4).heap[g]?=some (.cells #[a0,a1,a2,a3,a4] t (0,0)):=by
 rw[heap_set (heap_set (heap_set (heap_set (heap_set h _) _) _) _) _];simp
theorem MC.Ms.Up(h:C.Ms D X β w m){g:Nat}(hx:X g)(hd:¬D g)(a0 a1 a2 a3 a4:Value):C.Ms D X β (((((w.setCell ⟨g,0,none⟩ a0).setCell ⟨g,1,none⟩ a1).setCell ⟨g,2,none⟩ a2).setCell ⟨g,3,none⟩ a3).setCell ⟨g,4,none⟩ a4) m:=
 h.less (fun _ h=>h) (fun k _ hk=>Ur _ _ _ _ _ k (fun e=>hd (e ▸ hk (e ▸ hx)))) z5fa
theorem Mr{w:World}{b:Nat}{a0 a1 a2 a3 a4:Value}{t:TypeId}(h:w.heap[b]?=some (.cells #[a0,a1,a2,a3,a4] t (0,0))):w.cell? ⟨b,0,none⟩=some a0/\w.cell? ⟨b,1,none⟩=some a1/\w.cell? ⟨b,2,none⟩=some a2/\w.cell? ⟨b,3,none⟩=some a3/\w.cell? ⟨b,4,none⟩=some a4/\(∀o,w.frozen? ⟨b,o,none⟩=false)/\b<w.heap.size:=
 ⟨A2 h 0 _ rfl,A2 h 1 _ rfl,A2 h 2 _ rfl,A2 h 3 _ rfl,A2 h 4 _ rfl,Bh h,A5 h⟩
theorem Ei(h:C.Ms D X β w m):Calls Tryz.prog 210 #[.pointer (some ⟨C.mb,0,none⟩)] w (MP C D X β w m.pop.pop (.tuple #[B0 β m.pop.top,B0 β m.top])):=by
 have lb:=h.Aw;have HPr:=A0 h.Ahw;obtain⟨w0,D5⟩:∃w0,w0=(w.alloc (.cells #[.int .i64 0,.bool false,.int .i64 0,.string ⟨#[]⟩,.pointer none] 225)).alloc (.cells #[.int .i64 0,.bool false,.int .i64 0,.string ⟨#[]⟩,.pointer none] 225):=⟨_,rfl⟩;have Bj:Below w.heap.size w w0:=by rw[D5];exact Below.alloc (Below.alloc (Below.refl _ _) (Nat.le_refl _) _) z56a _
 have Gt:w0.heap.size=w.heap.size+2:=by rw[D5];simp
 have h0:=h.more Bj;have hR1:w0.heap[w.heap.size]?=some (.cells #[.int .i64 0,.bool false,.int .i64 0,.string ⟨#[]⟩,.pointer none] 225 (0,0)):=by rw[D5,Below.heap_alloc _ _ _ z56a];exact heap_alloc_new w _
 have Ej:w0.heap[w.heap.size+1]?=some (.cells #[.int .i64 0,.bool false,.int .i64 0,.string ⟨#[]⟩,.pointer none] 225 (0,0)):=by
  have:=heap_alloc_new (w.alloc (.cells #[.int .i64 0,.bool false,.int .i64 0,.string ⟨#[]⟩,.pointer none] 225)) (.cells #[.int .i64 0,.bool false,.int .i64 0,.string ⟨#[]⟩,.pointer none] 225);rw[D5];simpa using this
 have HP0:=A0 h0.pop;have An:=A0 D5;have Ah:Hid (A3 (dx D X) w w0):=⟨Bj.os,Bj.tape,Bj.output,Bj.size,fun g hg=>Bj.block g (HPr.o g hg)⟩;have F8:=A0 hR1;have Ci:=A0 Ej;have Aq:=A0 Gt;have E1:dx D (fun g=>X g\/(w.heap.size<=g/\g<w0.heap.size)) w.heap.size:=.inr (.inr ⟨Nat.le_refl _,by omega⟩);have Fp:dx D (fun g=>X g\/(w.heap.size<=g/\g<w0.heap.size)) (w.heap.size+1):=.inr (.inr ⟨by omega,by omega⟩);have I0:=A0 E1;have HX2:=A0 Fp;clear h D5 Bj h0 hR1 Ej Gt E1 Fp;go_enter Tryz.func210,Tryz.ntmps210;go_wp2_with fail
 rw[<-An.o];refine HP0.o.mono ?_;rintro e w1 ⟨rfl,h1,A1⟩;have hq1:=(A1.block _ I0.o).trans F8.o;have F1:=(A1.block _ HX2.o).trans Ci.o;obtain⟨p0,p1,p2,p3,p4,fp,lp⟩:=Mr hq1;obtain⟨r0,r1,r2,r3,r4,fr,lr⟩:=Mr F1;have hnD1:¬D w.heap.size:=fun hd=>by have:=HPr.o _ (.inl hd);omega
 have hnD2:¬D (w.heap.size+1):=fun hd=>by have:=HPr.o _ (.inl hd);omega
 have HQ1:=A0 hq1;have Gy:=A0 F1;have hxx:(fun g=>X g\/(w.heap.size<=g/\g<w0.heap.size)) (w.heap.size+1):=.inr ⟨by omega,by have:=Aq.o;omega⟩;have hxy:(fun g=>X g\/(w.heap.size<=g/\g<w0.heap.size)) w.heap.size:=.inr ⟨by omega,by have:=Aq.o;omega⟩;have HM1:=A0 (fun(a0 a1 a2 a3 a4:Value)=>(h1.Up hxx hnD2 a0 a1 a2 a3 a4).pop);have A4:=A0 A1;have HXY:=A0 hxy;have HND1:=A0 hnD1;have HND2:=A0 hnD2;have HXX:=A0 hxx;clear h1 A1 hq1 F1 hnD1 hnD2 hxx hxy;unfold B0;go_wp2_with fail
 refine(HM1.o _ _ _ _ _).mono ?_;rintro e w3 ⟨rfl,h3,Ak⟩;have hq1:=(Ak.block _ I0.o).trans ((Ur _ _ _ _ _ _ z51a).trans HQ1.o);have F1:=(Ak.block _ HX2.o).trans (A3m Gy.o _ _ _ _ _);obtain⟨w4,hw4⟩:∃w4,w4=(((((w3.setCell ⟨w.heap.size,0,none⟩ (.int .i64 (m.pop.top.k:Nat))).setCell ⟨w.heap.size,1,none⟩ (.bool m.pop.top.y)).setCell ⟨w.heap.size,2,none⟩ (.int .i64 m.pop.top.n)).setCell ⟨w.heap.size,3,none⟩ (.string ⟨m.pop.top.t.toArray⟩)).setCell ⟨w.heap.size,4,none⟩ (.pointer (Bq β m.pop.top))):=⟨_,rfl⟩;have Al:w4.heap[w.heap.size]?=some (.cells #[.int .i64 (m.pop.top.k:Nat),.bool m.pop.top.y,.int .i64 m.pop.top.n,.string ⟨m.pop.top.t.toArray⟩,.pointer (Bq β m.pop.top)] 225 (0,0)):=by rw[hw4];exact A3m hq1 _ _ _ _ _
 have B5:w4.heap[w.heap.size+1]?=some (.cells #[.int .i64 (m.top.k:Nat),.bool m.top.y,.int .i64 m.top.n,.string ⟨m.top.t.toArray⟩,.pointer (Bq β m.top)] 225 (0,0)):=by rw[hw4];exact(Ur _ _ _ _ _ _ z51a).trans F1
 have hm4:C.Ms D (fun g=>X g\/(w.heap.size<=g/\g<w0.heap.size)) β w4 m.pop.pop:=by rw[hw4];exact h3.Up HXY.o HND1.o _ _ _ _ _
 have hne1:∀k,dx D X k->k≠w.heap.size:=fun k hk=>by have:=HPr.o k hk;omega
 have hne2:∀k,dx D X k->k≠w.heap.size+1:=fun k hk=>by have:=HPr.o k hk;omega
 have hb34:A3 (dx D X) w3 w4:=by rw[hw4];exact Uq hne1 _ _ _ _ _
 have hb13:A3 (dx D X) w1 w3:=A3.trans (Uq hne2 _ _ _ _ _) (A3.weak Ak (fun g hg=>hg.imp id .inl));have Ba:A3 (dx D X) w w4:=Ah.o.trans (A3.trans (A3.weak A4.o (fun g hg=>hg.imp id .inl)) (hb13.trans hb34));have HNe1:=A0 hne1;have HNe2:=A0 hne2;clear hb34 hb13 hne1 hne2;obtain⟨u0,u1,u2,u3,u4,fu,lu⟩:=Mr hq1;have HW4:=A0 hw4;have HM4:=A0 hm4;have Cn:=A0 Ba;have Gq:=A0 Al;have HT2:=A0 B5;clear h3 Ak hq1 F1 p0 p1 p2 p3 p4 fp lp r0 r1 r2 r3 r4 fr lr hw4 hm4 Ba Al B5;unfold B0;go_wp2;rw[<-HW4.o];clear HW4 u0 u1 u2 u3 u4 fu lu;obtain⟨u0,u1,u2,u3,u4,fu,lu⟩:=Mr Gq.o;obtain⟨v0,v1,v2,v3,v4,fv,lv⟩:=Mr HT2.o;go_region
 all_goals go_wp2
 all_goals refine bodyPost_ret (v:=.tuple #[.agg #[.int .i64 (m.pop.top.k:Nat),.bool m.pop.top.y,.int .i64 m.pop.top.n,.string ⟨m.pop.top.t.toArray⟩,.pointer (Bq β m.pop.top)],.agg #[.int .i64 (m.top.k:Nat),.bool m.top.y,.int .i64 m.top.n,.string ⟨m.top.t.toArray⟩,.pointer (Bq β m.top)]]) (by simp[results,Tryz.results210,go_sem,u0,u1,u2,u3,u4,v0,v1,v2,v3,v4]) rfl ?_
 all_goals
  have q1:=(HM4.o.Up HXY.o HND1.o (.int .i64 (m.pop.top.k:Nat)) (.bool m.pop.top.y) (.int .i64 m.pop.top.n) (.string ⟨m.pop.top.t.toArray⟩) (.pointer (Bq β m.pop.top))).Up HXX.o HND2.o (.int .i64 (m.top.k:Nat)) (.bool m.top.y) (.int .i64 m.top.n) (.string ⟨m.top.t.toArray⟩) (.pointer (Bq β m.top));have q2:=(Uq (w:=w4) HNe1.o (.int .i64 (m.pop.top.k:Nat)) (.bool m.pop.top.y) (.int .i64 m.pop.top.n) (.string ⟨m.pop.top.t.toArray⟩) (.pointer (Bq β m.pop.top))).trans (Uq HNe2.o (.int .i64 (m.top.k:Nat)) (.bool m.top.y) (.int .i64 m.top.n) (.string ⟨m.top.t.toArray⟩) (.pointer (Bq β m.top)));exact⟨rfl,q1.Abm,Cn.o.trans (q2.trans (Dv _ _ 1))⟩
def Cs(X:Nat->Prop)(w:World):Nat->Prop:=fun g=>X g\/(w.heap.size<=g/\g<w.heap.size+1)
theorem MC.Ms.back(h:C.Ms D (Cs X w) β w' m):C.Ms D X β w' m:=h.less (fun _ h=>.inl h) (fun _ _ _=>rfl) rfl
theorem Ag{w1 w2:World}(h:A3 (dx D (Cs X w)) w1 w2):A3 (dx D X) w1 w2:=h.weak (fun _ hg=>hg.imp id .inl)
theorem MC.Ms.Hq(h:C.Ms D X β w m):C.Ms D X β w.drew m:=(h.below (w':=w.drew) ⟨rfl,rfl,rfl,Nat.le_refl _,fun _ _=>rfl⟩).1
theorem MC.Ms.enter(h:C.Ms D X β w m)(o:Obj):C.Ms D (Cs X w) β (w.alloc o) m/\A3 (dx D X) w (w.alloc o)/\dx D (Cs X w) w.heap.size:=by
 have hb:Below w.heap.size w (w.alloc o):=Below.alloc (Below.refl _ _) (Nat.le_refl _) _;refine⟨?_,(h.below hb).2,.inr (.inr ⟨Nat.le_refl _,by omega⟩)⟩;have:=h.more hb;rw[World.size_alloc]at this;exact this
theorem B3{w:World}{b:Nat}{a0 a1 a2 a3 a4 a5 a6 a7:Value}{t:TypeId}(h:w.heap[b]?=some (.cells #[a0,a1,a2,a3,a4,a5,a6,a7] t (0,0))):w.cell? ⟨b,0,none⟩=some a0/\w.cell? ⟨b,1,none⟩=some a1/\w.cell? ⟨b,2,none⟩=some a2/\w.cell? ⟨b,3,none⟩=some a3/\w.cell? ⟨b,4,none⟩=some a4/\w.cell? ⟨b,5,none⟩=some a5/\w.cell? ⟨b,6,none⟩=some a6/\w.cell? ⟨b,7,none⟩=some a7/\b<w.heap.size:=
 ⟨A2 h 0 _ rfl,A2 h 1 _ rfl,A2 h 2 _ rfl,A2 h 3 _ rfl,A2 h 4 _ rfl,A2 h 5 _ rfl,A2 h 6 _ rfl,A2 h 7 _ rfl,A5 h⟩
theorem MC.Ms.C6(h:C.Ms D X β w m)(i:Af):∃w0,Hid (w0=w.alloc (.cells #[.int .i64 (i.op:Nat),.int .i64 i.arg,.int .i64 (i.line:Nat),.int .i64 (i.v.k:Nat),.bool i.v.y,.int .i64 i.v.n,.string ⟨i.v.t.toArray⟩,.pointer none] 251))/\Hid (C.Ms D (Cs X w) β w0 m)/\Hid (A3 (dx D X) w w0)/\Hid (dx D (Cs X w) w.heap.size)/\Hid (w0.heap[w.heap.size]?=some (.cells #[.int .i64 (i.op:Nat),.int .i64 i.arg,.int .i64 (i.line:Nat),.int .i64 (i.v.k:Nat),.bool i.v.y,.int .i64 i.v.n,.string ⟨i.v.t.toArray⟩,.pointer none] 251 (0,0)))/\w0.cell? ⟨w.heap.size,0,none⟩=some (.int .i64 (i.op:Nat))/\w0.cell? ⟨w.heap.size,1,none⟩=some (.int .i64 i.arg)/\w0.cell? ⟨w.heap.size,2,none⟩=some (.int .i64 (i.line:Nat))/\w0.cell? ⟨w.heap.size,3,none⟩=some (.int .i64 (i.v.k:Nat))/\w0.cell? ⟨w.heap.size,4,none⟩=some (.bool i.v.y)/\w0.cell? ⟨w.heap.size,5,none⟩=some (.int .i64 i.v.n)/\w0.cell? ⟨w.heap.size,6,none⟩=some (.string ⟨i.v.t.toArray⟩)/\w0.cell? ⟨w.heap.size,7,none⟩=some (.pointer none)/\w.heap.size<w0.heap.size/\C.mb<w.heap.size/\C.mb<w0.heap.size:=by
 obtain⟨h0,Bj,Fc⟩:=h.enter (.cells #[.int .i64 (i.op:Nat),.int .i64 i.arg,.int .i64 (i.line:Nat),.int .i64 (i.v.k:Nat),.bool i.v.y,.int .i64 i.v.n,.string ⟨i.v.t.toArray⟩,.pointer none] 251);have hi0:=heap_alloc_new w (.cells #[.int .i64 (i.op:Nat),.int .i64 i.arg,.int .i64 (i.line:Nat),.int .i64 (i.v.k:Nat),.bool i.v.y,.int .i64 i.v.n,.string ⟨i.v.t.toArray⟩,.pointer none] 251);obtain⟨n0,n1,n2,n3,n4,n5,n6,n7,ln⟩:=B3 hi0;exact⟨_,A0 rfl,A0 h0,A0 Bj,A0 Fc,A0 hi0,n0,n1,n2,n3,n4,n5,n6,n7,ln,h.Aw,h0.Aw⟩
theorem z21a {P:Prop} (h:P:=by
  refine Ib ?_;go_wp2_with fail
  refine(HP.o).mono ?_;rintro e w1 ⟨rfl,h1,k1⟩;have A7:=A0 h1.back;have A4:Hid (A3 (dx D X) w w1):=Ah.o.trans ((Dv _ w0 1).trans (Ag k1));clear h1 k1;go_wp2;go_end0;exact⟨rfl,A7.o,A4.o⟩):P:=h
theorem aconst(h:C.Ms D X β w m)(i:Af)(hr:i.v.r=none)(hk:i.v.k≠4)(hn:m.vals.length+1<=100000):Calls Tryz.prog 148 #[.pointer (some ⟨C.mb,0,none⟩),Ac i] w (MP C D X β w (m.push i.v) (.tuple #[])):=by
 obtain⟨w0,An,Aq,Ah,Am,Ar,n0,n1,n2,n3,n4,n5,n6,n7,ln,lb,C2⟩:=h.C6 i;clear h;have HP:=A0 ((Aq.o.Hq).push i.v (by unfold Cc;rw[hr];exact hk) hn);have hrf:Bq β i.v=none:=by unfold Bq;rw[hr]
 unfold B0 at HP;rw[hrf]at HP;clear hr hrf;unfold Ac;go_enter Tryz.func148,Tryz.ntmps148;go_wp2;rw[<-An.o];refine Ic 5 z53a z53a ?_;simp only[List.take_succ_cons,List.take_zero,List.drop_succ_cons,List.drop_zero];iterate 5 (refine Ez (fun K' hK'=>?_);go_simp;refine hK' _ ?_;clear hK' K')
 exact z21a
theorem z26a {P:Prop} (h:P:=by
  go_wp2_with fail
  rw[<-An.o];refine HP.o.mono ?_;rintro e w1 ⟨rfl,h1,k1⟩;have A7:=A0 h1.back;have A4:Hid (A3 (dx D X) w w1):=Ah.o.trans (Ag k1);clear h1 k1;unfold B0;go_wp2;go_end0;exact⟨rfl,A7.o,A4.o⟩):P:=h
theorem A6w(h:C.Ms D X β w m)(i:Af):Calls Tryz.prog 153 #[.pointer (some ⟨C.mb,0,none⟩),Ac i] w (MP C D X β w (m.pop) (.tuple #[])):=by
 obtain⟨w0,An,Aq,Ah,Am,Ar,n0,n1,n2,n3,n4,n5,n6,n7,ln,lb,C2⟩:=h.C6 i;clear h;have HP:=A0 Aq.o.pop;unfold Ac;go_enter Tryz.func153,Tryz.ntmps153;exact z26a
theorem A5v(h:C.Ms D X β w m)(i:Af):Calls Tryz.prog 157 #[.pointer (some ⟨C.mb,0,none⟩),Ac i] w (MP C D X β w (if m.top.k=1 then m else m.fail 5 i) (.tuple #[])):=by
 obtain⟨w0,An,Aq,Ah,Am,Ar,n0,n1,n2,n3,n4,n5,n6,n7,ln,lb,C2⟩:=h.C6 i;clear h;have HP:=A0 Aq.o.top;have HF:=A0 (fun(W:World) (hs:C.Ms D (Cs X w) β W m)=>Gw hs 5 i);have vf0:=R2;by_cases hk:m.top.k=1
 ·have t1:(((m.top.k:Nat):Int) !=1)=false:=by rw[hk];rfl
  rw[if_pos hk];clear hk;unfold Ac;go_enter Tryz.func157,Tryz.ntmps157;exact z26a
 ·have t1:(((m.top.k:Nat):Int) !=1)=true:=by rw[bne_iff_ne];omega
  rw[if_neg hk];clear hk;unfold Ac;go_enter Tryz.func157,Tryz.ntmps157;go_wp2_with fail
  rw[<-An.o];refine HP.o.mono ?_;rintro e w1 ⟨rfl,h1,k1⟩;have Ad:=(k1.block _ Am.o).trans Ar.o;have HF1:=A0 (HF.o w1 h1);have A4:Hid (A3 (dx D X) w w1):=Ah.o.trans (Ag k1);clear n0 n1 n2 n3 n4 n5 n6 n7 ln;obtain⟨n0,n1,n2,n3,n4,n5,n6,n7,ln⟩:=B3 Ad;clear h1 k1 Ad;unfold B0;unfold Ac at HF1;go_wp2_with fail
  refine HF1.o.mono ?_;rintro e w2 ⟨rfl,h2,k2⟩;have Aj:=A0 h2.back;have Aa:Hid (A3 (dx D X) w w2):=A4.o.trans (Ag k2);clear h2 k2;go_wp2;go_end0;exact z3ba
theorem Rw(h:C.Ms D X β w m)(i:Af)(hb:m.both 2=true):Calls Tryz.prog 251 #[.pointer (some ⟨C.mb,0,none⟩),Ac i] w (MP C D X β w (m) (.bool true)):=by
 obtain⟨w0,An,Aq,Ah,Am,Ar,n0,n1,n2,n3,n4,n5,n6,n7,ln,lb,C2⟩:=h.C6 i;clear h;have HP:=A0 (Je Aq.o 2);rw[hb]at HP;have HF:=A0 (fun(W:World) (hs:C.Ms D (Cs X w) β W m)=>Gw hs 5 i);clear hb;unfold Ac;go_enter Tryz.func251,Tryz.ntmps251;go_wp2_with fail
 rw[<-An.o];refine HP.o.mono ?_;rintro e w1 ⟨rfl,h1,k1⟩;have A7:=A0 h1.back;have A4:Hid (A3 (dx D X) w w1):=Ah.o.trans (Ag k1);clear h1 k1 HF;go_wp2;go_ret;exact z3va
theorem Rv(h:C.Ms D X β w m)(i:Af)(hb:m.both 2=false):Calls Tryz.prog 251 #[.pointer (some ⟨C.mb,0,none⟩),Ac i] w (MP C D X β w (m.fail 5 i) (.bool false)):=by
 obtain⟨w0,An,Aq,Ah,Am,Ar,n0,n1,n2,n3,n4,n5,n6,n7,ln,lb,C2⟩:=h.C6 i;clear h;have HP:=A0 (Je Aq.o 2);rw[hb]at HP;have HF:=A0 (fun(W:World) (hs:C.Ms D (Cs X w) β W m)=>Gw hs 5 i);clear hb;unfold Ac;go_enter Tryz.func251,Tryz.ntmps251;go_wp2_with fail
 rw[<-An.o];refine HP.o.mono ?_;rintro e w1 ⟨rfl,h1,k1⟩;have Ad:=(k1.block _ Am.o).trans Ar.o;have HF1:=A0 (HF.o w1 h1);have A4:Hid (A3 (dx D X) w w1):=Ah.o.trans (Ag k1);clear n0 n1 n2 n3 n4 n5 n6 n7 ln;obtain⟨n0,n1,n2,n3,n4,n5,n6,n7,ln⟩:=B3 Ad;clear h1 k1 Ad;unfold Ac at HF1;go_wp2_with fail
 refine HF1.o.mono ?_;rintro e w2 ⟨rfl,h2,k2⟩;have Aj:=A0 h2.back;have Aa:Hid (A3 (dx D X) w w2):=A4.o.trans (Ag k2);clear h2 k2;go_wp2;go_ret;exact z3ba
theorem z0na {P:Prop} (h:P:=by
  go_wp2_with fail
  rw[<-An.o];refine HT.o.mono ?_;rintro e w1 ⟨rfl,h1,k1⟩;have Bp:=h1.Aw;have A8:Below w1.heap.size w1 ((w1.alloc (.cells #[.int .i64 (m.pop.top.k:Nat),.bool m.pop.top.y,.int .i64 m.pop.top.n,.string ⟨m.pop.top.t.toArray⟩,.pointer (Bq β m.pop.top)] 225)).alloc (.cells #[.int .i64 (m.top.k:Nat),.bool m.top.y,.int .i64 m.top.n,.string ⟨m.top.t.toArray⟩,.pointer (Bq β m.top)] 225)):=Below.alloc (Below.alloc (Below.refl _ _) (Nat.le_refl _) _) z56a _;have B4:=A0 (HP.o _ (h1.below A8).1);have Aa:Hid (A3 (dx D X) w ((w1.alloc (.cells #[.int .i64 (m.pop.top.k:Nat),.bool m.pop.top.y,.int .i64 m.pop.top.n,.string ⟨m.pop.top.t.toArray⟩,.pointer (Bq β m.pop.top)] 225)).alloc (.cells #[.int .i64 (m.top.k:Nat),.bool m.top.y,.int .i64 m.top.n,.string ⟨m.top.t.toArray⟩,.pointer (Bq β m.top)] 225))):=Ah.o.trans ((Ag k1).trans (Ag (h1.below A8).2));clear h1 k1 A8;go_wp2_with fail
  refine B4.o.mono ?_;rintro e w3 ⟨rfl,h3,k3⟩;have Bg:=A0 h3.back;have Ay:Hid (A3 (dx D X) w w3):=Aa.o.trans (Ag k3);clear h3 k3;go_wp2;go_end0;exact⟨rfl,Bg.o,Ay.o⟩):P:=h
theorem z58a {P:Prop} (h:P:=by simp[MS.pop];omega):P:=h
theorem A8b(h:C.Ms D X β w m)(i:Af)(ho:i.op=16)(hn:m.vals.length+1<=100000):Calls Tryz.prog 214 #[.pointer (some ⟨C.mb,0,none⟩),Ac i] w (MP C D X β w (m.two fun a b m'=>m'.push (ofInt (wr (a.n-b.n)))) (.tuple #[])):=by
 obtain⟨w0,An,Aq,Ah,Am,Ar,n0,n1,n2,n3,n4,n5,n6,n7,ln,lb,C2⟩:=h.C6 i;clear h;have HT:=A0 (Ei Aq.o);have HP:=A0 (fun(W:World) (hs:C.Ms D (Cs X w) β W m.pop.pop)=>Lz hs (wr (m.pop.top.n-m.top.n)) z58a);have t0:((i.op:Int)==15)=false:=by rw[ho];rfl
 have t1:((i.op:Int)==16)=true:=by rw[ho];rfl
 unfold B0 at HT;clear ho;unfold Ac;go_enter Tryz.func214,Tryz.ntmps214;exact z0na
theorem z0ja {P:Prop} (h:P:=by
  go_wp2_with fail
  rw[<-An.o];refine HA.o.mono ?_;rintro e w9 ⟨rfl,h9,k9⟩;have HTx:=A0 (HTw.o w9 h9);unfold B0 at HTx;have Da:Hid (A3 (dx D X) w w9):=Ah.o.trans (Ag k9);have lb9:=h9.Aw;clear h9 k9;go_wp2_with fail
  refine HTx.o.mono ?_;rintro e w1 ⟨rfl,h1,k1⟩;have Bp:=h1.Aw;have A8:Below w1.heap.size w1 ((w1.alloc (.cells #[.int .i64 (m.pop.top.k:Nat),.bool m.pop.top.y,.int .i64 m.pop.top.n,.string ⟨m.pop.top.t.toArray⟩,.pointer (Bq β m.pop.top)] 225)).alloc (.cells #[.int .i64 (m.top.k:Nat),.bool m.top.y,.int .i64 m.top.n,.string ⟨m.top.t.toArray⟩,.pointer (Bq β m.top)] 225)):=Below.alloc (Below.alloc (Below.refl _ _) (Nat.le_refl _) _) z56a _;have B4:=A0 (HP.o _ (h1.below A8).1);have Aa:Hid (A3 (dx D X) w ((w1.alloc (.cells #[.int .i64 (m.pop.top.k:Nat),.bool m.pop.top.y,.int .i64 m.pop.top.n,.string ⟨m.pop.top.t.toArray⟩,.pointer (Bq β m.pop.top)] 225)).alloc (.cells #[.int .i64 (m.top.k:Nat),.bool m.top.y,.int .i64 m.top.n,.string ⟨m.top.t.toArray⟩,.pointer (Bq β m.top)] 225))):=Da.o.trans ((Ag k1).trans (Ag (h1.below A8).2));clear h1 k1 A8;go_wp2_with fail
  refine B4.o.mono ?_;rintro e w3 ⟨rfl,h3,k3⟩;have Bg:=A0 h3.back;have Ay:Hid (A3 (dx D X) w w3):=Aa.o.trans (Ag k3);clear h3 k3;go_wp2;go_end0;exact⟨rfl,Bg.o,Ay.o⟩):P:=h
theorem A8a(h:C.Ms D X β w m)(i:Af)(ho:i.op=15)(hn:m.vals.length+1<=100000):Calls Tryz.prog 214 #[.pointer (some ⟨C.mb,0,none⟩),Ac i] w (MP C D X β w (m.ints i (fun a b m'=>m'.push (ofInt (wr (a-b))))) (.tuple #[])):=by
 obtain⟨w0,An,Aq,Ah,Am,Ar,n0,n1,n2,n3,n4,n5,n6,n7,ln,lb,C2⟩:=h.C6 i;clear h;have HP:=A0 (fun(W:World) (hs:C.Ms D (Cs X w) β W m.pop.pop)=>Lz hs (wr (m.pop.top.n-m.top.n)) z58a);have t0:((i.op:Int)==15)=true:=by rw[ho];rfl
 have HTw:=A0 (fun(W:World) (hs:C.Ms D (Cs X w) β W m)=>Ei hs);unfold MS.ints;clear ho;cases hb:m.both 2
 ·rw[if_neg z56a];have HA:=A0 (Rv Aq.o i hb);unfold Ac at HA;clear hb HP HTw;unfold Ac;go_enter Tryz.func214,Tryz.ntmps214;go_wp2_with fail
  rw[<-An.o];refine HA.o.mono ?_;rintro e w1 ⟨rfl,h1,k1⟩;have A7:=A0 h1.back;have A4:Hid (A3 (dx D X) w w1):=Ah.o.trans (Ag k1);clear h1 k1;go_wp2;refine bodyPost_ret (v:=.tuple #[]) (by simp[results,Tryz.results214,go_sem]) rfl ?_;exact z3va
 ·rw[if_pos rfl];have HA:=A0 (Rw Aq.o i hb);unfold Ac at HA;clear hb;unfold Ac;go_enter Tryz.func214,Tryz.ntmps214;exact z0ja
theorem A7j(h:C.Ms D X β w m)(i:Af)(ho:i.op=18)(hn:m.vals.length+1<=100000):Calls Tryz.prog 215 #[.pointer (some ⟨C.mb,0,none⟩),Ac i] w (MP C D X β w (m.two fun a b m'=>m'.push (ofInt (wr (a.n*b.n)))) (.tuple #[])):=by
 obtain⟨w0,An,Aq,Ah,Am,Ar,n0,n1,n2,n3,n4,n5,n6,n7,ln,lb,C2⟩:=h.C6 i;clear h;have HT:=A0 (Ei Aq.o);have HP:=A0 (fun(W:World) (hs:C.Ms D (Cs X w) β W m.pop.pop)=>Lz hs (wr (m.pop.top.n*m.top.n)) z58a);have t0:((i.op:Int)==17)=false:=by rw[ho];rfl
 have t1:((i.op:Int)==18)=true:=by rw[ho];rfl
 unfold B0 at HT;clear ho;unfold Ac;go_enter Tryz.func215,Tryz.ntmps215;exact z0na
theorem A7i(h:C.Ms D X β w m)(i:Af)(ho:i.op=17)(hn:m.vals.length+1<=100000):Calls Tryz.prog 215 #[.pointer (some ⟨C.mb,0,none⟩),Ac i] w (MP C D X β w (m.ints i (fun a b m'=>m'.push (ofInt (wr (a*b))))) (.tuple #[])):=by
 obtain⟨w0,An,Aq,Ah,Am,Ar,n0,n1,n2,n3,n4,n5,n6,n7,ln,lb,C2⟩:=h.C6 i;clear h;have HP:=A0 (fun(W:World) (hs:C.Ms D (Cs X w) β W m.pop.pop)=>Lz hs (wr (m.pop.top.n*m.top.n)) z58a);have t0:((i.op:Int)==17)=true:=by rw[ho];rfl
 have HTw:=A0 (fun(W:World) (hs:C.Ms D (Cs X w) β W m)=>Ei hs);unfold MS.ints;clear ho;cases hb:m.both 2
 ·rw[if_neg z56a];have HA:=A0 (Rv Aq.o i hb);unfold Ac at HA;clear hb HP HTw;unfold Ac;go_enter Tryz.func215,Tryz.ntmps215;go_wp2_with fail
  rw[<-An.o];refine HA.o.mono ?_;rintro e w1 ⟨rfl,h1,k1⟩;have A7:=A0 h1.back;have A4:Hid (A3 (dx D X) w w1):=Ah.o.trans (Ag k1);clear h1 k1;go_wp2;refine bodyPost_ret (v:=.tuple #[]) (by simp[results,Tryz.results215,go_sem]) rfl ?_;exact z3va
 ·rw[if_pos rfl];have HA:=A0 (Rw Aq.o i hb);unfold Ac at HA;clear hb;unfold Ac;go_enter Tryz.func215,Tryz.ntmps215;exact z0ja
theorem MC.Ms.base(h:C.Ms D X β w m):w.cell? ⟨C.mb,8,none⟩=some (.int .i64 m.now.base):=by
 obtain⟨ρ,s,x,fv,ab,lp,h⟩:=h;have:=A2 h.cell 8 (.int .i64 x.base) rfl;rw[h.now.base]at this;exact this
theorem A76(h:C.Ms D X β w m)(i:Af)(ha:0<=i.arg):Calls Tryz.prog 154 #[.pointer (some ⟨C.mb,0,none⟩),Ac i] w (MP C D X β w (m.jump i.arg) (.tuple #[])):=by
 obtain⟨ρ,s,x,fv,ab,lp,h⟩:=h;obtain⟨c0,c1,c2,c3,c4,c5,c6,c7,c8,c9,c10,c11,c12,c13,fz,lb⟩:=Q2 (show w.heap[C.mb]?=some (.cells #[_,_,_,_,_,_,_,_,_,_,_,_,_,_] _ (0,0)) from h.cell);have HH:=A0 h;have HA:Hid (((i.arg.toNat:Nat):Int)=i.arg):=by show _=_;omega
 have HN:=A0 (show Ji D w { x with pc:=i.arg.toNat } ⟨m.now.steps,i.arg.toNat,m.now.base⟩ from⟨h.now.row,rfl,h.now.base⟩);clear h c0 c1 c2 c3 c4 c5 c6 c8 c9 c10 c11 c12 c13 ha;unfold Ac;go_enter Tryz.func154,Tryz.ntmps154;go_wp2;go_end0;rw[show Value.int .i64 i.arg=.int .i64 ((i.arg.toNat:Nat):Int) by rw[HA.o]];have hcl:((w.setCell ⟨C.mb,7,none⟩ (.int .i64 ((i.arg.toNat:Nat):Int))).alloc (.cells #[.int .i64 (i.op:Nat),.int .i64 ((i.arg.toNat:Nat):Int),.int .i64 (i.line:Nat),.int .i64 (i.v.k:Nat),.bool i.v.y,.int .i64 i.v.n,.string ⟨i.v.t.toArray⟩,.pointer none] 251)).heap[C.mb]?=some (.cells (C.cells s { x with pc:=i.arg.toNat } (m.fuel) (m.cells) (m.code) (m.line)) 167 (0,0)):=by
  rw[Below.heap_alloc _ _ _ z55a,(heap_set (j:=7) HH.o.cell (.int .i64 ((i.arg.toNat:Nat):Int)))];simp[MC.cells]
 have hkk:∀g,g<w.heap.size->g≠C.mb->((w.setCell ⟨C.mb,7,none⟩ (.int .i64 ((i.arg.toNat:Nat):Int))).alloc (.cells #[.int .i64 (i.op:Nat),.int .i64 ((i.arg.toNat:Nat):Int),.int .i64 (i.line:Nat),.int .i64 (i.v.k:Nat),.bool i.v.y,.int .i64 i.v.n,.string ⟨i.v.t.toArray⟩,.pointer none] 251)).heap[g]?=w.heap[g]?:=by
  exact z22a
 have hpl:=HH.o.plain (now:=⟨m.now.steps,i.arg.toNat,m.now.base⟩) (fuel:=m.fuel) (cells:=m.cells) (code:=m.code) (line:=m.line) (x':={ x with pc:=i.arg.toNat }) HN.o hcl hkk z5fa rfl rfl rfl;exact⟨rfl,hpl⟩
theorem A7f(h:C.Ms D X β w m)(i:Af)(hb:-1000000<=m.now.base/\m.now.base<=1000000)(ha:-1000000<=i.arg/\i.arg<=1000000)(hn:m.vals.length+1<=100000)(hv:Cc m.arr.length (m.at' (m.now.base+i.arg))):Calls Tryz.prog 149 #[.pointer (some ⟨C.mb,0,none⟩),Ac i] w (MP C D X β w (m.push (m.at' (m.now.base+i.arg))) (.tuple #[])):=by
 obtain⟨w0,An,Aq,Ah,Am,Ar,n0,n1,n2,n3,n4,n5,n6,n7,ln,lb,C2⟩:=h.C6 i;clear h;have cb:=Aq.o.base;have HA:=A0 (Aq.o.Hq.at' (m.now.base+i.arg));have HP:=A0 (fun(W:World) (hs:C.Ms D (Cs X w) β W m)=>hs.push (m.at' (m.now.base+i.arg)) hv hn);have Dr:IntKind.i64.wrap (m.now.base+i.arg)=m.now.base+i.arg:=by rw[IntKind.wrap_i64];omega
 unfold B0 at HA HP;clear hv;generalize hu9:m.at' (m.now.base+i.arg)=u at *;clear hu9;rw[<-Dr]at HA;clear Dr;unfold Ac;go_enter Tryz.func149,Tryz.ntmps149;go_wp2;rw[<-An.o];go_region_law (first
  | (refine F2 rfl 99 _ _ rfl #[.pointer (some ⟨C.mb,4,none⟩),.agg #[.int .i64 (u.k:Nat),.bool u.y,.int .i64 u.n,.string ⟨u.t.toArray⟩,.pointer (Bq β u)]] z53a Bz.o ?_;rintro e w2 ⟨rfl,h2,k2⟩;refine⟨_,rfl,?_⟩;have Aj:=A0 h2.back;have Aa:Hid (A3 (dx D X) w w2):=A4.o.trans (Ag k2);clear h2 k2)
  | (refine F2 rfl 195 _ _ rfl #[.pointer (some ⟨C.mb,4,none⟩),.int .i64 (IntKind.i64.wrap (m.now.base+i.arg))] z53a HA.o ?_;rintro e w1 ⟨rfl,h1,k1⟩;refine⟨_,rfl,?_⟩;have Bz:=A0 (HP.o w1 h1);have Bp:=h1.Aw;have A4:Hid (A3 (dx D X) w w1):=Ah.o.trans ((Dv _ w0 1).trans (Ag k1));clear h1 k1))
 all_goals go_wp2
 all_goals go_end0
 all_goals exact⟨rfl,Aj.o,Aa.o⟩
theorem A88(h:C.Ms D X β w m)(i:Af)(hb:-1000000<=m.now.base/\m.now.base<=1000000)(ha:-1000000<=i.arg/\i.arg<=1000000)(hv:Cc m.arr.length m.top):Calls Tryz.prog 151 #[.pointer (some ⟨C.mb,0,none⟩),Ac i] w (MP C D X β w (m.pop.put (m.now.base+i.arg) m.top) (.tuple #[])):=by
 obtain⟨w0,An,Aq,Ah,Am,Ar,n0,n1,n2,n3,n4,n5,n6,n7,ln,lb,C2⟩:=h.C6 i;clear h;have cb:=Aq.o.base;have HA:=A0 Aq.o.Hq.pop;have HP:=A0 (fun(W:World) (hs:C.Ms D (Cs X w) β W m.pop)=>hs.put (m.now.base+i.arg) m.top hv);have Dr:IntKind.i64.wrap (m.now.base+i.arg)=m.now.base+i.arg:=by rw[IntKind.wrap_i64];omega
 unfold B0 at HA HP;clear hv;have HBs:=A0 (fun(W:World) (hs:C.Ms D (Cs X w) β W m.pop)=>hs.base);generalize hu9:m.top=u at *;have HU:=A0 hu9;clear hu9;rw[show(m.now.base+i.arg)=IntKind.i64.wrap (m.now.base+i.arg) from Dr.symm]at HP;have HW9:=A0 Dr;clear Dr;unfold Ac;go_enter Tryz.func151,Tryz.ntmps151;go_wp2;rw[<-An.o];go_region_law (first
  | (refine F2 rfl 196 _ _ rfl #[.pointer (some ⟨C.mb,4,none⟩),.int .i64 (IntKind.i64.wrap (m.now.base+i.arg)),.agg #[.int .i64 (u.k:Nat),.bool u.y,.int .i64 u.n,.string ⟨u.t.toArray⟩,.pointer (Bq β u)]] z53a Bz.o ?_;rintro e w2 ⟨rfl,h2,k2⟩;refine⟨_,rfl,?_⟩;have Aj:=A0 h2.back;have Aa:Hid (A3 (dx D X) w w2):=A4.o.trans (Ag k2);clear h2 k2)
  | (refine F2 rfl 197 _ _ rfl #[.pointer (some ⟨C.mb,4,none⟩)] z53a HA.o ?_;rintro e w1 ⟨rfl,h1,k1⟩;refine⟨_,rfl,?_⟩;have Bz:=A0 (HP.o w1 h1);have Bp:=h1.Aw;have cb1:=HBs.o w1 h1;simp only[MS.pop]at cb1;have Ad:=(k1.block _ Am.o).trans Ar.o;have y1:=A2 Ad 1 _ rfl;have ly:=A5 Ad;have A4:Hid (A3 (dx D X) w w1):=Ah.o.trans ((Dv _ w0 1).trans (Ag k1));clear h1 k1 Ad))
 all_goals go_wp2
 all_goals go_end0
 all_goals
  have q:=Aj.o;rw[HW9.o]at q;exact⟨rfl,q,Aa.o⟩
theorem z50a {P:Prop} (h:P:=by repeat (first|exact Below.refl _ _|refine Below.alloc ?_ z56a _|refine Below.setCell ?_ z56a _|refine Below.drew ?_)):P:=h
theorem z02a {P:Prop} (h:P:=by
  go_wp2_with fail
  rw[<-An.o];refine HT.o.mono ?_;rintro e w1 ⟨rfl,h1,k1⟩;have Bp:=h1.Aw;have Bn:=A0 (fun(W:World) (hb:Below w1.heap.size w1 W)=>((HP.o W (h1.below hb).1).mono (fun e w3 (q:MP C D (Cs X w) β W _ _ e w3)=>(⟨q.1,q.2.1.back,Ah.o.trans ((Ag k1).trans ((Ag (h1.below hb).2).trans (Ag q.2.2)))⟩:MP C D X β w _ _ e w3))));have Ad:=(k1.block _ Am.o).trans Ar.o;clear n0 n1 n2 n3 n4 n5 n6 n7 ln;obtain⟨n0,n1,n2,n3,n4,n5,n6,n7,ln⟩:=B3 Ad;clear h1 k1 Ad;go_wp2_with fail
  refine(Bn.o _ z50a).mono ?_;rintro e w3 ⟨rfl,q2,q3⟩;have Gy:=A0 q2;have HQ3:=A0 q3;clear q2 q3;go_wp2;go_end0;exact⟨rfl,Gy.o,HQ3.o⟩):P:=h
theorem z20a {P:Prop} (h:P:=by
  unfold B0 at HT;clear ho;unfold Ac;go_enter Tryz.func222,Tryz.ntmps222;exact z02a):P:=h
theorem A7h(h:C.Ms D X β w m)(i:Af)(ho:i.op=33)(hn:m.vals.length+1<=100000):Calls Tryz.prog 222 #[.pointer (some ⟨C.mb,0,none⟩),Ac i] w (MP C D X β w (m.two fun a b m'=>m'.push (ofBool (decide (a.n<b.n)))) (.tuple #[])):=by
 obtain⟨w0,An,Aq,Ah,Am,Ar,n0,n1,n2,n3,n4,n5,n6,n7,ln,lb,C2⟩:=h.C6 i;clear h;have t32:((i.op:Int)==32)=false:=by rw[ho];rfl
 have t33:((i.op:Int)==33)=true:=by rw[ho];rfl
 have HT:=A0 (Ei Aq.o);have HP:=A0 (fun(W:World) (hs:C.Ms D (Cs X w) β W m.pop.pop)=>Jf hs (decide (m.pop.top.n<m.top.n)) z58a);exact z20a
theorem A7a(h:C.Ms D X β w m)(i:Af)(ho:i.op=35)(hn:m.vals.length+1<=100000):Calls Tryz.prog 222 #[.pointer (some ⟨C.mb,0,none⟩),Ac i] w (MP C D X β w (m.two fun a b m'=>m'.push (ofBool (decide (a.n<=b.n)))) (.tuple #[])):=by
 obtain⟨w0,An,Aq,Ah,Am,Ar,n0,n1,n2,n3,n4,n5,n6,n7,ln,lb,C2⟩:=h.C6 i;clear h;have t32:((i.op:Int)==32)=false:=by rw[ho];rfl
 have t33:((i.op:Int)==33)=false:=by rw[ho];rfl
 have t34:((i.op:Int)==34)=false:=by rw[ho];rfl
 have t35:((i.op:Int)==35)=true:=by rw[ho];rfl
 have HT:=A0 (Ei Aq.o);have HP:=A0 (fun(W:World) (hs:C.Ms D (Cs X w) β W m.pop.pop)=>Jf hs (decide (m.pop.top.n<=m.top.n)) z58a);exact z20a
theorem A74(h:C.Ms D X β w m)(i:Af)(ho:i.op=32)(hn:m.vals.length+1<=100000):Calls Tryz.prog 222 #[.pointer (some ⟨C.mb,0,none⟩),Ac i] w (MP C D X β w (m.two fun a b m'=>m'.push (ofBool (decide (b.n<a.n)))) (.tuple #[])):=by
 obtain⟨w0,An,Aq,Ah,Am,Ar,n0,n1,n2,n3,n4,n5,n6,n7,ln,lb,C2⟩:=h.C6 i;clear h;have t32:((i.op:Int)==32)=true:=by rw[ho];rfl
 have HT:=A0 (Ei Aq.o);have HP:=A0 (fun(W:World) (hs:C.Ms D (Cs X w) β W m.pop.pop)=>Jf hs (decide (m.top.n<m.pop.top.n)) z58a);exact z20a
theorem A73(h:C.Ms D X β w m)(i:Af)(ho:i.op=34)(hn:m.vals.length+1<=100000):Calls Tryz.prog 222 #[.pointer (some ⟨C.mb,0,none⟩),Ac i] w (MP C D X β w (m.two fun a b m'=>m'.push (ofBool (decide (b.n<=a.n)))) (.tuple #[])):=by
 obtain⟨w0,An,Aq,Ah,Am,Ar,n0,n1,n2,n3,n4,n5,n6,n7,ln,lb,C2⟩:=h.C6 i;clear h;have t32:((i.op:Int)==32)=false:=by rw[ho];rfl
 have t33:((i.op:Int)==33)=false:=by rw[ho];rfl
 have t34:((i.op:Int)==34)=true:=by rw[ho];rfl
 have HT:=A0 (Ei Aq.o);have HP:=A0 (fun(W:World) (hs:C.Ms D (Cs X w) β W m.pop.pop)=>Jf hs (decide (m.top.n<=m.pop.top.n)) z58a);exact z20a
theorem A7l(h:C.Ms D X β w m)(i:Af)(ho:i.op=24)(hn:m.vals.length+1<=100000):Calls Tryz.prog 218 #[.pointer (some ⟨C.mb,0,none⟩),Ac i] w (MP C D X β w (m.pop.push (ofInt (wr (-m.top.n)))) (.tuple #[])):=by
 obtain⟨w0,An,Aq,Ah,Am,Ar,n0,n1,n2,n3,n4,n5,n6,n7,ln,lb,C2⟩:=h.C6 i;clear h;have HT:=A0 Aq.o.pop;have HP:=A0 (fun(W:World) (hs:C.Ms D (Cs X w) β W m.pop)=>Lz hs (wr (-m.top.n)) z58a);have vf2:=A4i;have t23:((i.op:Int)==23)=false:=by rw[ho];rfl
 have t24:((i.op:Int)==24)=true:=by rw[ho];rfl
 unfold B0 at HT;clear ho;unfold Ac;go_enter Tryz.func218,Tryz.ntmps218;exact z02a
theorem A7o(h:C.Ms D X β w m)(i:Af)(ho:i.op=27)(hk:m.top.k=1)(hn:m.vals.length+1<=100000):Calls Tryz.prog 220 #[.pointer (some ⟨C.mb,0,none⟩),Ac i] w (MP C D X β w (m.pop.push (ofBool (!m.top.y))) (.tuple #[])):=by
 obtain⟨w0,An,Aq,Ah,Am,Ar,n0,n1,n2,n3,n4,n5,n6,n7,ln,lb,C2⟩:=h.C6 i;clear h;have HT:=A0 Aq.o.pop;have HP:=A0 (fun(W:World) (hs:C.Ms D (Cs X w) β W m.pop)=>Jf hs (!m.top.y) z58a);have tk:(((m.top.k:Nat):Int) !=1)=false:=by rw[hk];rfl
 have t26:((i.op:Int)==26)=false:=by rw[ho];rfl
 have t27:((i.op:Int)==27)=true:=by rw[ho];rfl
 unfold B0 at HT;clear ho hk;unfold Ac;go_enter Tryz.func220,Tryz.ntmps220;exact z02a
theorem A7n(h:C.Ms D X β w m)(i:Af)(ho:i.op=27)(hk:m.top.k≠1):Calls Tryz.prog 220 #[.pointer (some ⟨C.mb,0,none⟩),Ac i] w (MP C D X β w (m.pop.fail 5 i) (.tuple #[])):=by
 obtain⟨w0,An,Aq,Ah,Am,Ar,n0,n1,n2,n3,n4,n5,n6,n7,ln,lb,C2⟩:=h.C6 i;clear h;have HT:=A0 Aq.o.pop;have HP:=A0 (fun(W:World) (hs:C.Ms D (Cs X w) β W m.pop)=>Gw hs 5 i);have tk:(((m.top.k:Nat):Int) !=1)=true:=by rw[bne_iff_ne];omega
 have t26:((i.op:Int)==26)=false:=by rw[ho];rfl
 have t27:((i.op:Int)==27)=true:=by rw[ho];rfl
 unfold B0 at HT;unfold Ac at HP;clear ho hk;unfold Ac;go_enter Tryz.func220,Tryz.ntmps220;go_wp2_with fail
 rw[<-An.o];refine HT.o.mono ?_;rintro e w1 ⟨rfl,h1,k1⟩;have Bp:=h1.Aw;have Bn:=A0 (fun(W:World) (hb:Below w1.heap.size w1 W)=>((HP.o W (h1.below hb).1).mono (fun e w3 (q:MP C D (Cs X w) β W _ _ e w3)=>(⟨q.1,q.2.1.back,Ah.o.trans ((Ag k1).trans ((Ag (h1.below hb).2).trans (Ag q.2.2)))⟩:MP C D X β w _ _ e w3))));have Ad:=(k1.block _ Am.o).trans Ar.o;clear n0 n1 n2 n3 n4 n5 n6 n7 ln;obtain⟨n0,n1,n2,n3,n4,n5,n6,n7,ln⟩:=B3 Ad;clear h1 k1 Ad;go_wp2_with fail
 refine(Bn.o _ z50a).mono ?_;rintro e w3 ⟨rfl,q2,q3⟩;have Gy:=A0 q2;have HQ3:=A0 q3;clear q2 q3;go_wp2;refine bodyPost_ret (v:=.tuple #[]) (by simp[results,Tryz.results220,go_sem]) rfl ?_;exact⟨rfl,Gy.o,HQ3.o⟩
theorem MC.Ms.Ua(h:C.Ms D X β w m):(∃v,w.cell? ⟨C.mb,7,none⟩=some v)/\(∀o,w.frozen? ⟨C.mb,o,none⟩=false):=by
 obtain⟨ρ,s,x,fv,ab,lp,h⟩:=h;exact⟨⟨_,A2 h.cell 7 (.int .i64 (x.pc:Nat)) rfl⟩,Bh h.cell⟩
theorem MC.Ms.Sf(h:C.Ms D X β w m)(a:Int)(ha:0<=a):C.Ms D X β (w.setCell ⟨C.mb,7,none⟩ (.int .i64 a)) (m.jump a)/\A3 (dx D X) w (w.setCell ⟨C.mb,7,none⟩ (.int .i64 a)):=by
 obtain⟨ρ,s,x,fv,ab,lp,hv⟩:=h;have hcl:(w.setCell ⟨C.mb,7,none⟩ (.int .i64 a)).heap[C.mb]?=some (.cells (C.cells s { x with pc:=a.toNat } m.fuel m.cells m.code m.line) 167 (0,0)):=by
  rw[heap_set (j:=7) hv.cell (.int .i64 a)];have:((a.toNat:Nat):Int)=a:=by omega
  simp[MC.cells,this]
 exact hv.plain (now:=⟨m.now.steps,a.toNat,m.now.base⟩) (x':={ x with pc:=a.toNat }) ⟨hv.now.row,rfl,hv.now.base⟩ hcl (fun g _ hne=>Below.heap_setCell _ _ _ _ z5sa) z5fa rfl rfl rfl
theorem A8f(h:C.Ms D X β w m)(i:Af)(ho:i.op=8)(hk:m.top.k≠1):Calls Tryz.prog 155 #[.pointer (some ⟨C.mb,0,none⟩),Ac i] w (MP C D X β w (m.pop.fail 5 i) (.tuple #[])):=by
 obtain⟨w0,An,Aq,Ah,Am,Ar,n0,n1,n2,n3,n4,n5,n6,n7,ln,lb,C2⟩:=h.C6 i;clear h;have HT:=A0 Aq.o.pop;have HP:=A0 (fun(W:World) (hs:C.Ms D (Cs X w) β W m.pop)=>Gw hs 5 i);have tk:(((m.top.k:Nat):Int) !=1)=true:=by rw[bne_iff_ne];omega
 have t7:((i.op:Int)==7)=false:=by rw[ho];rfl
 have t8:((i.op:Int)==8)=true:=by rw[ho];rfl
 unfold B0 at HT;unfold Ac at HP;clear ho hk;unfold Ac;go_enter Tryz.func155,Tryz.ntmps155;exact z02a
theorem z4fa {P:Prop} (h:P:=by
  go_wp2;go_end0;exact⟨rfl,HQ.o _ (Below.alloc (Below.refl _ _) (Nat.le_refl _) _)⟩):P:=h
theorem A8h(h:C.Ms D X β w m)(i:Af)(ho:i.op=8)(hk:m.top.k=1)(hy:m.top.y=true):Calls Tryz.prog 155 #[.pointer (some ⟨C.mb,0,none⟩),Ac i] w (MP C D X β w (m.pop) (.tuple #[])):=by
 obtain⟨w0,An,Aq,Ah,Am,Ar,n0,n1,n2,n3,n4,n5,n6,n7,ln,lb,C2⟩:=h.C6 i;clear h;have HT:=A0 Aq.o.pop;have tk:(((m.top.k:Nat):Int) !=1)=false:=by rw[hk];rfl
 have t7:((i.op:Int)==7)=false:=by rw[ho];rfl
 have t8:((i.op:Int)==8)=true:=by rw[ho];rfl
 unfold B0 at HT;clear ho hk;unfold Ac;go_enter Tryz.func155,Tryz.ntmps155;go_wp2_with fail
 rw[<-An.o];refine HT.o.mono ?_;rintro e w1 ⟨rfl,h1,k1⟩;have Ad:=(k1.block _ Am.o).trans Ar.o;clear n0 n1 n2 n3 n4 n5 n6 n7 ln;obtain⟨n0,n1,n2,n3,n4,n5,n6,n7,ln⟩:=B3 Ad;have HQ:=A0 (fun(W:World) (hb:Below w1.heap.size w1 W)=>And.intro (h1.below hb).1.back (Ah.o.trans ((Ag k1).trans (Ag (h1.below hb).2))));clear h1 k1 Ad;exact z4fa
theorem A8g(h:C.Ms D X β w m)(i:Af)(ho:i.op=8)(hk:m.top.k=1)(hy:m.top.y=false)(ha:0<=i.arg):Calls Tryz.prog 155 #[.pointer (some ⟨C.mb,0,none⟩),Ac i] w (MP C D X β w (m.pop.jump i.arg) (.tuple #[])):=by
 obtain⟨w0,An,Aq,Ah,Am,Ar,n0,n1,n2,n3,n4,n5,n6,n7,ln,lb,C2⟩:=h.C6 i;clear h;have HT:=A0 Aq.o.pop;have tk:(((m.top.k:Nat):Int) !=1)=false:=by rw[hk];rfl
 have t7:((i.op:Int)==7)=false:=by rw[ho];rfl
 have t8:((i.op:Int)==8)=true:=by rw[ho];rfl
 unfold B0 at HT;clear ho hk;unfold Ac;go_enter Tryz.func155,Tryz.ntmps155;go_wp2_with fail
 rw[<-An.o];refine HT.o.mono ?_;rintro e w1 ⟨rfl,h1,k1⟩;have Ad:=(k1.block _ Am.o).trans Ar.o;clear n0 n1 n2 n3 n4 n5 n6 n7 ln;obtain⟨n0,n1,n2,n3,n4,n5,n6,n7,ln⟩:=B3 Ad;obtain⟨⟨v7,c7⟩,f7⟩:=h1.Ua;have Bp:=h1.Aw;obtain⟨s1,s2⟩:=h1.Sf i.arg ha;have HQ:=A0 (fun(W:World) (hb:Below (w1.setCell ⟨C.mb,7,none⟩ (.int .i64 i.arg)).heap.size (w1.setCell ⟨C.mb,7,none⟩ (.int .i64 i.arg)) W)=>And.intro (s1.below hb).1.back (Ah.o.trans ((Ag k1).trans ((Ag s2).trans (Ag (s1.below hb).2)))));clear h1 k1 Ad s1 s2;exact z4fa
end
end Go.Proofs.YtjdlndhfaaolaaaGreatDoor
