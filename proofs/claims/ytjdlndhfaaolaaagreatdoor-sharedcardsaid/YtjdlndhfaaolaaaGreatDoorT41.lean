import Derived.Test.YtjdlndhfaaolaaaGreatDoorT40
set_option maxHeartbeats 20000000
namespace Go.Proofs.YtjdlndhfaaolaaaGreatDoor
section
set_option maxRecDepth 100000
open Go.RowKit
open Go.Deep (BT)
structure E9 (D : Nat -> Prop) (kb pb : Nat) (P : Dl) (ps : List Kn) (pa : Option Addr) (pc : Nat) (w : World) (ab : List Kn) (va : Option Addr) (vc : Nat) : Prop where
 st:Di 407 7 En kb 2 w #[.pointer (some ⟨pb,0,none⟩),.slice pa ps.length pc,.slice va ab.length vc] 414 va ab.length vc ab
 par:Cz D w 407 7 (.slice pa ps.length pc) ps.length (C0 En ps)
 prog:Jw D w pb P
 nd:¬D kb/\∀g,(Value.slice va ab.length vc).ownBlock=some g->¬D g
 lo:∀g,D g->g<w.heap.size
 Bw:ab.length<=100000/\ps.length<=1000
variable {D:Nat->Prop} {kb pb:Nat} {P:Dl} {ps:List Kn} {pa:Option Addr} {pc:Nat} {w w':World} {ab:List Kn} {va:Option Addr} {vc:Nat}
theorem E9.below(h:E9 D kb pb P ps pa pc w ab va vc)(hb:Below w.heap.size w w'):E9 D kb pb P ps pa pc w' ab va vc:=
 ⟨h.st.keep hb.block,h.par.keep (fun g hg hl=>⟨hb.block g hl,hg⟩),h.prog.keep (fun g hg hl=>⟨hb.block g hl,hg⟩),h.nd,fun g hg=>Nat.lt_of_lt_of_le (h.lo g hg) hb.size,h.Bw⟩
def KP(w:World)(r:Value)(e:Ending)(w':World):Prop:=e=.returned r/\Below w.heap.size w w'
theorem Tc{a b:World}{B:Nat}(h:Below B a b)(n:Nat):Below B a (b.drewN n):=⟨h.os,h.tape,h.output,h.size,h.block⟩
theorem J5{w W:World}(hb:Below w.heap.size w W){b:Nat}(hk:w.heap.size<=b)(c0 c1 c2 c3 c4 c5 c6:Value):Below w.heap.size w (((((((W.setCell ⟨b,0,none⟩ c0).setCell ⟨b,1,none⟩ c1).setCell ⟨b,2,none⟩ c2).setCell ⟨b,3,none⟩ c3).setCell ⟨b,4,none⟩ c4).setCell ⟨b,5,none⟩ c5).setCell ⟨b,6,none⟩ c6):=by
 iterate 7 refine Below.setCell ?_ hk _
 exact hb
theorem Jr(w:World)(o:Obj):Below w.heap.size w (w.alloc o):=Below.alloc (Below.refl _ _) (Nat.le_refl _) _
theorem z1na {P:Prop} (h:P:=by
  clear hn ho;go_enter Tryz.func298,Tryz.ntmps298;go_wp2;go_quiet (fail)
  go_wp2;refine bodyPost_ret (v:=Bc Eo) (by simp[results,Tryz.results298,go_sem,Bc,Eo,Ab]) rfl ⟨rfl,?_⟩;exact J5 (Tc (Below.alloc (Below.alloc (Below.refl _ _) (Nat.le_refl _) _) z56a _) _) z51a _ _ _ _ _ _ _):P:=h
theorem A1d(h:E9 D kb pb P ps pa pc w ab va vc)(i:Af)(hn:¬(i.op=1/\i.arg<(ps.length:Nat))):Calls Tryz.prog 298 #[.pointer (some ⟨kb,0,none⟩),Ac i] w (KP w (Bc Eo)):=by
 have c1:=A2 h.st.blk 1 _ rfl;have lb:=A5 h.st.blk;clear h;unfold Ac;by_cases ho:i.op=1
 ·have t0:((i.op:Int)==1)=true:=by rw[ho];rfl
  have t1:¬i.arg<((ps.length:Nat):Int):=fun q=>hn ⟨ho,q⟩;exact z1na
 ·have t0:((i.op:Int)==1)=false:=by rw[beq_eq_false_iff_ne];omega
  exact z1na
theorem Afs(h:E9 D kb pb P ps pa pc w ab va vc)(i:Af)(ho:i.op=1)(j:Nat)(hj:i.arg=(j:Nat))(hl:j<ps.length):Calls Tryz.prog 298 #[.pointer (some ⟨kb,0,none⟩),Ac i] w (KP w (Bc ps[j])):=by
 have c1:=A2 h.st.blk 1 _ rfl;have lb:=A5 h.st.blk;have hfew:=h.Bw.2;have t0:((i.op:Int)==1)=true:=by rw[ho];rfl
 have t1:((j:Nat):Int)<((ps.length:Nat):Int):=by omega
 obtain⟨g,rfl,hvn9,hcap,lg,hcell⟩:=G2 h.par.1 z51a;clear hvn9;have d0:=hcell (j*7+0) _ ((D6 (sz:=7) (fun _=>rfl) ps j 0 hl z51a).trans rfl);have d1:=hcell (j*7+1) _ ((D6 (sz:=7) (fun _=>rfl) ps j 1 hl z51a).trans rfl);have d2:=hcell (j*7+2) _ ((D6 (sz:=7) (fun _=>rfl) ps j 2 hl z51a).trans rfl);have d3:=hcell (j*7+3) _ ((D6 (sz:=7) (fun _=>rfl) ps j 3 hl z51a).trans rfl);have d4:=hcell (j*7+4) _ ((D6 (sz:=7) (fun _=>rfl) ps j 4 hl z51a).trans rfl);have d5:=hcell (j*7+5) _ ((D6 (sz:=7) (fun _=>rfl) ps j 5 hl z51a).trans rfl);have d6:=hcell (j*7+6) _ ((D6 (sz:=7) (fun _=>rfl) ps j 6 hl z51a).trans rfl);rw[Nat.add_zero]at d0;clear h hcell ho;generalize ps[j]=x at *;unfold Ac;rw[hj];go_enter Tryz.func298,Tryz.ntmps298;go_wp2;go_quiet (fail)
 go_wp2;obtain⟨w5,Jd⟩:∃w5,w5=(((w.alloc (.cells #[.int .i64 (i.op:Nat),.int .i64 (j:Nat),.int .i64 (i.line:Nat),.int .i64 (i.v.k:Nat),.bool i.v.y,.int .i64 i.v.n,.string ⟨i.v.t.toArray⟩,.pointer none] 251)).alloc (.cells #[.bool false,.bool false,.int .i64 0,.bool false,.int .i64 0,.string ⟨#[]⟩,.pointer none] 407)).drewN nq):=⟨_,rfl⟩;rw[<-Jd];have Cl:Below w.heap.size w w5:=by rw[Jd];exact Tc (Below.alloc (Below.alloc (Below.refl _ _) (Nat.le_refl _) _) z56a _) _
 have q1:w5.heap[w.heap.size]?=some (.cells #[.int .i64 (i.op:Nat),.int .i64 (j:Nat),.int .i64 (i.line:Nat),.int .i64 (i.v.k:Nat),.bool i.v.y,.int .i64 i.v.n,.string ⟨i.v.t.toArray⟩,.pointer none] 251 (0,0)):=by rw[Jd];exact alloc_old (heap_alloc_new w _)
 have q2:w5.heap[w.heap.size+1]?=some (.cells #[.bool false,.bool false,.int .i64 0,.bool false,.int .i64 0,.string ⟨#[]⟩,.pointer none] 407 (0,0)):=by
  rw[Jd,show w.heap.size+1=(w.alloc (.cells #[.int .i64 (i.op:Nat),.int .i64 (j:Nat),.int .i64 (i.line:Nat),.int .i64 (i.v.k:Nat),.bool i.v.y,.int .i64 i.v.n,.string ⟨i.v.t.toArray⟩,.pointer none] 251)).heap.size by simp];exact heap_alloc_new (w.alloc (.cells #[.int .i64 (i.op:Nat),.int .i64 (j:Nat),.int .i64 (i.line:Nat),.int .i64 (i.v.k:Nat),.bool i.v.y,.int .i64 i.v.n,.string ⟨i.v.t.toArray⟩,.pointer none] 251)) (.cells #[.bool false,.bool false,.int .i64 0,.bool false,.int .i64 0,.string ⟨#[]⟩,.pointer none] 407)
 have E7:=A0 Cl;have hc5:∀(k o:Nat),k<w.heap.size->w5.cell? ⟨k,o,none⟩=w.cell? ⟨k,o,none⟩:=fun k o hk=>World.cell?_of_block (Cl.block k hk);rw[<-hc5 _ _ lb]at c1;rw[<-hc5 _ _ lg]at d0 d1 d2 d3 d4 d5 d6;obtain⟨n0,n1,n2,n3,n4,n5,n6,n7,ln⟩:=B3 q1;have r0:=A2 q2 0 _ rfl;have r1:=A2 q2 1 _ rfl;have r2:=A2 q2 2 _ rfl;have r3:=A2 q2 3 _ rfl;have r4:=A2 q2 4 _ rfl;have r5:=A2 q2 5 _ rfl;have r6:=A2 q2 6 _ rfl;have fr:=Bh q2;have lr:=A5 q2;have lb5:=Nat.lt_of_lt_of_le lb Cl.size;have lg5:=Nat.lt_of_lt_of_le lg Cl.size;clear Jd q1 q2 hc5 Cl;refine Ic 8 z53a z53a ?_;simp only[List.take_succ_cons,List.take_zero,List.drop_succ_cons,List.drop_zero];iterate 8 (refine Ez (fun K' hK'=>?_);go_simp;refine hK' _ ?_;clear hK' K')
 refine Ib ?_;go_wp2;refine bodyPost_ret (v:=Bc x) (by simp[results,Tryz.results298,go_sem,Bc,r0,r1,r2,r3,r4,r5,r6]) rfl ⟨rfl,?_⟩;exact Below.drew (J5 E7.o z51a _ _ _ _ _ _ _)
theorem Ly(h:E9 D kb pb P ps pa pc w ab va vc)(i:Af)(ha:0<=i.arg):Calls Tryz.prog 298 #[.pointer (some ⟨kb,0,none⟩),Ac i] w (KP w (Bc (Fq ps i))):=by
 unfold Fq;by_cases ho:i.op=1
 ·rw[if_pos ho];by_cases hl:i.arg.toNat<ps.length
  ·rw[List.getElem?_eq_getElem hl];exact Afs h i ho i.arg.toNat z51a hl
  ·rw[List.getElem?_eq_none z51a];exact A1d h i (fun q=>hl z51a)
 ·rw[if_neg ho];exact A1d h i (fun q=>ho q.1)
theorem Yh(ab:List Kn):E6 ab=if((ab.length:Int)-1)<0 then Eo else(ab[((ab.length:Int)-1).toNat]?).getD Eo:=Qe _ ab
theorem Y9(ab:List Kn):Kl ab=if((ab.length:Int)-1-1)<0 then Eo else(ab[((ab.length:Int)-1-1).toNat]?).getD Eo:=by
 unfold Kl;rw[Qe];by_cases h:ab.length<=1
 ·rw[if_pos z54a,if_pos z51a]
 ·rw[if_neg z54a,if_neg z51a];rw[List.length_dropLast,List.getElem?_dropLast];rw[if_pos z51a];congr 3
  omega
theorem Kx(h:E9 D kb pb P ps pa pc w ab va vc)(kd:Nat):Calls Tryz.prog 299 #[.pointer (some ⟨kb,0,none⟩),.int .i64 (kd:Nat)] w (KP w (.bool (Fg ab kd))):=by
 have lb:=A5 h.st.blk;have hfew:=h.Bw.1;have HL:=A0 (Rs h.st);have HA:=A0 (Pb h.st ((ab.length:Int)-1) z51a (E6 ab) (Yh ab));have HM:=A0 h;clear h;unfold Fg;cases hx:(E6 ab).sure kd
 ·go_enter Tryz.func299,Tryz.ntmps299;go_wp2_with fail
  refine HL.o.mono ?_;rintro e w1 ⟨rfl,Fx⟩;rw[Fx];clear Fx w1;go_wp2_with fail
  refine HA.o.mono ?_;rintro e w1 ⟨rfl,A1⟩;have A7:=A0 (fun(W:World)=>Mg (E6 ab) kd W);rw[hx]at A7;have A4:=A0 A1;have HM1:=A0 (HM.o.below A1);have Bp:kb<w1.heap.size:=Nat.lt_of_lt_of_le lb A1.size;clear A1;unfold Bc at A7;generalize E6 ab=x at *;go_wp2_with fail
  refine(A7.o _).mono ?_;rintro e w2 ⟨rfl,A8⟩;have Aa:Hid (Below w.heap.size w w2):=A4.o.trans (A8.mono A4.o.size);have HM2:=A0 (HM1.o.below A8);have E2:kb<w2.heap.size:=Nat.lt_of_lt_of_le Bp A8.size;clear A8;go_wp2;go_ret;exact⟨rfl,Aa.o⟩
 ·go_enter Tryz.func299,Tryz.ntmps299;go_wp2_with fail
  refine HL.o.mono ?_;rintro e w1 ⟨rfl,Fx⟩;rw[Fx];clear Fx w1;go_wp2_with fail
  refine HA.o.mono ?_;rintro e w1 ⟨rfl,A1⟩;have A7:=A0 (fun(W:World)=>Mg (E6 ab) kd W);rw[hx]at A7;have A4:=A0 A1;have HM1:=A0 (HM.o.below A1);have Bp:kb<w1.heap.size:=Nat.lt_of_lt_of_le lb A1.size;clear A1;unfold Bc at A7;generalize E6 ab=x at *;go_wp2_with fail
  refine(A7.o _).mono ?_;rintro e w2 ⟨rfl,A8⟩;have Aa:Hid (Below w.heap.size w w2):=A4.o.trans (A8.mono A4.o.size);have HM2:=A0 (HM1.o.below A8);have E2:kb<w2.heap.size:=Nat.lt_of_lt_of_le Bp A8.size;clear A8;have HA2:=A0 (Pb HM2.o.st ((ab.length:Int)-1-1) (by have:=HM2.o.Bw.1;omega) (Kl ab) (Y9 ab));have Bg:=A0 (fun(W:World)=>Mg (Kl ab) kd W);unfold Bc at Bg;generalize hy:Kl ab=y at *;clear hy;generalize hz:y.sure kd=z at *;clear hz;go_wp2_with fail
  refine HA2.o.mono ?_;rintro e w3 ⟨rfl,Ak⟩;have Ay:Hid (Below w.heap.size w w3):=Aa.o.trans (Ak.mono Aa.o.size);clear Ak;go_wp2_with fail
  refine(Bg.o _).mono ?_;rintro e w4 ⟨rfl,Ba⟩;have Cn:Hid (Below w.heap.size w w4):=Ay.o.trans (Ba.mono Ay.o.size);clear Ba;go_wp2;go_ret;exact⟨rfl,Cn.o⟩
end
section
set_option maxRecDepth 100000
open Go.RowKit
open Go.Deep (BT)
variable {D:Nat->Prop} {kb pb:Nat} {P:Dl} {ps:List Kn} {pa:Option Addr} {pc:Nat} {w w':World} {ab:List Kn} {va:Option Addr} {vc:Nat}
def Nj(ab:List Kn)(kd:Nat):Bool:=(E6 ab).sure kd||(Kl ab).sure kd
theorem Sk(ab:List Kn):N7 ab=if Nj ab 2 then Dj 2 else if Nj ab 3 then Dj 3 else Eo:=rfl
theorem z6oa {P:Prop} (h:P:=by simp[results,Tryz.results319,go_sem,Bc,Dj,r0,r1,r2,r3,r4,r5,r6]):P:=h
theorem z0za {P:Prop} (h:P:=by
  unfold Bc Dj at HO;go_wp2_with fail
  refine HO.o.mono ?_;rintro e w9 ⟨rfl,D1⟩;have Ap:=(D1.block _ lqr).trans HQr.o;have Da:Hid (Below w.heap.size w w9):=Ah.o.trans (Below.mono (HBr.o.trans (D1.mono HBr.o.size)) ls0);have r0:=A2 Ap 0 _ rfl;have r1:=A2 Ap 1 _ rfl;have r2:=A2 Ap 2 _ rfl;have r3:=A2 Ap 3 _ rfl;have r4:=A2 Ap 4 _ rfl;have r5:=A2 Ap 5 _ rfl;have r6:=A2 Ap 6 _ rfl;have fr:=Bh Ap;have lr:=A5 Ap;clear D1 Ap HO;go_wp2;refine bodyPost_ret (v:=Bc (Dj 3)) z6oa rfl ⟨by rw[HRS.o],?_⟩;exact J5 Da.o (Nat.le_refl _) _ _ _ _ _ _ _):P:=h
theorem z0ya {P:Prop} (h:P:=by
  unfold Bc Dj at HO;go_wp2_with fail
  refine HO.o.mono ?_;rintro e w9 ⟨rfl,D1⟩;have Ap:=(D1.block _ lqr).trans HQr.o;have Da:Hid (Below w.heap.size w w9):=Ah.o.trans (Below.mono (HBr.o.trans (D1.mono HBr.o.size)) ls0);have r0:=A2 Ap 0 _ rfl;have r1:=A2 Ap 1 _ rfl;have r2:=A2 Ap 2 _ rfl;have r3:=A2 Ap 3 _ rfl;have r4:=A2 Ap 4 _ rfl;have r5:=A2 Ap 5 _ rfl;have r6:=A2 Ap 6 _ rfl;have fr:=Bh Ap;have lr:=A5 Ap;clear D1 Ap HO;go_wp2;refine bodyPost_ret (v:=Bc (Dj 2)) z6oa rfl ⟨by rw[HRS.o],?_⟩;exact J5 Da.o (Nat.le_refl _) _ _ _ _ _ _ _):P:=h
theorem Af6(h:E9 D kb pb P ps pa pc w ab va vc):Calls Tryz.prog 319 #[.pointer (some ⟨kb,0,none⟩)] w (KP w (Bc (N7 ab))):=by
 have Bj:=Jr w (.cells #[.bool false,.bool false,.int .i64 0,.bool false,.int .i64 0,.string ⟨#[]⟩,.pointer none] 407);have hq0:=heap_alloc_new w (.cells #[.bool false,.bool false,.int .i64 0,.bool false,.int .i64 0,.string ⟨#[]⟩,.pointer none] 407);have h0:=h.below Bj;have C2:=A5 h0.st.blk;have hfew:=h.Bw.1;have HL:=A0 (Rs h0.st);have HM:=A0 h0;have Ah:=A0 Bj;have HQ:=A0 hq0;have lq:=A5 hq0;clear h h0 Bj hq0;go_enter Tryz.func319,Tryz.ntmps319;go_wp2_with fail
 refine HL.o.mono ?_;rintro e w1 ⟨rfl,Fx⟩;rw[Fx];clear Fx w1;obtain⟨w0,D5⟩:∃w0,w0=w.alloc (.cells #[.bool false,.bool false,.int .i64 0,.bool false,.int .i64 0,.string ⟨#[]⟩,.pointer none] 407):=⟨_,rfl⟩;rw[<-D5]at HM Ah HQ HL C2 lq ⊢;clear D5 HL;have ls0:=Ah.o.size;go_wp2;go_loopg [12] 2 (fun k v wr=>∃i:Nat,v=.int .i64 i/\i+k=2/\(∀j,j<i->Nj ab (j+2)=false)/\Below w0.heap.size w0 wr)
 case atStart=>exact⟨0,rfl,rfl,fun j hj=>by omega,Below.refl _ _⟩
 case round=>
  obtain⟨i,rfl,hik,hno,hbr⟩:=hrel;have HBr:=A0 hbr;have HNo:=A0 hno;have HMr:=A0 (HM.o.below hbr);have lbr:=Nat.lt_of_lt_of_le C2 hbr.size;have HQr:=A0 ((hbr.block _ lq).trans HQ.o);have lqr:=Nat.lt_of_lt_of_le lq hbr.size;clear hbr hno;have h3:i=0\/i=1\/i=2:=by omega
  rcases h3 with rfl|rfl|rfl
  ·have hix:(Instr.index 457 (.agg #[.int .i64 2,.int .i64 3]) (.int .i64 0)).run Tryz.prog wr=.ok (.int .i64 2) wr:=by kernel_rfl
   have HA:=A0 (Pb HMr.o.st ((ab.length:Int)-1) z51a (E6 ab) (Yh ab));have A7:=A0 (fun(W:World)=>Mg (E6 ab) 2 W);unfold Bc at A7;generalize hxx:E6 ab=x at *;have HXX:=A0 hxx;clear hxx;go_wp2_with fail
   refine HA.o.mono ?_;rintro e w2 ⟨rfl,A8⟩;have hbr:=HBr.o.trans (A8.mono HBr.o.size);clear HBr;have HBr:=A0 hbr;have HMr2:=A0 (HMr.o.below A8);have HQr2:=A0 ((A8.block _ lqr).trans HQr.o);have lqr2:=Nat.lt_of_lt_of_le lqr A8.size;have lbr2:=Nat.lt_of_lt_of_le lbr A8.size;clear A8 hbr HA HMr HQr lqr lbr;cases hs:x.sure 2
   ·rw[hs]at A7;have HA2:=A0 (fun(W:World) (hb:Below w2.heap.size w2 W)=>Pb (HMr2.o.below hb).st ((ab.length:Int)-1-1) z51a (Kl ab) (Y9 ab));have Bg:=A0 (fun(W:World)=>Mg (Kl ab) 2 W);unfold Bc at Bg;generalize hyy:Kl ab=y at *;have HYY:=A0 hyy;clear hyy;go_wp2_with fail
    refine(A7.o _).mono ?_;rintro e w3 ⟨rfl,Ak⟩;have HA3:=A0 (HA2.o w3 Ak);have hbr:=HBr.o.trans (Ak.mono HBr.o.size);clear HBr;have HBr:=A0 hbr;have HMr3:=A0 (HMr2.o.below Ak);have HQr3:=A0 ((Ak.block _ lqr2).trans HQr2.o);have lqr3:=Nat.lt_of_lt_of_le lqr2 Ak.size;have lbr3:=Nat.lt_of_lt_of_le lbr2 Ak.size;clear Ak hbr HA2 HMr2 HQr2 lqr2 lbr2;go_wp2_with fail
    refine HA3.o.mono ?_;rintro e w4 ⟨rfl,Ba⟩;have hbr:=HBr.o.trans (Ba.mono HBr.o.size);clear HBr;have HBr:=A0 hbr;have HQr4:=A0 ((Ba.block _ lqr3).trans HQr3.o);have lqr4:=Nat.lt_of_lt_of_le lqr3 Ba.size;have lbr4:=Nat.lt_of_lt_of_le lbr3 Ba.size;clear Ba hbr HA3 HMr3 HQr3 lqr3 lbr3;cases B5:y.sure 2
    ·rw[B5]at Bg;have HN2:Hid (Nj ab 2=false):=by show(_||_)=false;rw[HXX.o,HYY.o,hs,B5];rfl
     go_wp2_with fail
     refine(Bg.o _).mono ?_;rintro e w5 ⟨rfl,Cl⟩;have hbr:=HBr.o.trans (Cl.mono HBr.o.size);clear HBr;have HBr:=A0 hbr;clear Cl hbr;go_wp2;go_roundg (gk-1)
     case measure=>omega
     case rel=>exact⟨0+1,by simp,by omega,fun j hj=>(by rcases Nat.lt_or_ge j 0 with q|q;exact HNo.o j q;rw[show j+2=2 by omega];exact HN2.o),HBr.o⟩
    ·rw[B5]at Bg;have HN2:Hid (Nj ab 2=true):=by show(_||_)=true;rw[HXX.o,HYY.o,hs,B5];rfl
     have HRS:Hid (N7 ab=Dj 2):=by show _=_;rw[Sk,HN2.o];rfl
     go_wp2_with fail
     refine(Bg.o _).mono ?_;rintro e w5 ⟨rfl,Cl⟩;have hbr:=HBr.o.trans (Cl.mono HBr.o.size);clear HBr;have HBr:=A0 hbr;have HQr:=A0 ((Cl.block _ lqr4).trans HQr4.o);have lqr:=Nat.lt_of_lt_of_le lqr4 Cl.size;clear Cl hbr HQr4 lqr4;have HO:=A0 (Ma 2 w5);exact z0ya
   ·rw[hs]at A7;have HN2:Hid (Nj ab 2=true):=by show(_||_)=true;rw[HXX.o,hs];rfl
    have HRS:Hid (N7 ab=Dj 2):=by show _=_;rw[Sk,HN2.o];rfl
    go_wp2_with fail
    refine(A7.o _).mono ?_;rintro e w3 ⟨rfl,Ak⟩;have hbr:=HBr.o.trans (Ak.mono HBr.o.size);clear HBr;have HBr:=A0 hbr;have HQr:=A0 ((Ak.block _ lqr2).trans HQr2.o);have lqr:=Nat.lt_of_lt_of_le lqr2 Ak.size;clear Ak hbr HQr2 lqr2;have HO:=A0 (Ma 2 w3);exact z0ya
  ·have hix:(Instr.index 457 (.agg #[.int .i64 2,.int .i64 3]) (.int .i64 1)).run Tryz.prog wr=.ok (.int .i64 3) wr:=by kernel_rfl
   have HA:=A0 (Pb HMr.o.st ((ab.length:Int)-1) z51a (E6 ab) (Yh ab));have A7:=A0 (fun(W:World)=>Mg (E6 ab) 3 W);unfold Bc at A7;generalize hxx:E6 ab=x at *;have HXX:=A0 hxx;clear hxx;go_wp2_with fail
   refine HA.o.mono ?_;rintro e w2 ⟨rfl,A8⟩;have hbr:=HBr.o.trans (A8.mono HBr.o.size);clear HBr;have HBr:=A0 hbr;have HMr2:=A0 (HMr.o.below A8);have HQr2:=A0 ((A8.block _ lqr).trans HQr.o);have lqr2:=Nat.lt_of_lt_of_le lqr A8.size;have lbr2:=Nat.lt_of_lt_of_le lbr A8.size;clear A8 hbr HA HMr HQr lqr lbr;cases hs:x.sure 3
   ·rw[hs]at A7;have HA2:=A0 (fun(W:World) (hb:Below w2.heap.size w2 W)=>Pb (HMr2.o.below hb).st ((ab.length:Int)-1-1) z51a (Kl ab) (Y9 ab));have Bg:=A0 (fun(W:World)=>Mg (Kl ab) 3 W);unfold Bc at Bg;generalize hyy:Kl ab=y at *;have HYY:=A0 hyy;clear hyy;go_wp2_with fail
    refine(A7.o _).mono ?_;rintro e w3 ⟨rfl,Ak⟩;have HA3:=A0 (HA2.o w3 Ak);have hbr:=HBr.o.trans (Ak.mono HBr.o.size);clear HBr;have HBr:=A0 hbr;have HMr3:=A0 (HMr2.o.below Ak);have HQr3:=A0 ((Ak.block _ lqr2).trans HQr2.o);have lqr3:=Nat.lt_of_lt_of_le lqr2 Ak.size;have lbr3:=Nat.lt_of_lt_of_le lbr2 Ak.size;clear Ak hbr HA2 HMr2 HQr2 lqr2 lbr2;go_wp2_with fail
    refine HA3.o.mono ?_;rintro e w4 ⟨rfl,Ba⟩;have hbr:=HBr.o.trans (Ba.mono HBr.o.size);clear HBr;have HBr:=A0 hbr;have HQr4:=A0 ((Ba.block _ lqr3).trans HQr3.o);have lqr4:=Nat.lt_of_lt_of_le lqr3 Ba.size;have lbr4:=Nat.lt_of_lt_of_le lbr3 Ba.size;clear Ba hbr HA3 HMr3 HQr3 lqr3 lbr3;cases B5:y.sure 3
    ·rw[B5]at Bg;have HN2:Hid (Nj ab 3=false):=by show(_||_)=false;rw[HXX.o,HYY.o,hs,B5];rfl
     go_wp2_with fail
     refine(Bg.o _).mono ?_;rintro e w5 ⟨rfl,Cl⟩;have hbr:=HBr.o.trans (Cl.mono HBr.o.size);clear HBr;have HBr:=A0 hbr;clear Cl hbr;go_wp2;go_roundg (gk-1)
     case measure=>omega
     case rel=>exact⟨1+1,by simp,by omega,fun j hj=>(by rcases Nat.lt_or_ge j 1 with q|q;exact HNo.o j q;rw[show j+2=3 by omega];exact HN2.o),HBr.o⟩
    ·rw[B5]at Bg;have HN2:Hid (Nj ab 3=true):=by show(_||_)=true;rw[HXX.o,HYY.o,hs,B5];rfl
     have HRS:Hid (N7 ab=Dj 3):=by show _=_;rw[Sk,HNo.o 0 z51a,HN2.o];rfl
     go_wp2_with fail
     refine(Bg.o _).mono ?_;rintro e w5 ⟨rfl,Cl⟩;have hbr:=HBr.o.trans (Cl.mono HBr.o.size);clear HBr;have HBr:=A0 hbr;have HQr:=A0 ((Cl.block _ lqr4).trans HQr4.o);have lqr:=Nat.lt_of_lt_of_le lqr4 Cl.size;clear Cl hbr HQr4 lqr4;have HO:=A0 (Ma 3 w5);exact z0za
   ·rw[hs]at A7;have HN2:Hid (Nj ab 3=true):=by show(_||_)=true;rw[HXX.o,hs];rfl
    have HRS:Hid (N7 ab=Dj 3):=by show _=_;rw[Sk,HNo.o 0 z51a,HN2.o];rfl
    go_wp2_with fail
    refine(A7.o _).mono ?_;rintro e w3 ⟨rfl,Ak⟩;have hbr:=HBr.o.trans (Ak.mono HBr.o.size);clear HBr;have HBr:=A0 hbr;have HQr:=A0 ((Ak.block _ lqr2).trans HQr2.o);have lqr:=Nat.lt_of_lt_of_le lqr2 Ak.size;clear Ak hbr HQr2 lqr2;have HO:=A0 (Ma 3 w3);exact z0za
  ·have HRS:Hid (N7 ab=Eo):=by show _=_;rw[Sk,HNo.o 0 z51a,HNo.o 1 z51a];rfl
   have r0:=A2 HQr.o 0 _ rfl;have r1:=A2 HQr.o 1 _ rfl;have r2:=A2 HQr.o 2 _ rfl;have r3:=A2 HQr.o 3 _ rfl;have r4:=A2 HQr.o 4 _ rfl;have r5:=A2 HQr.o 5 _ rfl;have r6:=A2 HQr.o 6 _ rfl;have fr:=Bh HQr.o;have Da:Hid (Below w.heap.size w wr):=Ah.o.trans (Below.mono HBr.o ls0);go_wp2;refine bodyPost_ret (v:=Bc Eo) (by simp[results,Tryz.results319,go_sem,Bc,Eo,Ab,r0,r1,r2,r3,r4,r5,r6]) rfl ⟨by rw[HRS.o],?_⟩;exact J5 Da.o (Nat.le_refl _) _ _ _ _ _ _ _
theorem I2(w:World)(o:Obj)(a:Array Value)(t:TypeId):((w.alloc o).alloc (.cells a t)).heap[w.heap.size+1]?=some (.cells a t (0,0)):=by
 rw[show w.heap.size+1=(w.alloc o).heap.size by simp];exact heap_alloc_new _ _
theorem E0(w:World)(o o':Obj):Below w.heap.size w ((w.alloc o).alloc o'):=Below.alloc (Below.alloc (Below.refl _ _) (Nat.le_refl _) _) z56a _
def Wr:Option Kn->Value
 | some x=>.tuple #[Bc x,.bool true]
 | none=>.tuple #[Bc Eo,.bool false]
theorem z5ka {P:Prop} (h:P:=by simp[results,Tryz.results303,go_sem,Bc,r0,r1,r2,r3,r4,r5,r6]):P:=h
theorem Adn(h:E9 D kb pb P ps pa pc w ab va vc)(i:Af)(hop:i.op=1\/i.op=2\/i.op=42\/i.op=39)(ha:0<=i.arg):Calls Tryz.prog 303 #[.pointer (some ⟨kb,0,none⟩),Ac i] w (KP w (.tuple #[Bc (Fq ps i),.bool true])):=by
 have HC:=A0 (fun(W:World) (hb:Below w.heap.size w W)=>Ly (h.below hb) i ha);have lb:=A5 h.st.blk;clear h;clear ha;generalize Fq ps i=x at *;obtain⟨op,arg,line,v⟩:=i;unfold Ac at *;try unfold KP at HC
 try unfold Bc at HC
 dsimp only at *;rcases hop with rfl|rfl|rfl|rfl <;>
  (go_enter Tryz.func303,Tryz.ntmps303
   go_wp2_with fail
   refine(HC.o _ (E0 _ _ _)).mono ?_;rintro e w1 ⟨rfl,A1⟩;have Ap:=(A1.block (w.heap.size+1) z56a).trans (I2 _ _ _ _);have Da:Hid (Below w.heap.size w w1):=(E0 _ _ _).trans (A1.mono z54a);have r0:=A2 Ap 0 _ rfl;have r1:=A2 Ap 1 _ rfl;have r2:=A2 Ap 2 _ rfl;have r3:=A2 Ap 3 _ rfl;have r4:=A2 Ap 4 _ rfl;have r5:=A2 Ap 5 _ rfl;have r6:=A2 Ap 6 _ rfl;have fr:=Bh Ap;have lr:=A5 Ap;clear A1 Ap HC;go_wp2;refine bodyPost_ret (v:=.tuple #[Bc x,.bool true]) z5ka rfl ⟨rfl,?_⟩;exact J5 Da.o z51a _ _ _ _ _ _ _)
theorem z06a {P:Prop} (h:P:=by
  obtain⟨op,arg,line,v⟩:=i;unfold Ac at *;try unfold KP at HC
  try unfold Bc at HC
  dsimp only at *;subst hop;all_goals
   (go_enter Tryz.func303,Tryz.ntmps303
    go_wp2_with fail
    refine(HC.o _ (E0 _ _ _)).mono ?_;rintro e w1 ⟨rfl,A1⟩;have Ap:=(A1.block (w.heap.size+1) z56a).trans (I2 _ _ _ _);have Da:Hid (Below w.heap.size w w1):=(E0 _ _ _).trans (A1.mono z54a);have r0:=A2 Ap 0 _ rfl;have r1:=A2 Ap 1 _ rfl;have r2:=A2 Ap 2 _ rfl;have r3:=A2 Ap 3 _ rfl;have r4:=A2 Ap 4 _ rfl;have r5:=A2 Ap 5 _ rfl;have r6:=A2 Ap 6 _ rfl;have fr:=Bh Ap;have lr:=A5 Ap;clear A1 Ap HC;go_wp2;refine bodyPost_ret (v:=.tuple #[Bc x,.bool true]) z5ka rfl ⟨rfl,?_⟩;exact J5 Da.o z51a _ _ _ _ _ _ _)):P:=h
theorem Adm(h:E9 D kb pb P ps pa pc w ab va vc)(i:Af)(hop:i.op=0):Calls Tryz.prog 303 #[.pointer (some ⟨kb,0,none⟩),Ac i] w (KP w (.tuple #[Bc (Js i.v),.bool true])):=by
 have HC:=A0 (fun(W:World) (_:Below w.heap.size w W)=>X5 i.v W);have lb:=A5 h.st.blk;clear h;generalize hx:Js i.v=x at *;clear hx;exact z06a
theorem Adp(h:E9 D kb pb P ps pa pc w ab va vc)(i:Af)(hop:i.op=12):Calls Tryz.prog 303 #[.pointer (some ⟨kb,0,none⟩),Ac i] w (KP w (.tuple #[Bc (N7 ab),.bool true])):=by
 have HC:=A0 (fun(W:World) (hb:Below w.heap.size w W)=>Af6 (h.below hb));have lb:=A5 h.st.blk;clear h;generalize N7 ab=x at *;exact z06a
theorem Adk(h:E9 D kb pb P ps pa pc w ab va vc)(i:Af)(hop:i.op=15\/i.op=17\/i.op=19\/i.op=21\/i.op=23\/i.op=37):Calls Tryz.prog 303 #[.pointer (some ⟨kb,0,none⟩),Ac i] w (KP w (.tuple #[Bc (Dj 2),.bool true])):=by
 have HC:=A0 (fun(W:World) (_:Below w.heap.size w W)=>Ma 2 W);have lb:=A5 h.st.blk;clear h;generalize Dj 2=x at *;obtain⟨op,arg,line,v⟩:=i;unfold Ac at *;try unfold KP at HC
 try unfold Bc at HC
 dsimp only at *;rcases hop with rfl|rfl|rfl|rfl|rfl|rfl <;>
  (go_enter Tryz.func303,Tryz.ntmps303
   go_wp2_with fail
   refine(HC.o _ (E0 _ _ _)).mono ?_;rintro e w1 ⟨rfl,A1⟩;have Ap:=(A1.block (w.heap.size+1) z56a).trans (I2 _ _ _ _);have Da:Hid (Below w.heap.size w w1):=(E0 _ _ _).trans (A1.mono z54a);have r0:=A2 Ap 0 _ rfl;have r1:=A2 Ap 1 _ rfl;have r2:=A2 Ap 2 _ rfl;have r3:=A2 Ap 3 _ rfl;have r4:=A2 Ap 4 _ rfl;have r5:=A2 Ap 5 _ rfl;have r6:=A2 Ap 6 _ rfl;have fr:=Bh Ap;have lr:=A5 Ap;clear A1 Ap HC;go_wp2;refine bodyPost_ret (v:=.tuple #[Bc x,.bool true]) z5ka rfl ⟨rfl,?_⟩;exact J5 Da.o z51a _ _ _ _ _ _ _)
theorem Adj(h:E9 D kb pb P ps pa pc w ab va vc)(i:Af)(hop:i.op=25\/i.op=26\/i.op=27\/i.op=28\/i.op=29\/i.op=30\/i.op=31\/i.op=11):Calls Tryz.prog 303 #[.pointer (some ⟨kb,0,none⟩),Ac i] w (KP w (.tuple #[Bc (Dj 1),.bool true])):=by
 have HC:=A0 (fun(W:World) (_:Below w.heap.size w W)=>Ma 1 W);have lb:=A5 h.st.blk;clear h;generalize Dj 1=x at *;obtain⟨op,arg,line,v⟩:=i;unfold Ac at *;try unfold KP at HC
 try unfold Bc at HC
 dsimp only at *;rcases hop with rfl|rfl|rfl|rfl|rfl|rfl|rfl|rfl <;>
  (go_enter Tryz.func303,Tryz.ntmps303
   go_wp2_with fail
   refine(HC.o _ (E0 _ _ _)).mono ?_;rintro e w1 ⟨rfl,A1⟩;have Ap:=(A1.block (w.heap.size+1) z56a).trans (I2 _ _ _ _);have Da:Hid (Below w.heap.size w w1):=(E0 _ _ _).trans (A1.mono z54a);have r0:=A2 Ap 0 _ rfl;have r1:=A2 Ap 1 _ rfl;have r2:=A2 Ap 2 _ rfl;have r3:=A2 Ap 3 _ rfl;have r4:=A2 Ap 4 _ rfl;have r5:=A2 Ap 5 _ rfl;have r6:=A2 Ap 6 _ rfl;have fr:=Bh Ap;have lr:=A5 Ap;clear A1 Ap HC;go_wp2;refine bodyPost_ret (v:=.tuple #[Bc x,.bool true]) z5ka rfl ⟨rfl,?_⟩;exact J5 Da.o z51a _ _ _ _ _ _ _)
theorem Adl(h:E9 D kb pb P ps pa pc w ab va vc)(i:Af)(hop:i.op=36):Calls Tryz.prog 303 #[.pointer (some ⟨kb,0,none⟩),Ac i] w (KP w (.tuple #[Bc (Dj 4),.bool true])):=by
 have HC:=A0 (fun(W:World) (_:Below w.heap.size w W)=>Ma 4 W);have lb:=A5 h.st.blk;clear h;generalize Dj 4=x at *;exact z06a
theorem Adq(h:E9 D kb pb P ps pa pc w ab va vc)(i:Af)(hop:i.op=38):Calls Tryz.prog 303 #[.pointer (some ⟨kb,0,none⟩),Ac i] w (KP w (.tuple #[Bc (E6 ab),.bool true])):=by
 have HC:=A0 (fun(W:World) (hb:Below w.heap.size w W)=>Rt (h.below hb).st z5ua (E6 ab) rfl);have lb:=A5 h.st.blk;clear h;generalize E6 ab=x at *;exact z06a
theorem Ado(w:World)(i:Af)(h:¬(i.op=0\/i.op=1\/i.op=2\/i.op=42\/i.op=39\/i.op=12\/i.op=15\/i.op=17\/i.op=19\/i.op=21\/i.op=23\/i.op=37\/i.op=25\/i.op=26\/i.op=27\/i.op=28\/i.op=29\/i.op=30\/i.op=31\/i.op=11\/i.op=36\/i.op=38)):Calls Tryz.prog 303 #[.pointer (some ⟨kb,0,none⟩),Ac i] w (KP w (.tuple #[Bc Eo,.bool false])):=by
 have t0:((i.op:Int)==0)=false:=by rw[beq_eq_false_iff_ne];omega
 have t1:((i.op:Int)==1)=false:=by rw[beq_eq_false_iff_ne];omega
 have t2:((i.op:Int)==2)=false:=by rw[beq_eq_false_iff_ne];omega
 have t42:((i.op:Int)==42)=false:=by rw[beq_eq_false_iff_ne];omega
 have t39:((i.op:Int)==39)=false:=by rw[beq_eq_false_iff_ne];omega
 have t12:((i.op:Int)==12)=false:=by rw[beq_eq_false_iff_ne];omega
 have t15:((i.op:Int)==15)=false:=by rw[beq_eq_false_iff_ne];omega
 have t17:((i.op:Int)==17)=false:=by rw[beq_eq_false_iff_ne];omega
 have t19:((i.op:Int)==19)=false:=by rw[beq_eq_false_iff_ne];omega
 have t21:((i.op:Int)==21)=false:=by rw[beq_eq_false_iff_ne];omega
 have t23:((i.op:Int)==23)=false:=by rw[beq_eq_false_iff_ne];omega
 have t37:((i.op:Int)==37)=false:=by rw[beq_eq_false_iff_ne];omega
 have t25:((i.op:Int)==25)=false:=by rw[beq_eq_false_iff_ne];omega
 have t26:((i.op:Int)==26)=false:=by rw[beq_eq_false_iff_ne];omega
 have t27:((i.op:Int)==27)=false:=by rw[beq_eq_false_iff_ne];omega
 have t28:((i.op:Int)==28)=false:=by rw[beq_eq_false_iff_ne];omega
 have t29:((i.op:Int)==29)=false:=by rw[beq_eq_false_iff_ne];omega
 have t30:((i.op:Int)==30)=false:=by rw[beq_eq_false_iff_ne];omega
 have t31:((i.op:Int)==31)=false:=by rw[beq_eq_false_iff_ne];omega
 have t11:((i.op:Int)==11)=false:=by rw[beq_eq_false_iff_ne];omega
 have t36:((i.op:Int)==36)=false:=by rw[beq_eq_false_iff_ne];omega
 have t38:((i.op:Int)==38)=false:=by rw[beq_eq_false_iff_ne];omega
 clear h;unfold Ac;go_enter Tryz.func303,Tryz.ntmps303;go_wp2;refine bodyPost_ret (v:=.tuple #[Bc Eo,.bool false]) (by simp[results,Tryz.results303,go_sem,Bc,Eo,Ab]) rfl ⟨rfl,?_⟩;exact E0 _ _ _
theorem Aej(h:E9 D kb pb P ps pa pc w ab va vc)(i:Af)(ha:0<=i.arg):Calls Tryz.prog 303 #[.pointer (some ⟨kb,0,none⟩),Ac i] w (KP w (Wr (Tw ps ab i))):=by
 unfold Tw;by_cases h0:i.op=0
 ·rw[if_pos h0];exact Adm h i h0
 rw[if_neg h0];by_cases h1:i.op=1\/i.op=2\/i.op=42\/i.op=39
 ·rw[if_pos h1];exact Adn h i h1 ha
 rw[if_neg h1];by_cases h12:i.op=12
 ·rw[if_pos h12];exact Adp h i h12
 rw[if_neg h12];by_cases h2:i.op=15\/i.op=17\/i.op=19\/i.op=21\/i.op=23\/i.op=37
 ·rw[if_pos h2];exact Adk h i h2
 rw[if_neg h2];by_cases h3:i.op=25\/i.op=26\/i.op=27\/i.op=28\/i.op=29\/i.op=30\/i.op=31\/i.op=11
 ·rw[if_pos h3];exact Adj h i h3
 rw[if_neg h3];by_cases h36:i.op=36
 ·rw[if_pos h36];exact Adl h i h36
 rw[if_neg h36];by_cases h38:i.op=38
 ·rw[if_pos h38];exact Adq h i h38
 rw[if_neg h38];exact Ado w i z51a
theorem z6wa {P:Prop} (h:P:=by exact Nat.le_succ _):P:=h
theorem Aii(h:E9 D kb pb P ps pa pc w ab va vc)(i:Af)(ha:0<=i.arg)(hw:(Fq ps i).whole=true):Calls Tryz.prog 292 #[.pointer (some ⟨kb,0,none⟩),Ac i] w (KP w (Ac (quick ps ab i))):=by
 have HQ:Hid (quick ps ab i=⟨0,0,0,(Fq ps i).like⟩):=if_pos hw;have HC:=A0 (fun(W:World) (hb:Below w.heap.size w W)=>Ly (h.below hb) i ha);have lb:=A5 h.st.blk;have HM:=A0 h;have hfew:=h.Bw.1;clear h ha;unfold Ac at *;unfold KP at HC;unfold Bc at HC;clear HM;generalize Fq ps i=x at *;go_enter Tryz.func292,Tryz.ntmps292;go_wp2_with fail
 refine(HC.o _ (E0 _ _ _)).mono ?_;rintro e w1 ⟨rfl,A1⟩;have Au:=(A1.block (w.heap.size+1) z56a).trans (I2 _ _ _ _);have Ad:=(A1.block w.heap.size z54a).trans (alloc_old (heap_alloc_new w _));have A4:Hid (Below w.heap.size w w1):=(E0 _ _ _).trans (A1.mono z54a);have E5:=A4.o.size;have r0:=A2 Au 0 _ rfl;have r1:=A2 Au 1 _ rfl;have r2:=A2 Au 2 _ rfl;have r3:=A2 Au 3 _ rfl;have r4:=A2 Au 4 _ rfl;have r5:=A2 Au 5 _ rfl;have r6:=A2 Au 6 _ rfl;have r7:=A2 Au 7 _ rfl;have fr:=Bh Au;have lr:=A5 Au;clear A1 Au Ad HC;go_wp2;refine bodyPost_ret (v:=.agg #[.int .i64 0,.int .i64 0,.int .i64 0,.int .i64 (x.like.k:Nat),.bool x.like.y,.int .i64 x.like.n,.string ⟨x.like.t.toArray⟩,.pointer none]) (by simp[results,Tryz.results292,go_sem,r0,r1,r2,r3,r4,r5,r6,r7,lr]) rfl ⟨by rw[HQ.o];rfl,?_⟩;have hfin2:=A4.o;refine Below.alloc ?_ z55a _;iterate 8 refine Below.setCell ?_ z6wa _
 exact hfin2
theorem z28a {P:Prop} (h:P:=by
  show quick ps ab i=_;unfold quick;rw[if_neg (by rw[hw];simp)];simp[ho,h3,h2]):P:=h
theorem z5la {P:Prop} (h:P:=by exact Nat.le_refl _):P:=h
theorem z1ga {P:Prop} (h:P:=by
  iterate 8 refine Below.setCell ?_ z6wa _
  refine Below.setCell ?_ z5la _;exact hfin):P:=h
theorem z57a {P:Prop} (h:P:=by simp[results,Tryz.results292,go_sem,r0,r1,r2,r3,r4,r5,r6,r7]):P:=h
theorem z6ia {P:Prop} (h:P:=by exact Nat.succ_ne_self _):P:=h
theorem Aih(h:E9 D kb pb P ps pa pc w ab va vc)(i:Af)(ha:0<=i.arg)(hw:(Fq ps i).whole=false)(ho:i.op=12)(h3:Fg ab 3=true)(h2:Fg ab 2=true):Calls Tryz.prog 292 #[.pointer (some ⟨kb,0,none⟩),Ac i] w (KP w (Ac (quick ps ab i))):=by
 have HQ:Hid (quick ps ab i=⟨(Gf 14),i.arg,i.line,i.v⟩):=by
  exact z28a
 have t12:((i.op:Int)==12)=true:=by rw[ho];rfl
 have Ay:=A0 (fun(W:World) (hb:Below w.heap.size w W)=>Kx (h.below hb) 3);rw[h3]at Ay;have Aa:=A0 (fun(W:World) (hb:Below w.heap.size w W)=>Kx (h.below hb) 2);rw[h2]at Aa;have HC:=A0 (fun(W:World) (hb:Below w.heap.size w W)=>Ly (h.below hb) i ha);have lb:=A5 h.st.blk;have HM:=A0 h;have hfew:=h.Bw.1;clear h ha;unfold Ac at *;unfold KP at HC;unfold Bc at HC;clear ho h3 h2 HM;generalize Fq ps i=x at *;go_enter Tryz.func292,Tryz.ntmps292;go_wp2_with fail
 refine(HC.o _ (E0 _ _ _)).mono ?_;rintro e w1 ⟨rfl,A1⟩;have Au:=(A1.block (w.heap.size+1) z56a).trans (I2 _ _ _ _);have Ad:=(A1.block w.heap.size z54a).trans (alloc_old (heap_alloc_new w _));have A4:Hid (Below w.heap.size w w1):=(E0 _ _ _).trans (A1.mono z54a);have E5:=A4.o.size;have lr1:=A5 Au;have Bt:=A0 Ad;have F8:=A0 Au;obtain⟨n0,n1,n2,n3,n4,n5,n6,n7,ln⟩:=B3 Ad;clear A1 Au Ad HC;unfold KP at Ay;go_wp2_with fail
 refine(Ay.o _ (Below.alloc A4.o E5 _)).mono ?_;rintro e w2 ⟨rfl,A8⟩;have Ax:=(A8.block w.heap.size z54a).trans (alloc_old Bt.o);have B7:=(A8.block (w.heap.size+1) z54a).trans (alloc_old F8.o);have I9:Hid (Below w.heap.size w w2):=Below.trans (Below.alloc A4.o E5 _) (A8.mono z54a);have lr2:=A5 B7;clear n0 n1 n2 n3 n4 n5 n6 n7 ln;obtain⟨n0,n1,n2,n3,n4,n5,n6,n7,ln⟩:=B3 Ax;have fi2:=Bh Ax;have Ef:=A0 Ax;have Ci:=A0 B7;clear A8 Ax B7 Ay;unfold KP at Aa;go_wp2_with fail
 refine(Aa.o _ (Below.setCell I9.o z5la _)).mono ?_;rintro e w3 ⟨rfl,Ak⟩;have D4:=(Ak.block w.heap.size z55a).trans (show(w2.setCell ⟨w.heap.size,0,none⟩ (.int .i64 14)).heap[w.heap.size]?=some (.cells #[.int .i64 14,.int .i64 i.arg,.int .i64 (i.line:Nat),.int .i64 (i.v.k:Nat),.bool i.v.y,.int .i64 i.v.n,.string ⟨i.v.t.toArray⟩,.pointer none] 251 (0,0)) from heap_set (j:=0) Ef.o _);have Cj:=(Ak.block (w.heap.size+1) z55a).trans ((Below.heap_setCell _ _ _ _ z6ia).trans Ci.o);have HBl3:Hid (Below w.heap.size w w3):=Below.trans (Below.setCell I9.o z5la _) (Ak.mono z55a);have lr3:=A5 Cj;clear n0 n1 n2 n3 n4 n5 n6 n7 ln;obtain⟨n0,n1,n2,n3,n4,n5,n6,n7,ln⟩:=B3 D4;have fi3:=Bh D4;have HI3:=A0 D4;have C8:=A0 Cj;clear Ak D4 Cj Aa;have r0:=A2 C8.o 0 _ rfl;have r1:=A2 C8.o 1 _ rfl;have r2:=A2 C8.o 2 _ rfl;have r3:=A2 C8.o 3 _ rfl;have r4:=A2 C8.o 4 _ rfl;have r5:=A2 C8.o 5 _ rfl;have r6:=A2 C8.o 6 _ rfl;have r7:=A2 C8.o 7 _ rfl;have fr:=Bh C8.o;have lr:=lr3;have HO:=A0 (S0 14 w3);go_wp2_with fail
 refine HO.o.mono ?_;rintro e w9 ⟨rfl,Dr⟩;rw[Dr];clear Dr w9;go_wp2;refine bodyPost_ret (v:=.agg #[.int .i64 ((Gf 14):Nat),.int .i64 i.arg,.int .i64 (i.line:Nat),.int .i64 (i.v.k:Nat),.bool i.v.y,.int .i64 i.v.n,.string ⟨i.v.t.toArray⟩,.pointer none]) z57a rfl ⟨by rw[HQ.o],?_⟩;have hfin:=HBl3.o;exact z1ga
theorem z1sa {P:Prop} (h:P:=by
  iterate 8 refine Below.setCell ?_ z6wa _
  exact hfin):P:=h
theorem Aig(h:E9 D kb pb P ps pa pc w ab va vc)(i:Af)(ha:0<=i.arg)(hw:(Fq ps i).whole=false)(ho:i.op=12)(h3:Fg ab 3=true)(h2:Fg ab 2=false):Calls Tryz.prog 292 #[.pointer (some ⟨kb,0,none⟩),Ac i] w (KP w (Ac (quick ps ab i))):=by
 have HQ:Hid (quick ps ab i=⟨14,i.arg,i.line,i.v⟩):=by
  exact z28a
 have t12:((i.op:Int)==12)=true:=by rw[ho];rfl
 have Ay:=A0 (fun(W:World) (hb:Below w.heap.size w W)=>Kx (h.below hb) 3);rw[h3]at Ay;have Aa:=A0 (fun(W:World) (hb:Below w.heap.size w W)=>Kx (h.below hb) 2);rw[h2]at Aa;have HC:=A0 (fun(W:World) (hb:Below w.heap.size w W)=>Ly (h.below hb) i ha);have lb:=A5 h.st.blk;have HM:=A0 h;have hfew:=h.Bw.1;clear h ha;unfold Ac at *;unfold KP at HC;unfold Bc at HC;clear ho h3 h2 HM;generalize Fq ps i=x at *;go_enter Tryz.func292,Tryz.ntmps292;go_wp2_with fail
 refine(HC.o _ (E0 _ _ _)).mono ?_;rintro e w1 ⟨rfl,A1⟩;have Au:=(A1.block (w.heap.size+1) z56a).trans (I2 _ _ _ _);have Ad:=(A1.block w.heap.size z54a).trans (alloc_old (heap_alloc_new w _));have A4:Hid (Below w.heap.size w w1):=(E0 _ _ _).trans (A1.mono z54a);have E5:=A4.o.size;have lr1:=A5 Au;have Bt:=A0 Ad;have F8:=A0 Au;obtain⟨n0,n1,n2,n3,n4,n5,n6,n7,ln⟩:=B3 Ad;clear A1 Au Ad HC;unfold KP at Ay;go_wp2_with fail
 refine(Ay.o _ (Below.alloc A4.o E5 _)).mono ?_;rintro e w2 ⟨rfl,A8⟩;have Ax:=(A8.block w.heap.size z54a).trans (alloc_old Bt.o);have B7:=(A8.block (w.heap.size+1) z54a).trans (alloc_old F8.o);have I9:Hid (Below w.heap.size w w2):=Below.trans (Below.alloc A4.o E5 _) (A8.mono z54a);have lr2:=A5 B7;clear n0 n1 n2 n3 n4 n5 n6 n7 ln;obtain⟨n0,n1,n2,n3,n4,n5,n6,n7,ln⟩:=B3 Ax;have fi2:=Bh Ax;have Ef:=A0 Ax;have Ci:=A0 B7;clear A8 Ax B7 Ay;unfold KP at Aa;go_wp2_with fail
 refine(Aa.o _ (Below.setCell I9.o z5la _)).mono ?_;rintro e w3 ⟨rfl,Ak⟩;have D4:=(Ak.block w.heap.size z55a).trans (show(w2.setCell ⟨w.heap.size,0,none⟩ (.int .i64 14)).heap[w.heap.size]?=some (.cells #[.int .i64 14,.int .i64 i.arg,.int .i64 (i.line:Nat),.int .i64 (i.v.k:Nat),.bool i.v.y,.int .i64 i.v.n,.string ⟨i.v.t.toArray⟩,.pointer none] 251 (0,0)) from heap_set (j:=0) Ef.o _);have Cj:=(Ak.block (w.heap.size+1) z55a).trans ((Below.heap_setCell _ _ _ _ z6ia).trans Ci.o);have HBl3:Hid (Below w.heap.size w w3):=Below.trans (Below.setCell I9.o z5la _) (Ak.mono z55a);have lr3:=A5 Cj;clear n0 n1 n2 n3 n4 n5 n6 n7 ln;obtain⟨n0,n1,n2,n3,n4,n5,n6,n7,ln⟩:=B3 D4;have fi3:=Bh D4;have HI3:=A0 D4;have C8:=A0 Cj;clear Ak D4 Cj Aa;have r0:=A2 C8.o 0 _ rfl;have r1:=A2 C8.o 1 _ rfl;have r2:=A2 C8.o 2 _ rfl;have r3:=A2 C8.o 3 _ rfl;have r4:=A2 C8.o 4 _ rfl;have r5:=A2 C8.o 5 _ rfl;have r6:=A2 C8.o 6 _ rfl;have r7:=A2 C8.o 7 _ rfl;have fr:=Bh C8.o;have lr:=lr3;go_wp2;refine bodyPost_ret (v:=.agg #[.int .i64 (14:Nat),.int .i64 i.arg,.int .i64 (i.line:Nat),.int .i64 (i.v.k:Nat),.bool i.v.y,.int .i64 i.v.n,.string ⟨i.v.t.toArray⟩,.pointer none]) z57a rfl ⟨by rw[HQ.o],?_⟩;have hfin:=HBl3.o;exact z1sa
theorem Aid(h:E9 D kb pb P ps pa pc w ab va vc)(i:Af)(ha:0<=i.arg)(hw:(Fq ps i).whole=false)(ho:i.op=12)(h3:Fg ab 3=false)(h2:Fg ab 2=true):Calls Tryz.prog 292 #[.pointer (some ⟨kb,0,none⟩),Ac i] w (KP w (Ac (quick ps ab i))):=by
 have HQ:Hid (quick ps ab i=⟨(Gf i.op),i.arg,i.line,i.v⟩):=by
  exact z28a
 have t12:((i.op:Int)==12)=true:=by rw[ho];rfl
 have t23:((i.op:Int)==23)=false:=by rw[ho];rfl
 have Ay:=A0 (fun(W:World) (hb:Below w.heap.size w W)=>Kx (h.below hb) 3);rw[h3]at Ay;have Aa:=A0 (fun(W:World) (hb:Below w.heap.size w W)=>Kx (h.below hb) 2);rw[h2]at Aa;have HC:=A0 (fun(W:World) (hb:Below w.heap.size w W)=>Ly (h.below hb) i ha);have lb:=A5 h.st.blk;have HM:=A0 h;have hfew:=h.Bw.1;clear h ha;unfold Ac at *;unfold KP at HC;unfold Bc at HC;clear ho h3 h2 HM;generalize Fq ps i=x at *;go_enter Tryz.func292,Tryz.ntmps292;go_wp2_with fail
 refine(HC.o _ (E0 _ _ _)).mono ?_;rintro e w1 ⟨rfl,A1⟩;have Au:=(A1.block (w.heap.size+1) z56a).trans (I2 _ _ _ _);have Ad:=(A1.block w.heap.size z54a).trans (alloc_old (heap_alloc_new w _));have A4:Hid (Below w.heap.size w w1):=(E0 _ _ _).trans (A1.mono z54a);have E5:=A4.o.size;have lr1:=A5 Au;have Bt:=A0 Ad;have F8:=A0 Au;obtain⟨n0,n1,n2,n3,n4,n5,n6,n7,ln⟩:=B3 Ad;clear A1 Au Ad HC;unfold KP at Ay;go_wp2_with fail
 refine(Ay.o _ (Below.alloc A4.o E5 _)).mono ?_;rintro e w2 ⟨rfl,A8⟩;have Ax:=(A8.block w.heap.size z54a).trans (alloc_old Bt.o);have B7:=(A8.block (w.heap.size+1) z54a).trans (alloc_old F8.o);have I9:Hid (Below w.heap.size w w2):=Below.trans (Below.alloc A4.o E5 _) (A8.mono z54a);have lr2:=A5 B7;clear n0 n1 n2 n3 n4 n5 n6 n7 ln;obtain⟨n0,n1,n2,n3,n4,n5,n6,n7,ln⟩:=B3 Ax;have fi2:=Bh Ax;have Ef:=A0 Ax;have Ci:=A0 B7;clear A8 Ax B7 Ay;unfold KP at Aa;go_wp2_with fail
 refine(Aa.o _ I9.o).mono ?_;rintro e w3 ⟨rfl,Ak⟩;have D4:=(Ak.block w.heap.size z51a).trans Ef.o;have Cj:=(Ak.block (w.heap.size+1) z51a).trans Ci.o;have HBl3:Hid (Below w.heap.size w w3):=Below.trans I9.o (Ak.mono z51a);have lr3:=A5 Cj;clear n0 n1 n2 n3 n4 n5 n6 n7 ln;obtain⟨n0,n1,n2,n3,n4,n5,n6,n7,ln⟩:=B3 D4;have fi3:=Bh D4;have HI3:=A0 D4;have C8:=A0 Cj;clear Ak D4 Cj Aa;have r0:=A2 C8.o 0 _ rfl;have r1:=A2 C8.o 1 _ rfl;have r2:=A2 C8.o 2 _ rfl;have r3:=A2 C8.o 3 _ rfl;have r4:=A2 C8.o 4 _ rfl;have r5:=A2 C8.o 5 _ rfl;have r6:=A2 C8.o 6 _ rfl;have r7:=A2 C8.o 7 _ rfl;have fr:=Bh C8.o;have lr:=lr3;have HO:=A0 (S0 i.op w3);go_wp2_with fail
 refine HO.o.mono ?_;rintro e w9 ⟨rfl,Dr⟩;rw[Dr];clear Dr w9;go_wp2;refine bodyPost_ret (v:=.agg #[.int .i64 ((Gf i.op):Nat),.int .i64 i.arg,.int .i64 (i.line:Nat),.int .i64 (i.v.k:Nat),.bool i.v.y,.int .i64 i.v.n,.string ⟨i.v.t.toArray⟩,.pointer none]) z57a rfl ⟨by rw[HQ.o],?_⟩;have hfin:=HBl3.o;exact z1ga
theorem Aic(h:E9 D kb pb P ps pa pc w ab va vc)(i:Af)(ha:0<=i.arg)(hw:(Fq ps i).whole=false)(ho:i.op=12)(h3:Fg ab 3=false)(h2:Fg ab 2=false):Calls Tryz.prog 292 #[.pointer (some ⟨kb,0,none⟩),Ac i] w (KP w (Ac (quick ps ab i))):=by
 have HQ:Hid (quick ps ab i=⟨i.op,i.arg,i.line,i.v⟩):=by
  exact z28a
 have t12:((i.op:Int)==12)=true:=by rw[ho];rfl
 have t23:((i.op:Int)==23)=false:=by rw[ho];rfl
 have Ay:=A0 (fun(W:World) (hb:Below w.heap.size w W)=>Kx (h.below hb) 3);rw[h3]at Ay;have Aa:=A0 (fun(W:World) (hb:Below w.heap.size w W)=>Kx (h.below hb) 2);rw[h2]at Aa;have HC:=A0 (fun(W:World) (hb:Below w.heap.size w W)=>Ly (h.below hb) i ha);have lb:=A5 h.st.blk;have HM:=A0 h;have hfew:=h.Bw.1;clear h ha;unfold Ac at *;unfold KP at HC;unfold Bc at HC;clear ho h3 h2 HM;generalize Fq ps i=x at *;go_enter Tryz.func292,Tryz.ntmps292;go_wp2_with fail
 refine(HC.o _ (E0 _ _ _)).mono ?_;rintro e w1 ⟨rfl,A1⟩;have Au:=(A1.block (w.heap.size+1) z56a).trans (I2 _ _ _ _);have Ad:=(A1.block w.heap.size z54a).trans (alloc_old (heap_alloc_new w _));have A4:Hid (Below w.heap.size w w1):=(E0 _ _ _).trans (A1.mono z54a);have E5:=A4.o.size;have lr1:=A5 Au;have Bt:=A0 Ad;have F8:=A0 Au;obtain⟨n0,n1,n2,n3,n4,n5,n6,n7,ln⟩:=B3 Ad;clear A1 Au Ad HC;unfold KP at Ay;go_wp2_with fail
 refine(Ay.o _ (Below.alloc A4.o E5 _)).mono ?_;rintro e w2 ⟨rfl,A8⟩;have Ax:=(A8.block w.heap.size z54a).trans (alloc_old Bt.o);have B7:=(A8.block (w.heap.size+1) z54a).trans (alloc_old F8.o);have I9:Hid (Below w.heap.size w w2):=Below.trans (Below.alloc A4.o E5 _) (A8.mono z54a);have lr2:=A5 B7;clear n0 n1 n2 n3 n4 n5 n6 n7 ln;obtain⟨n0,n1,n2,n3,n4,n5,n6,n7,ln⟩:=B3 Ax;have fi2:=Bh Ax;have Ef:=A0 Ax;have Ci:=A0 B7;clear A8 Ax B7 Ay;unfold KP at Aa;go_wp2_with fail
 refine(Aa.o _ I9.o).mono ?_;rintro e w3 ⟨rfl,Ak⟩;have D4:=(Ak.block w.heap.size z51a).trans Ef.o;have Cj:=(Ak.block (w.heap.size+1) z51a).trans Ci.o;have HBl3:Hid (Below w.heap.size w w3):=Below.trans I9.o (Ak.mono z51a);have lr3:=A5 Cj;clear n0 n1 n2 n3 n4 n5 n6 n7 ln;obtain⟨n0,n1,n2,n3,n4,n5,n6,n7,ln⟩:=B3 D4;have fi3:=Bh D4;have HI3:=A0 D4;have C8:=A0 Cj;clear Ak D4 Cj Aa;have r0:=A2 C8.o 0 _ rfl;have r1:=A2 C8.o 1 _ rfl;have r2:=A2 C8.o 2 _ rfl;have r3:=A2 C8.o 3 _ rfl;have r4:=A2 C8.o 4 _ rfl;have r5:=A2 C8.o 5 _ rfl;have r6:=A2 C8.o 6 _ rfl;have r7:=A2 C8.o 7 _ rfl;have fr:=Bh C8.o;have lr:=lr3;go_wp2;refine bodyPost_ret (v:=.agg #[.int .i64 (i.op:Nat),.int .i64 i.arg,.int .i64 (i.line:Nat),.int .i64 (i.v.k:Nat),.bool i.v.y,.int .i64 i.v.n,.string ⟨i.v.t.toArray⟩,.pointer none]) z57a rfl ⟨by rw[HQ.o],?_⟩;have hfin:=HBl3.o;exact z1sa
theorem z29a {P:Prop} (h:P:=by
  show quick ps ab i=_;unfold quick;rw[if_neg (by rw[hw];simp)];simp[ho,hc,h2]):P:=h
theorem Aif(h:E9 D kb pb P ps pa pc w ab va vc)(i:Af)(ha:0<=i.arg)(hw:(Fq ps i).whole=false)(ho:i.op=23)(hc:(E6 ab).sure 2=true)(h2:Fg ab 2=true):Calls Tryz.prog 292 #[.pointer (some ⟨kb,0,none⟩),Ac i] w (KP w (Ac (quick ps ab i))):=by
 have HQ:Hid (quick ps ab i=⟨(Gf 24),i.arg,i.line,i.v⟩):=by
  exact z29a
 have t12:((i.op:Int)==12)=false:=by rw[ho];rfl
 have t23:((i.op:Int)==23)=true:=by rw[ho];rfl
 have HTp:=A0 (fun(W:World) (hb:Below w.heap.size w W)=>Rt (h.below hb).st z5ua (E6 ab) rfl);have HSu:=A0 (fun(W:World)=>Mg (E6 ab) 2 W);rw[hc]at HSu;unfold Bc at HSu;have Aa:=A0 (fun(W:World) (hb:Below w.heap.size w W)=>Kx (h.below hb) 2);rw[h2]at Aa;have HC:=A0 (fun(W:World) (hb:Below w.heap.size w W)=>Ly (h.below hb) i ha);have lb:=A5 h.st.blk;have HM:=A0 h;have hfew:=h.Bw.1;clear h ha;unfold Ac at *;unfold KP at HC;unfold Bc at HC;clear ho hc h2 HM;generalize E6 ab=y at *;generalize Fq ps i=x at *;go_enter Tryz.func292,Tryz.ntmps292;go_wp2_with fail
 refine(HC.o _ (E0 _ _ _)).mono ?_;rintro e w1 ⟨rfl,A1⟩;have Au:=(A1.block (w.heap.size+1) z56a).trans (I2 _ _ _ _);have Ad:=(A1.block w.heap.size z54a).trans (alloc_old (heap_alloc_new w _));have A4:Hid (Below w.heap.size w w1):=(E0 _ _ _).trans (A1.mono z54a);have E5:=A4.o.size;have lr1:=A5 Au;have Bt:=A0 Ad;have F8:=A0 Au;obtain⟨n0,n1,n2,n3,n4,n5,n6,n7,ln⟩:=B3 Ad;clear A1 Au Ad HC;go_wp2_with fail
 refine(HTp.o _ (Below.alloc A4.o E5 _)).mono ?_;rintro e w2 ⟨rfl,A8⟩;have Ax:=(A8.block w.heap.size z54a).trans (alloc_old Bt.o);have B7:=(A8.block (w.heap.size+1) z54a).trans (alloc_old F8.o);have I9:Hid (Below w.heap.size w w2):=Below.trans (Below.alloc A4.o E5 _) (A8.mono z54a);have lr2:=A5 B7;clear n0 n1 n2 n3 n4 n5 n6 n7 ln;obtain⟨n0,n1,n2,n3,n4,n5,n6,n7,ln⟩:=B3 Ax;have fi2:=Bh Ax;have Ef:=A0 Ax;have Ci:=A0 B7;clear A8 Ax B7 HTp;go_wp2_with fail
 refine(HSu.o _).mono ?_;rintro e w3 ⟨rfl,Ak⟩;have D4:=(Ak.block w.heap.size z51a).trans Ef.o;have Cj:=(Ak.block (w.heap.size+1) z51a).trans Ci.o;have HBl3:Hid (Below w.heap.size w w3):=Below.trans I9.o (Ak.mono z51a);have lr3:=A5 Cj;clear n0 n1 n2 n3 n4 n5 n6 n7 ln;obtain⟨n0,n1,n2,n3,n4,n5,n6,n7,ln⟩:=B3 D4;have fi3:=Bh D4;have HI3:=A0 D4;have C8:=A0 Cj;clear Ak D4 Cj HSu;unfold KP at Aa;go_wp2_with fail
 refine(Aa.o _ (Below.setCell HBl3.o z5la _)).mono ?_;rintro e w4 ⟨rfl,Ba⟩;have hi4:=(Ba.block w.heap.size z55a).trans (show(w3.setCell ⟨w.heap.size,0,none⟩ (.int .i64 24)).heap[w.heap.size]?=some (.cells #[.int .i64 24,.int .i64 i.arg,.int .i64 (i.line:Nat),.int .i64 (i.v.k:Nat),.bool i.v.y,.int .i64 i.v.n,.string ⟨i.v.t.toArray⟩,.pointer none] 251 (0,0)) from heap_set (j:=0) HI3.o _);have G0:=(Ba.block (w.heap.size+1) z55a).trans ((Below.heap_setCell _ _ _ _ z6ia).trans C8.o);have HBl4:Hid (Below w.heap.size w w4):=Below.trans (Below.setCell HBl3.o z5la _) (Ba.mono z55a);have lr4:=A5 G0;clear n0 n1 n2 n3 n4 n5 n6 n7 ln;obtain⟨n0,n1,n2,n3,n4,n5,n6,n7,ln⟩:=B3 hi4;have fi4:=Bh hi4;have HI4:=A0 hi4;have Cx:=A0 G0;clear Ba hi4 G0 Aa;have r0:=A2 Cx.o 0 _ rfl;have r1:=A2 Cx.o 1 _ rfl;have r2:=A2 Cx.o 2 _ rfl;have r3:=A2 Cx.o 3 _ rfl;have r4:=A2 Cx.o 4 _ rfl;have r5:=A2 Cx.o 5 _ rfl;have r6:=A2 Cx.o 6 _ rfl;have r7:=A2 Cx.o 7 _ rfl;have fr:=Bh Cx.o;have lr:=lr4;have HO:=A0 (S0 24 w4);go_wp2_with fail
 refine HO.o.mono ?_;rintro e w9 ⟨rfl,Dr⟩;rw[Dr];clear Dr w9;go_wp2;refine bodyPost_ret (v:=.agg #[.int .i64 ((Gf 24):Nat),.int .i64 i.arg,.int .i64 (i.line:Nat),.int .i64 (i.v.k:Nat),.bool i.v.y,.int .i64 i.v.n,.string ⟨i.v.t.toArray⟩,.pointer none]) z57a rfl ⟨by rw[HQ.o],?_⟩;have hfin:=HBl4.o;exact z1ga
theorem Aie(h:E9 D kb pb P ps pa pc w ab va vc)(i:Af)(ha:0<=i.arg)(hw:(Fq ps i).whole=false)(ho:i.op=23)(hc:(E6 ab).sure 2=true)(h2:Fg ab 2=false):Calls Tryz.prog 292 #[.pointer (some ⟨kb,0,none⟩),Ac i] w (KP w (Ac (quick ps ab i))):=by
 have HQ:Hid (quick ps ab i=⟨24,i.arg,i.line,i.v⟩):=by
  exact z29a
 have t12:((i.op:Int)==12)=false:=by rw[ho];rfl
 have t23:((i.op:Int)==23)=true:=by rw[ho];rfl
 have HTp:=A0 (fun(W:World) (hb:Below w.heap.size w W)=>Rt (h.below hb).st z5ua (E6 ab) rfl);have HSu:=A0 (fun(W:World)=>Mg (E6 ab) 2 W);rw[hc]at HSu;unfold Bc at HSu;have Aa:=A0 (fun(W:World) (hb:Below w.heap.size w W)=>Kx (h.below hb) 2);rw[h2]at Aa;have HC:=A0 (fun(W:World) (hb:Below w.heap.size w W)=>Ly (h.below hb) i ha);have lb:=A5 h.st.blk;have HM:=A0 h;have hfew:=h.Bw.1;clear h ha;unfold Ac at *;unfold KP at HC;unfold Bc at HC;clear ho hc h2 HM;generalize E6 ab=y at *;generalize Fq ps i=x at *;go_enter Tryz.func292,Tryz.ntmps292;go_wp2_with fail
 refine(HC.o _ (E0 _ _ _)).mono ?_;rintro e w1 ⟨rfl,A1⟩;have Au:=(A1.block (w.heap.size+1) z56a).trans (I2 _ _ _ _);have Ad:=(A1.block w.heap.size z54a).trans (alloc_old (heap_alloc_new w _));have A4:Hid (Below w.heap.size w w1):=(E0 _ _ _).trans (A1.mono z54a);have E5:=A4.o.size;have lr1:=A5 Au;have Bt:=A0 Ad;have F8:=A0 Au;obtain⟨n0,n1,n2,n3,n4,n5,n6,n7,ln⟩:=B3 Ad;clear A1 Au Ad HC;go_wp2_with fail
 refine(HTp.o _ (Below.alloc A4.o E5 _)).mono ?_;rintro e w2 ⟨rfl,A8⟩;have Ax:=(A8.block w.heap.size z54a).trans (alloc_old Bt.o);have B7:=(A8.block (w.heap.size+1) z54a).trans (alloc_old F8.o);have I9:Hid (Below w.heap.size w w2):=Below.trans (Below.alloc A4.o E5 _) (A8.mono z54a);have lr2:=A5 B7;clear n0 n1 n2 n3 n4 n5 n6 n7 ln;obtain⟨n0,n1,n2,n3,n4,n5,n6,n7,ln⟩:=B3 Ax;have fi2:=Bh Ax;have Ef:=A0 Ax;have Ci:=A0 B7;clear A8 Ax B7 HTp;go_wp2_with fail
 refine(HSu.o _).mono ?_;rintro e w3 ⟨rfl,Ak⟩;have D4:=(Ak.block w.heap.size z51a).trans Ef.o;have Cj:=(Ak.block (w.heap.size+1) z51a).trans Ci.o;have HBl3:Hid (Below w.heap.size w w3):=Below.trans I9.o (Ak.mono z51a);have lr3:=A5 Cj;clear n0 n1 n2 n3 n4 n5 n6 n7 ln;obtain⟨n0,n1,n2,n3,n4,n5,n6,n7,ln⟩:=B3 D4;have fi3:=Bh D4;have HI3:=A0 D4;have C8:=A0 Cj;clear Ak D4 Cj HSu;unfold KP at Aa;go_wp2_with fail
 refine(Aa.o _ (Below.setCell HBl3.o z5la _)).mono ?_;rintro e w4 ⟨rfl,Ba⟩;have hi4:=(Ba.block w.heap.size z55a).trans (show(w3.setCell ⟨w.heap.size,0,none⟩ (.int .i64 24)).heap[w.heap.size]?=some (.cells #[.int .i64 24,.int .i64 i.arg,.int .i64 (i.line:Nat),.int .i64 (i.v.k:Nat),.bool i.v.y,.int .i64 i.v.n,.string ⟨i.v.t.toArray⟩,.pointer none] 251 (0,0)) from heap_set (j:=0) HI3.o _);have G0:=(Ba.block (w.heap.size+1) z55a).trans ((Below.heap_setCell _ _ _ _ z6ia).trans C8.o);have HBl4:Hid (Below w.heap.size w w4):=Below.trans (Below.setCell HBl3.o z5la _) (Ba.mono z55a);have lr4:=A5 G0;clear n0 n1 n2 n3 n4 n5 n6 n7 ln;obtain⟨n0,n1,n2,n3,n4,n5,n6,n7,ln⟩:=B3 hi4;have fi4:=Bh hi4;have HI4:=A0 hi4;have Cx:=A0 G0;clear Ba hi4 G0 Aa;have r0:=A2 Cx.o 0 _ rfl;have r1:=A2 Cx.o 1 _ rfl;have r2:=A2 Cx.o 2 _ rfl;have r3:=A2 Cx.o 3 _ rfl;have r4:=A2 Cx.o 4 _ rfl;have r5:=A2 Cx.o 5 _ rfl;have r6:=A2 Cx.o 6 _ rfl;have r7:=A2 Cx.o 7 _ rfl;have fr:=Bh Cx.o;have lr:=lr4;go_wp2;refine bodyPost_ret (v:=.agg #[.int .i64 (24:Nat),.int .i64 i.arg,.int .i64 (i.line:Nat),.int .i64 (i.v.k:Nat),.bool i.v.y,.int .i64 i.v.n,.string ⟨i.v.t.toArray⟩,.pointer none]) z57a rfl ⟨by rw[HQ.o],?_⟩;have hfin:=HBl4.o;exact z1sa
theorem Aim(h:E9 D kb pb P ps pa pc w ab va vc)(i:Af)(ha:0<=i.arg)(hw:(Fq ps i).whole=false)(ho:i.op=23)(hc:(E6 ab).sure 2=false)(h2:Fg ab 2=true):Calls Tryz.prog 292 #[.pointer (some ⟨kb,0,none⟩),Ac i] w (KP w (Ac (quick ps ab i))):=by
 have HQ:Hid (quick ps ab i=⟨(Gf i.op),i.arg,i.line,i.v⟩):=by
  exact z29a
 have t12:((i.op:Int)==12)=false:=by rw[ho];rfl
 have t23:((i.op:Int)==23)=true:=by rw[ho];rfl
 have HTp:=A0 (fun(W:World) (hb:Below w.heap.size w W)=>Rt (h.below hb).st z5ua (E6 ab) rfl);have HSu:=A0 (fun(W:World)=>Mg (E6 ab) 2 W);rw[hc]at HSu;unfold Bc at HSu;have Aa:=A0 (fun(W:World) (hb:Below w.heap.size w W)=>Kx (h.below hb) 2);rw[h2]at Aa;have HC:=A0 (fun(W:World) (hb:Below w.heap.size w W)=>Ly (h.below hb) i ha);have lb:=A5 h.st.blk;have HM:=A0 h;have hfew:=h.Bw.1;clear h ha;unfold Ac at *;unfold KP at HC;unfold Bc at HC;clear ho hc h2 HM;generalize E6 ab=y at *;generalize Fq ps i=x at *;go_enter Tryz.func292,Tryz.ntmps292;go_wp2_with fail
 refine(HC.o _ (E0 _ _ _)).mono ?_;rintro e w1 ⟨rfl,A1⟩;have Au:=(A1.block (w.heap.size+1) z56a).trans (I2 _ _ _ _);have Ad:=(A1.block w.heap.size z54a).trans (alloc_old (heap_alloc_new w _));have A4:Hid (Below w.heap.size w w1):=(E0 _ _ _).trans (A1.mono z54a);have E5:=A4.o.size;have lr1:=A5 Au;have Bt:=A0 Ad;have F8:=A0 Au;obtain⟨n0,n1,n2,n3,n4,n5,n6,n7,ln⟩:=B3 Ad;clear A1 Au Ad HC;go_wp2_with fail
 refine(HTp.o _ (Below.alloc A4.o E5 _)).mono ?_;rintro e w2 ⟨rfl,A8⟩;have Ax:=(A8.block w.heap.size z54a).trans (alloc_old Bt.o);have B7:=(A8.block (w.heap.size+1) z54a).trans (alloc_old F8.o);have I9:Hid (Below w.heap.size w w2):=Below.trans (Below.alloc A4.o E5 _) (A8.mono z54a);have lr2:=A5 B7;clear n0 n1 n2 n3 n4 n5 n6 n7 ln;obtain⟨n0,n1,n2,n3,n4,n5,n6,n7,ln⟩:=B3 Ax;have fi2:=Bh Ax;have Ef:=A0 Ax;have Ci:=A0 B7;clear A8 Ax B7 HTp;go_wp2_with fail
 refine(HSu.o _).mono ?_;rintro e w3 ⟨rfl,Ak⟩;have D4:=(Ak.block w.heap.size z51a).trans Ef.o;have Cj:=(Ak.block (w.heap.size+1) z51a).trans Ci.o;have HBl3:Hid (Below w.heap.size w w3):=Below.trans I9.o (Ak.mono z51a);have lr3:=A5 Cj;clear n0 n1 n2 n3 n4 n5 n6 n7 ln;obtain⟨n0,n1,n2,n3,n4,n5,n6,n7,ln⟩:=B3 D4;have fi3:=Bh D4;have HI3:=A0 D4;have C8:=A0 Cj;clear Ak D4 Cj HSu;unfold KP at Aa;go_wp2_with fail
 refine(Aa.o _ HBl3.o).mono ?_;rintro e w4 ⟨rfl,Ba⟩;have hi4:=(Ba.block w.heap.size z51a).trans HI3.o;have G0:=(Ba.block (w.heap.size+1) z51a).trans C8.o;have HBl4:Hid (Below w.heap.size w w4):=Below.trans HBl3.o (Ba.mono z51a);have lr4:=A5 G0;clear n0 n1 n2 n3 n4 n5 n6 n7 ln;obtain⟨n0,n1,n2,n3,n4,n5,n6,n7,ln⟩:=B3 hi4;have fi4:=Bh hi4;have HI4:=A0 hi4;have Cx:=A0 G0;clear Ba hi4 G0 Aa;have r0:=A2 Cx.o 0 _ rfl;have r1:=A2 Cx.o 1 _ rfl;have r2:=A2 Cx.o 2 _ rfl;have r3:=A2 Cx.o 3 _ rfl;have r4:=A2 Cx.o 4 _ rfl;have r5:=A2 Cx.o 5 _ rfl;have r6:=A2 Cx.o 6 _ rfl;have r7:=A2 Cx.o 7 _ rfl;have fr:=Bh Cx.o;have lr:=lr4;have HO:=A0 (S0 i.op w4);go_wp2_with fail
 refine HO.o.mono ?_;rintro e w9 ⟨rfl,Dr⟩;rw[Dr];clear Dr w9;go_wp2;refine bodyPost_ret (v:=.agg #[.int .i64 ((Gf i.op):Nat),.int .i64 i.arg,.int .i64 (i.line:Nat),.int .i64 (i.v.k:Nat),.bool i.v.y,.int .i64 i.v.n,.string ⟨i.v.t.toArray⟩,.pointer none]) z57a rfl ⟨by rw[HQ.o],?_⟩;have hfin:=HBl4.o;exact z1ga
theorem Ail(h:E9 D kb pb P ps pa pc w ab va vc)(i:Af)(ha:0<=i.arg)(hw:(Fq ps i).whole=false)(ho:i.op=23)(hc:(E6 ab).sure 2=false)(h2:Fg ab 2=false):Calls Tryz.prog 292 #[.pointer (some ⟨kb,0,none⟩),Ac i] w (KP w (Ac (quick ps ab i))):=by
 have HQ:Hid (quick ps ab i=⟨i.op,i.arg,i.line,i.v⟩):=by
  exact z29a
 have t12:((i.op:Int)==12)=false:=by rw[ho];rfl
 have t23:((i.op:Int)==23)=true:=by rw[ho];rfl
 have HTp:=A0 (fun(W:World) (hb:Below w.heap.size w W)=>Rt (h.below hb).st z5ua (E6 ab) rfl);have HSu:=A0 (fun(W:World)=>Mg (E6 ab) 2 W);rw[hc]at HSu;unfold Bc at HSu;have Aa:=A0 (fun(W:World) (hb:Below w.heap.size w W)=>Kx (h.below hb) 2);rw[h2]at Aa;have HC:=A0 (fun(W:World) (hb:Below w.heap.size w W)=>Ly (h.below hb) i ha);have lb:=A5 h.st.blk;have HM:=A0 h;have hfew:=h.Bw.1;clear h ha;unfold Ac at *;unfold KP at HC;unfold Bc at HC;clear ho hc h2 HM;generalize E6 ab=y at *;generalize Fq ps i=x at *;go_enter Tryz.func292,Tryz.ntmps292;go_wp2_with fail
 refine(HC.o _ (E0 _ _ _)).mono ?_;rintro e w1 ⟨rfl,A1⟩;have Au:=(A1.block (w.heap.size+1) z56a).trans (I2 _ _ _ _);have Ad:=(A1.block w.heap.size z54a).trans (alloc_old (heap_alloc_new w _));have A4:Hid (Below w.heap.size w w1):=(E0 _ _ _).trans (A1.mono z54a);have E5:=A4.o.size;have lr1:=A5 Au;have Bt:=A0 Ad;have F8:=A0 Au;obtain⟨n0,n1,n2,n3,n4,n5,n6,n7,ln⟩:=B3 Ad;clear A1 Au Ad HC;go_wp2_with fail
 refine(HTp.o _ (Below.alloc A4.o E5 _)).mono ?_;rintro e w2 ⟨rfl,A8⟩;have Ax:=(A8.block w.heap.size z54a).trans (alloc_old Bt.o);have B7:=(A8.block (w.heap.size+1) z54a).trans (alloc_old F8.o);have I9:Hid (Below w.heap.size w w2):=Below.trans (Below.alloc A4.o E5 _) (A8.mono z54a);have lr2:=A5 B7;clear n0 n1 n2 n3 n4 n5 n6 n7 ln;obtain⟨n0,n1,n2,n3,n4,n5,n6,n7,ln⟩:=B3 Ax;have fi2:=Bh Ax;have Ef:=A0 Ax;have Ci:=A0 B7;clear A8 Ax B7 HTp;go_wp2_with fail
 refine(HSu.o _).mono ?_;rintro e w3 ⟨rfl,Ak⟩;have D4:=(Ak.block w.heap.size z51a).trans Ef.o;have Cj:=(Ak.block (w.heap.size+1) z51a).trans Ci.o;have HBl3:Hid (Below w.heap.size w w3):=Below.trans I9.o (Ak.mono z51a);have lr3:=A5 Cj;clear n0 n1 n2 n3 n4 n5 n6 n7 ln;obtain⟨n0,n1,n2,n3,n4,n5,n6,n7,ln⟩:=B3 D4;have fi3:=Bh D4;have HI3:=A0 D4;have C8:=A0 Cj;clear Ak D4 Cj HSu;unfold KP at Aa;go_wp2_with fail
 refine(Aa.o _ HBl3.o).mono ?_;rintro e w4 ⟨rfl,Ba⟩;have hi4:=(Ba.block w.heap.size z51a).trans HI3.o;have G0:=(Ba.block (w.heap.size+1) z51a).trans C8.o;have HBl4:Hid (Below w.heap.size w w4):=Below.trans HBl3.o (Ba.mono z51a);have lr4:=A5 G0;clear n0 n1 n2 n3 n4 n5 n6 n7 ln;obtain⟨n0,n1,n2,n3,n4,n5,n6,n7,ln⟩:=B3 hi4;have fi4:=Bh hi4;have HI4:=A0 hi4;have Cx:=A0 G0;clear Ba hi4 G0 Aa;have r0:=A2 Cx.o 0 _ rfl;have r1:=A2 Cx.o 1 _ rfl;have r2:=A2 Cx.o 2 _ rfl;have r3:=A2 Cx.o 3 _ rfl;have r4:=A2 Cx.o 4 _ rfl;have r5:=A2 Cx.o 5 _ rfl;have r6:=A2 Cx.o 6 _ rfl;have r7:=A2 Cx.o 7 _ rfl;have fr:=Bh Cx.o;have lr:=lr4;go_wp2;refine bodyPost_ret (v:=.agg #[.int .i64 (i.op:Nat),.int .i64 i.arg,.int .i64 (i.line:Nat),.int .i64 (i.v.k:Nat),.bool i.v.y,.int .i64 i.v.n,.string ⟨i.v.t.toArray⟩,.pointer none]) z57a rfl ⟨by rw[HQ.o],?_⟩;have hfin:=HBl4.o;exact z1sa
theorem z4ta {P:Prop} (h:P:=by
  show quick ps ab i=_;unfold quick;rw[if_neg (by rw[hw];simp)];simp[h12,h23,h2]):P:=h
theorem Aio(h:E9 D kb pb P ps pa pc w ab va vc)(i:Af)(ha:0<=i.arg)(hw:(Fq ps i).whole=false)(h12:i.op≠12)(h23:i.op≠23)(h2:Fg ab 2=true):Calls Tryz.prog 292 #[.pointer (some ⟨kb,0,none⟩),Ac i] w (KP w (Ac (quick ps ab i))):=by
 have HQ:Hid (quick ps ab i=⟨(Gf i.op),i.arg,i.line,i.v⟩):=by
  exact z4ta
 have t12:((i.op:Int)==12)=false:=by rw[beq_eq_false_iff_ne];omega
 have t23:((i.op:Int)==23)=false:=by rw[beq_eq_false_iff_ne];omega
 have Aa:=A0 (fun(W:World) (hb:Below w.heap.size w W)=>Kx (h.below hb) 2);rw[h2]at Aa;have HC:=A0 (fun(W:World) (hb:Below w.heap.size w W)=>Ly (h.below hb) i ha);have lb:=A5 h.st.blk;have HM:=A0 h;have hfew:=h.Bw.1;clear h ha;unfold Ac at *;unfold KP at HC;unfold Bc at HC;clear h12 h23 h2 HM;generalize Fq ps i=x at *;go_enter Tryz.func292,Tryz.ntmps292;go_wp2_with fail
 refine(HC.o _ (E0 _ _ _)).mono ?_;rintro e w1 ⟨rfl,A1⟩;have Au:=(A1.block (w.heap.size+1) z56a).trans (I2 _ _ _ _);have Ad:=(A1.block w.heap.size z54a).trans (alloc_old (heap_alloc_new w _));have A4:Hid (Below w.heap.size w w1):=(E0 _ _ _).trans (A1.mono z54a);have E5:=A4.o.size;have lr1:=A5 Au;have Bt:=A0 Ad;have F8:=A0 Au;obtain⟨n0,n1,n2,n3,n4,n5,n6,n7,ln⟩:=B3 Ad;clear A1 Au Ad HC;unfold KP at Aa;go_wp2_with fail
 refine(Aa.o _ (Below.alloc A4.o E5 _)).mono ?_;rintro e w2 ⟨rfl,A8⟩;have Ax:=(A8.block w.heap.size z54a).trans (alloc_old Bt.o);have B7:=(A8.block (w.heap.size+1) z54a).trans (alloc_old F8.o);have I9:Hid (Below w.heap.size w w2):=Below.trans (Below.alloc A4.o E5 _) (A8.mono z54a);have lr2:=A5 B7;clear n0 n1 n2 n3 n4 n5 n6 n7 ln;obtain⟨n0,n1,n2,n3,n4,n5,n6,n7,ln⟩:=B3 Ax;have fi2:=Bh Ax;have Ef:=A0 Ax;have Ci:=A0 B7;clear A8 Ax B7 Aa;have r0:=A2 Ci.o 0 _ rfl;have r1:=A2 Ci.o 1 _ rfl;have r2:=A2 Ci.o 2 _ rfl;have r3:=A2 Ci.o 3 _ rfl;have r4:=A2 Ci.o 4 _ rfl;have r5:=A2 Ci.o 5 _ rfl;have r6:=A2 Ci.o 6 _ rfl;have r7:=A2 Ci.o 7 _ rfl;have fr:=Bh Ci.o;have lr:=lr2;have HO:=A0 (S0 i.op w2);go_wp2_with fail
 refine HO.o.mono ?_;rintro e w9 ⟨rfl,Dr⟩;rw[Dr];clear Dr w9;go_wp2;refine bodyPost_ret (v:=.agg #[.int .i64 ((Gf i.op):Nat),.int .i64 i.arg,.int .i64 (i.line:Nat),.int .i64 (i.v.k:Nat),.bool i.v.y,.int .i64 i.v.n,.string ⟨i.v.t.toArray⟩,.pointer none]) z57a rfl ⟨by rw[HQ.o],?_⟩;have hfin:=I9.o;exact z1ga
theorem Ain(h:E9 D kb pb P ps pa pc w ab va vc)(i:Af)(ha:0<=i.arg)(hw:(Fq ps i).whole=false)(h12:i.op≠12)(h23:i.op≠23)(h2:Fg ab 2=false):Calls Tryz.prog 292 #[.pointer (some ⟨kb,0,none⟩),Ac i] w (KP w (Ac (quick ps ab i))):=by
 have HQ:Hid (quick ps ab i=⟨i.op,i.arg,i.line,i.v⟩):=by
  exact z4ta
 have t12:((i.op:Int)==12)=false:=by rw[beq_eq_false_iff_ne];omega
 have t23:((i.op:Int)==23)=false:=by rw[beq_eq_false_iff_ne];omega
 have Aa:=A0 (fun(W:World) (hb:Below w.heap.size w W)=>Kx (h.below hb) 2);rw[h2]at Aa;have HC:=A0 (fun(W:World) (hb:Below w.heap.size w W)=>Ly (h.below hb) i ha);have lb:=A5 h.st.blk;have HM:=A0 h;have hfew:=h.Bw.1;clear h ha;unfold Ac at *;unfold KP at HC;unfold Bc at HC;clear h12 h23 h2 HM;generalize Fq ps i=x at *;go_enter Tryz.func292,Tryz.ntmps292;go_wp2_with fail
 refine(HC.o _ (E0 _ _ _)).mono ?_;rintro e w1 ⟨rfl,A1⟩;have Au:=(A1.block (w.heap.size+1) z56a).trans (I2 _ _ _ _);have Ad:=(A1.block w.heap.size z54a).trans (alloc_old (heap_alloc_new w _));have A4:Hid (Below w.heap.size w w1):=(E0 _ _ _).trans (A1.mono z54a);have E5:=A4.o.size;have lr1:=A5 Au;have Bt:=A0 Ad;have F8:=A0 Au;obtain⟨n0,n1,n2,n3,n4,n5,n6,n7,ln⟩:=B3 Ad;clear A1 Au Ad HC;unfold KP at Aa;go_wp2_with fail
 refine(Aa.o _ (Below.alloc A4.o E5 _)).mono ?_;rintro e w2 ⟨rfl,A8⟩;have Ax:=(A8.block w.heap.size z54a).trans (alloc_old Bt.o);have B7:=(A8.block (w.heap.size+1) z54a).trans (alloc_old F8.o);have I9:Hid (Below w.heap.size w w2):=Below.trans (Below.alloc A4.o E5 _) (A8.mono z54a);have lr2:=A5 B7;clear n0 n1 n2 n3 n4 n5 n6 n7 ln;obtain⟨n0,n1,n2,n3,n4,n5,n6,n7,ln⟩:=B3 Ax;have fi2:=Bh Ax;have Ef:=A0 Ax;have Ci:=A0 B7;clear A8 Ax B7 Aa;have r0:=A2 Ci.o 0 _ rfl;have r1:=A2 Ci.o 1 _ rfl;have r2:=A2 Ci.o 2 _ rfl;have r3:=A2 Ci.o 3 _ rfl;have r4:=A2 Ci.o 4 _ rfl;have r5:=A2 Ci.o 5 _ rfl;have r6:=A2 Ci.o 6 _ rfl;have r7:=A2 Ci.o 7 _ rfl;have fr:=Bh Ci.o;have lr:=lr2;go_wp2;refine bodyPost_ret (v:=.agg #[.int .i64 (i.op:Nat),.int .i64 i.arg,.int .i64 (i.line:Nat),.int .i64 (i.v.k:Nat),.bool i.v.y,.int .i64 i.v.n,.string ⟨i.v.t.toArray⟩,.pointer none]) z57a rfl ⟨by rw[HQ.o],?_⟩;have hfin:=I9.o;exact z1sa
theorem Af0(h:E9 D kb pb P ps pa pc w ab va vc)(i:Af)(ha:0<=i.arg):Calls Tryz.prog 292 #[.pointer (some ⟨kb,0,none⟩),Ac i] w (KP w (Ac (quick ps ab i))):=by
 cases hw:(Fq ps i).whole
 ·cases h2:Fg ab 2
  ·by_cases h12:i.op=12
   ·cases h3:Fg ab 3
    ·exact Aic h i ha hw h12 h3 h2
    ·exact Aig h i ha hw h12 h3 h2
   ·by_cases h23:i.op=23
    ·cases hc:(E6 ab).sure 2
     ·exact Ail h i ha hw h23 hc h2
     ·exact Aie h i ha hw h23 hc h2
    ·exact Ain h i ha hw h12 h23 h2
  ·by_cases h12:i.op=12
   ·cases h3:Fg ab 3
    ·exact Aid h i ha hw h12 h3 h2
    ·exact Aih h i ha hw h12 h3 h2
   ·by_cases h23:i.op=23
    ·cases hc:(E6 ab).sure 2
     ·exact Aim h i ha hw h23 hc h2
     ·exact Aif h i ha hw h23 hc h2
    ·exact Aio h i ha hw h12 h23 h2
 ·exact Aii h i ha hw
end
section
set_option maxRecDepth 100000
open Go.RowKit
open Go.Deep (BT)
variable {w:World}{b:Dc}{ia:Option Addr}{kc ic:Nat}
theorem z2oa {P:Prop} (h:P:=by
  go_enter Tryz.func275,Tryz.ntmps275;go_wp2;refine bodyPost_ret (v:=Bc (Eo)) (by simp[results,Tryz.results275,go_sem,Bc,Eo,Ab]) rfl ⟨rfl,?_⟩;exact E0 _ _ _):P:=h
theorem A8v{w:World}{b:Dc}{ka ia:Option Addr}{kc ic:Nat}(i:Nat)(hi:b.kinds.length<=i):Calls Tryz.prog 275 #[.agg #[.int .i64 b.fn,.int .i64 b.after,.slice ka b.kinds.length kc,.slice ia b.ints.length ic],.int .i64 (i:Nat)] w (KP w (Bc Eo)):=by
 have t0:((b.kinds.length:Nat):Int)<=((i:Nat):Int):=by omega
 exact z2oa
theorem z23a {P:Prop} (h:P:=by
  exact J5 Da.o z6wa _ _ _ _ _ _ _):P:=h
theorem z5ia {P:Prop} (h:P:=by simp[results,Tryz.results275,go_sem,Bc,Dj,r0,r1,r2,r3,r4,r5,r6]):P:=h
theorem A8m(i:Nat){g o:Nat}{k:Int}(hg:g<w.heap.size)(hc:w.cell? ⟨g,o+i,none⟩=some (.int .i64 k))(hi:i<b.kinds.length)(hk:k=1):Calls Tryz.prog 275 #[.agg #[.int .i64 b.fn,.int .i64 b.after,.slice (some ⟨g,o,none⟩) b.kinds.length kc,.slice ia b.ints.length ic],.int .i64 (i:Nat)] w (KP w (Bc (Dj 2))):=by
 subst hk;have t0:¬((b.kinds.length:Nat):Int)<=((i:Nat):Int):=by omega
 have HC:=A0 (fun(W:World)=>Ma 2 W);unfold Bc Dj at HC;go_enter Tryz.func275,Tryz.ntmps275;go_wp2_with fail
 refine(HC.o _).mono ?_;rintro e w1 ⟨rfl,A1⟩;have Ap:=(A1.block (w.heap.size+1) z56a).trans (I2 _ _ _ _);have Da:Hid (Below w.heap.size w w1):=(E0 _ _ _).trans (A1.mono z54a);have r0:=A2 Ap 0 _ rfl;have r1:=A2 Ap 1 _ rfl;have r2:=A2 Ap 2 _ rfl;have r3:=A2 Ap 3 _ rfl;have r4:=A2 Ap 4 _ rfl;have r5:=A2 Ap 5 _ rfl;have r6:=A2 Ap 6 _ rfl;have fr:=Bh Ap;have lr:=A5 Ap;clear A1 Ap;go_wp2;refine bodyPost_ret (v:=Bc (Dj 2)) z5ia rfl ⟨rfl,?_⟩;exact z23a
theorem A8n(i:Nat){g o:Nat}{k:Int}(hg:g<w.heap.size)(hc:w.cell? ⟨g,o+i,none⟩=some (.int .i64 k))(hi:i<b.kinds.length)(hk:k=2):Calls Tryz.prog 275 #[.agg #[.int .i64 b.fn,.int .i64 b.after,.slice (some ⟨g,o,none⟩) b.kinds.length kc,.slice ia b.ints.length ic],.int .i64 (i:Nat)] w (KP w (Bc (Dj 3))):=by
 subst hk;have t0:¬((b.kinds.length:Nat):Int)<=((i:Nat):Int):=by omega
 have HC:=A0 (fun(W:World)=>Ma 3 W);unfold Bc Dj at HC;go_enter Tryz.func275,Tryz.ntmps275;go_wp2_with fail
 refine(HC.o _).mono ?_;rintro e w1 ⟨rfl,A1⟩;have Ap:=(A1.block (w.heap.size+1) z56a).trans (I2 _ _ _ _);have Da:Hid (Below w.heap.size w w1):=(E0 _ _ _).trans (A1.mono z54a);have r0:=A2 Ap 0 _ rfl;have r1:=A2 Ap 1 _ rfl;have r2:=A2 Ap 2 _ rfl;have r3:=A2 Ap 3 _ rfl;have r4:=A2 Ap 4 _ rfl;have r5:=A2 Ap 5 _ rfl;have r6:=A2 Ap 6 _ rfl;have fr:=Bh Ap;have lr:=A5 Ap;clear A1 Ap;go_wp2;refine bodyPost_ret (v:=Bc (Dj 3)) z5ia rfl ⟨rfl,?_⟩;exact z23a
theorem A8o(i:Nat){g o:Nat}{k:Int}(hg:g<w.heap.size)(hc:w.cell? ⟨g,o+i,none⟩=some (.int .i64 k))(hi:i<b.kinds.length)(hk:k=3):Calls Tryz.prog 275 #[.agg #[.int .i64 b.fn,.int .i64 b.after,.slice (some ⟨g,o,none⟩) b.kinds.length kc,.slice ia b.ints.length ic],.int .i64 (i:Nat)] w (KP w (Bc (Dj 1))):=by
 subst hk;have t0:¬((b.kinds.length:Nat):Int)<=((i:Nat):Int):=by omega
 have HC:=A0 (fun(W:World)=>Ma 1 W);unfold Bc Dj at HC;go_enter Tryz.func275,Tryz.ntmps275;go_wp2_with fail
 refine(HC.o _).mono ?_;rintro e w1 ⟨rfl,A1⟩;have Ap:=(A1.block (w.heap.size+1) z56a).trans (I2 _ _ _ _);have Da:Hid (Below w.heap.size w w1):=(E0 _ _ _).trans (A1.mono z54a);have r0:=A2 Ap 0 _ rfl;have r1:=A2 Ap 1 _ rfl;have r2:=A2 Ap 2 _ rfl;have r3:=A2 Ap 3 _ rfl;have r4:=A2 Ap 4 _ rfl;have r5:=A2 Ap 5 _ rfl;have r6:=A2 Ap 6 _ rfl;have fr:=Bh Ap;have lr:=A5 Ap;clear A1 Ap;go_wp2;refine bodyPost_ret (v:=Bc (Dj 1)) z5ia rfl ⟨rfl,?_⟩;exact z23a
theorem A8q(i:Nat){g o:Nat}{k:Int}(hg:g<w.heap.size)(hc:w.cell? ⟨g,o+i,none⟩=some (.int .i64 k))(hi:i<b.kinds.length)(hk:k=5):Calls Tryz.prog 275 #[.agg #[.int .i64 b.fn,.int .i64 b.after,.slice (some ⟨g,o,none⟩) b.kinds.length kc,.slice ia b.ints.length ic],.int .i64 (i:Nat)] w (KP w (Bc (Dj 4))):=by
 subst hk;have t0:¬((b.kinds.length:Nat):Int)<=((i:Nat):Int):=by omega
 have HC:=A0 (fun(W:World)=>Ma 4 W);unfold Bc Dj at HC;go_enter Tryz.func275,Tryz.ntmps275;go_wp2_with fail
 refine(HC.o _).mono ?_;rintro e w1 ⟨rfl,A1⟩;have Ap:=(A1.block (w.heap.size+1) z56a).trans (I2 _ _ _ _);have Da:Hid (Below w.heap.size w w1):=(E0 _ _ _).trans (A1.mono z54a);have r0:=A2 Ap 0 _ rfl;have r1:=A2 Ap 1 _ rfl;have r2:=A2 Ap 2 _ rfl;have r3:=A2 Ap 3 _ rfl;have r4:=A2 Ap 4 _ rfl;have r5:=A2 Ap 5 _ rfl;have r6:=A2 Ap 6 _ rfl;have fr:=Bh Ap;have lr:=A5 Ap;clear A1 Ap;go_wp2;refine bodyPost_ret (v:=Bc (Dj 4)) z5ia rfl ⟨rfl,?_⟩;exact z23a
theorem A8p(i:Nat){g o:Nat}{k:Int}(hg:g<w.heap.size)(hc:w.cell? ⟨g,o+i,none⟩=some (.int .i64 k))(hi:i<b.kinds.length)(hk:k=4):Calls Tryz.prog 275 #[.agg #[.int .i64 b.fn,.int .i64 b.after,.slice (some ⟨g,o,none⟩) b.kinds.length kc,.slice ia b.ints.length ic],.int .i64 (i:Nat)] w (KP w (Bc (Js Ab))):=by
 subst hk;have t0:¬((b.kinds.length:Nat):Int)<=((i:Nat):Int):=by omega
 have HC:=A0 (fun(W:World)=>X5 Ab W);unfold Bc Js Ab at HC;go_enter Tryz.func275,Tryz.ntmps275;go_wp2_with fail
 refine(HC.o _).mono ?_;rintro e w1 ⟨rfl,A1⟩;have Ap:=(A1.block (w.heap.size+1) z56a).trans (I2 _ _ _ _);have Da:Hid (Below w.heap.size w w1):=(E0 _ _ _).trans (A1.mono z54a);have r0:=A2 Ap 0 _ rfl;have r1:=A2 Ap 1 _ rfl;have r2:=A2 Ap 2 _ rfl;have r3:=A2 Ap 3 _ rfl;have r4:=A2 Ap 4 _ rfl;have r5:=A2 Ap 5 _ rfl;have r6:=A2 Ap 6 _ rfl;have fr:=Bh Ap;have lr:=A5 Ap;clear A1 Ap;go_wp2;refine bodyPost_ret (v:=Bc (Js Ab)) (by simp[results,Tryz.results275,go_sem,Bc,Js,Ab,r0,r1,r2,r3,r4,r5,r6]) rfl ⟨rfl,?_⟩;exact z23a
theorem A8r(i:Nat){g o:Nat}{k:Int}(hg:g<w.heap.size)(hc:w.cell? ⟨g,o+i,none⟩=some (.int .i64 k))(hi:i<b.kinds.length)(hk:k=6)(n:Int)(ha:∀W:World,Below w.heap.size w W->Calls Tryz.prog 291 #[.slice ia b.ints.length ic,.int .i64 (i:Nat)] W fun e w'=>e=.returned (.int .i64 n)/\w'=W):Calls Tryz.prog 275 #[.agg #[.int .i64 b.fn,.int .i64 b.after,.slice (some ⟨g,o,none⟩) b.kinds.length kc,.slice ia b.ints.length ic],.int .i64 (i:Nat)] w (KP w (Bc (Js (ofInt n)))):=by
 subst hk;have t0:¬((b.kinds.length:Nat):Int)<=((i:Nat):Int):=by omega
 have HA:=A0 ha;have HO:=A0 (fun(W:World)=>U8 n W);have HC:=A0 (fun(W:World)=>X5 (ofInt n) W);unfold Bc Js ofInt at HC;clear ha;go_enter Tryz.func275,Tryz.ntmps275;go_wp2_with fail
 refine(HA.o _ (E0 _ _ _)).mono ?_;rintro e w9 ⟨rfl,Dr⟩;rw[Dr];clear Dr w9;go_wp2_with fail
 refine(HO.o _).mono ?_;rintro e w2 ⟨rfl,A8⟩;have F1:=(A8.block (w.heap.size+1) z56a).trans (I2 _ _ _ _);have Aa:Hid (Below w.heap.size w w2):=(E0 _ _ _).trans (A8.mono z54a);have ls2:=Aa.o.size;have Gy:=A0 F1;have lr2:=A5 F1;clear A8 F1;go_wp2_with fail
 refine(HC.o _).mono ?_;rintro e w1 ⟨rfl,A1⟩;have Ap:=(A1.block (w.heap.size+1) lr2).trans Gy.o;have Da:Hid (Below w.heap.size w w1):=Aa.o.trans (A1.mono ls2);have r0:=A2 Ap 0 _ rfl;have r1:=A2 Ap 1 _ rfl;have r2:=A2 Ap 2 _ rfl;have r3:=A2 Ap 3 _ rfl;have r4:=A2 Ap 4 _ rfl;have r5:=A2 Ap 5 _ rfl;have r6:=A2 Ap 6 _ rfl;have fr:=Bh Ap;have lr:=A5 Ap;clear A1 Ap;go_wp2;refine bodyPost_ret (v:=Bc (Js (ofInt n))) (by simp[results,Tryz.results275,go_sem,Bc,Js,ofInt,r0,r1,r2,r3,r4,r5,r6]) rfl ⟨rfl,?_⟩;exact z23a
theorem A8s(i:Nat){g o:Nat}{k:Int}(hg:g<w.heap.size)(hc:w.cell? ⟨g,o+i,none⟩=some (.int .i64 k))(hi:i<b.kinds.length)(h1:k≠1)(h2:k≠2)(h3:k≠3)(h4:k≠4)(h5:k≠5)(h6:k≠6):Calls Tryz.prog 275 #[.agg #[.int .i64 b.fn,.int .i64 b.after,.slice (some ⟨g,o,none⟩) b.kinds.length kc,.slice ia b.ints.length ic],.int .i64 (i:Nat)] w (KP w (Bc Eo)):=by
 have t0:¬((b.kinds.length:Nat):Int)<=((i:Nat):Int):=by omega
 have t1:(k==1)=false:=by rw[beq_eq_false_iff_ne];exact h1
 have t2:(k==2)=false:=by rw[beq_eq_false_iff_ne];exact h2
 have t3:(k==3)=false:=by rw[beq_eq_false_iff_ne];exact h3
 have t4:(k==4)=false:=by rw[beq_eq_false_iff_ne];exact h4
 have t5:(k==5)=false:=by rw[beq_eq_false_iff_ne];exact h5
 have t6:(k==6)=false:=by rw[beq_eq_false_iff_ne];exact h6
 clear h1 h2 h3 h4 h5 h6;exact z2oa
theorem A8l{K:Nat->Prop}{w:World}{b:Dc}{ka ia:Option Addr}{kc ic:Nat}(i:Nat)(hk:L9 K w (.slice ka b.kinds.length kc) (ints b.kinds))(hi:L9 K w (.slice ia b.ints.length ic) (ints b.ints)):Calls Tryz.prog 275 #[.agg #[.int .i64 b.fn,.int .i64 b.after,.slice ka b.kinds.length kc,.slice ia b.ints.length ic],.int .i64 (i:Nat)] w (KP w (Bc (Jk b i))):=by
 unfold Jk;rcases Nat.lt_or_ge i b.kinds.length with hl|hl
 ·rw[List.getElem?_eq_getElem hl];obtain⟨a,c,e,hk⟩:=hk;injection e with e1 e2 e3;subst e1 e3;obtain⟨g,o,rfl,_,hg,hcell⟩:=hk (by rw[ints,List.length_map];omega);have hc:=hcell i (.int .i64 b.kinds[i]) (by simp[ints,hl]);dsimp only;by_cases h1:b.kinds[i]=1
  ·rw[if_pos h1];exact A8m i hg hc hl h1
  rw[if_neg h1];by_cases h2:b.kinds[i]=2
  ·rw[if_pos h2];exact A8n i hg hc hl h2
  rw[if_neg h2];by_cases h3:b.kinds[i]=3
  ·rw[if_pos h3];exact A8o i hg hc hl h3
  rw[if_neg h3];by_cases h4:b.kinds[i]=4
  ·rw[if_pos h4];exact A8p i hg hc hl h4
  rw[if_neg h4];by_cases h5:b.kinds[i]=5
  ·rw[if_pos h5];exact A8q i hg hc hl h5
  rw[if_neg h5];by_cases h6:b.kinds[i]=6
  ·rw[if_pos h6];refine A8r i hg hc hl h6 _ (fun W hb=>?_);rcases Nat.lt_or_ge i b.ints.length with Gs|Gs
   ·rw[List.getElem?_eq_getElem Gs];obtain⟨a2,c2,e2,hi⟩:=hi;injection e2 with e1 e2 e3;subst e1 e3;obtain⟨g2,o2,rfl,_,Ht,hcell2⟩:=hi (by rw[ints,List.length_map];omega);exact Ae8 W g2 o2 b.ints.length ic i b.ints[i] Gs ((World.cell?_of_block (hb.block g2 Ht)).trans (hcell2 i _ (by simp[ints,Gs])))
   ·rw[List.getElem?_eq_none Gs];exact Ae9 W ia ic i Gs
  rw[if_neg h6];exact A8s i hg hc hl h1 h2 h3 h4 h5 h6
 ·rw[List.getElem?_eq_none hl];exact A8v i hl
end
end Go.Proofs.YtjdlndhfaaolaaaGreatDoor
