import Derived.Test.YtjdlndhfaaolaaaGreatDoorV35
import Derived.Test.YtjdlndhfaaolaaaGreatDoorV39
import Derived.Test.YtjdlndhfaaolaaaGreatDoorV40
set_option maxHeartbeats 20000000
namespace Go.Proofs.YtjdlndhfaaolaaaGreatDoor
section
set_option maxRecDepth 100000
open Go.RowKit
open Go.Deep (BT)
variable {D:Nat->Prop} {kb pb:Nat} {P:D7} {ps:List Kn} {pa:Option Addr} {pc:Nat} {w w':World} {ab:List Kn} {va:Option Addr} {vc:Nat}
theorem Aoi(w:World)(i:Ac)(h:i.op=0\/i.op=1\/i.op=2\/i.op=6\/i.op=43):Calls Tryz.prog 306 #[.pointer (some ⟨kb,0,none⟩),Ab i] w (KP w (.int .i64 0)):=by
 obtain⟨op,arg,line,v⟩:=i;unfold Ab;dsimp only at *;rcases h with rfl|rfl|rfl|rfl|rfl <;>
  (go_enter Tryz.func306,Tryz.ntmps306;go_wp2;go_ret;exact⟨rfl,Jw _ _⟩)
theorem z30a {P:Prop} (h:P:=by
  obtain⟨op,arg,line,v⟩:=i;unfold Ab;dsimp only at *;subst h;
   (go_enter Tryz.func306,Tryz.ntmps306;go_wp2;go_ret;exact⟨rfl,Jw _ _⟩)):P:=h
theorem Aol(w:World)(i:Ac)(h:i.op=36):Calls Tryz.prog 306 #[.pointer (some ⟨kb,0,none⟩),Ab i] w (KP w (.int .i64 i.arg)):=by
 exact z30a
theorem Aom(w:World)(i:Ac)(h:i.op=40):Calls Tryz.prog 306 #[.pointer (some ⟨kb,0,none⟩),Ab i] w (KP w (.int .i64 3)):=by
 exact z30a
theorem Aok(w:World)(i:Ac)(h:i.op=12\/i.op=15\/i.op=17\/i.op=19\/i.op=21\/i.op=38\/i.op=39\/i.op=25\/i.op=26\/i.op=28\/i.op=29\/i.op=30\/i.op=31):Calls Tryz.prog 306 #[.pointer (some ⟨kb,0,none⟩),Ab i] w (KP w (.int .i64 2)):=by
 obtain⟨op,arg,line,v⟩:=i;unfold Ab;dsimp only at *;rcases h with rfl|rfl|rfl|rfl|rfl|rfl|rfl|rfl|rfl|rfl|rfl|rfl|rfl <;>
  (go_enter Tryz.func306,Tryz.ntmps306;go_wp2;go_ret;exact⟨rfl,Jw _ _⟩)
theorem Aoj(w:World)(i:Ac)(h:¬(i.op=0\/i.op=1\/i.op=2\/i.op=6\/i.op=43\/i.op=36\/i.op=42\/i.op=40\/i.op=12\/i.op=15\/i.op=17\/i.op=19\/i.op=21\/i.op=38\/i.op=39\/i.op=25\/i.op=26\/i.op=28\/i.op=29\/i.op=30\/i.op=31)):Calls Tryz.prog 306 #[.pointer (some ⟨kb,0,none⟩),Ab i] w (KP w (.int .i64 1)):=by
 have t0:((i.op:Int)==0)=false:=by rw[beq_eq_false_iff_ne];omega
 have t1:((i.op:Int)==1)=false:=by rw[beq_eq_false_iff_ne];omega
 have t2:((i.op:Int)==2)=false:=by rw[beq_eq_false_iff_ne];omega
 have t6:((i.op:Int)==6)=false:=by rw[beq_eq_false_iff_ne];omega
 have t43:((i.op:Int)==43)=false:=by rw[beq_eq_false_iff_ne];omega
 have t36:((i.op:Int)==36)=false:=by rw[beq_eq_false_iff_ne];omega
 have t42:((i.op:Int)==42)=false:=by rw[beq_eq_false_iff_ne];omega
 have t40:((i.op:Int)==40)=false:=by rw[beq_eq_false_iff_ne];omega
 have t12:((i.op:Int)==12)=false:=by rw[beq_eq_false_iff_ne];omega
 have t15:((i.op:Int)==15)=false:=by rw[beq_eq_false_iff_ne];omega
 have t17:((i.op:Int)==17)=false:=by rw[beq_eq_false_iff_ne];omega
 have t19:((i.op:Int)==19)=false:=by rw[beq_eq_false_iff_ne];omega
 have t21:((i.op:Int)==21)=false:=by rw[beq_eq_false_iff_ne];omega
 have t38:((i.op:Int)==38)=false:=by rw[beq_eq_false_iff_ne];omega
 have t39:((i.op:Int)==39)=false:=by rw[beq_eq_false_iff_ne];omega
 have t25:((i.op:Int)==25)=false:=by rw[beq_eq_false_iff_ne];omega
 have t26:((i.op:Int)==26)=false:=by rw[beq_eq_false_iff_ne];omega
 have t28:((i.op:Int)==28)=false:=by rw[beq_eq_false_iff_ne];omega
 have t29:((i.op:Int)==29)=false:=by rw[beq_eq_false_iff_ne];omega
 have t30:((i.op:Int)==30)=false:=by rw[beq_eq_false_iff_ne];omega
 have t31:((i.op:Int)==31)=false:=by rw[beq_eq_false_iff_ne];omega
 clear h;unfold Ab;go_enter Tryz.func306,Tryz.ntmps306;go_wp2;go_ret;exact⟨rfl,Jw _ _⟩
theorem Aon(h:E9 D kb pb P ps pa pc w ab va vc)(i:Ac)(ho:i.op=42)(j:Nat)(hj:i.arg=(j:Nat))(f:Fn)(hf:P.fns[j]?=some f)(hN:P.fns.length<=1000000):Calls Tryz.prog 306 #[.pointer (some ⟨kb,0,none⟩),Ab i] w (KP w (.int .i64 (f.params:Nat))):=by
 have c0:=A2 h.st.blk 0 _ rfl;have lb:=A5 h.st.blk;obtain⟨hb,hc,sa,sn,sc,p3,hcc,_,_,lp,lh,hlt,d1,_,_,_⟩:=h.prog.Ub hf;have hfew:P.fns.length<=1000000:=hN;have t42:((i.op:Int)==42)=true:=by rw[ho];rfl
 have t0:((i.op:Int)==0)=false:=by rw[ho];rfl
 have t1:((i.op:Int)==1)=false:=by rw[ho];rfl
 have t2:((i.op:Int)==2)=false:=by rw[ho];rfl
 have t6:((i.op:Int)==6)=false:=by rw[ho];rfl
 have t43:((i.op:Int)==43)=false:=by rw[ho];rfl
 have t36:((i.op:Int)==36)=false:=by rw[ho];rfl
 clear h ho hf;unfold Ab;rw[hj];go_enter Tryz.func306,Tryz.ntmps306;go_wp2;go_quiet (fail)
 go_wp2;go_ret;exact⟨rfl,Tt (Jw _ _) _⟩
theorem A1f(h:E9 D kb pb P ps pa pc w ab va vc)(i:Ac)(ha:0<=i.arg)(hc:i.op=42->i.arg.toNat<P.fns.length)(hN:P.fns.length<=1000000):Calls Tryz.prog 306 #[.pointer (some ⟨kb,0,none⟩),Ab i] w (KP w (.int .i64 (Hh P i))):=by
 unfold Hh;by_cases h0:i.op=0\/i.op=1\/i.op=2\/i.op=6\/i.op=43
 ·rw[if_pos h0];exact Aoi w i h0
 rw[if_neg h0];by_cases h36:i.op=36
 ·rw[if_pos h36];exact Aol w i h36
 rw[if_neg h36];by_cases h42:i.op=42
 ·rw[if_pos h42];have hl:=hc h42;rw[List.getElem?_eq_getElem hl];exact Aon h i h42 i.arg.toNat z4va _ (List.getElem?_eq_getElem hl) hN
 rw[if_neg h42];by_cases h40:i.op=40
 ·rw[if_pos h40];exact Aom w i h40
 rw[if_neg h40];by_cases h2:i.op=12\/i.op=15\/i.op=17\/i.op=19\/i.op=21\/i.op=38\/i.op=39\/i.op=25\/i.op=26\/i.op=28\/i.op=29\/i.op=30\/i.op=31
 ·rw[if_pos h2];exact Aok w i h2
 rw[if_neg h2];exact Aoj w i z4va
def Of(D:Nat->Prop)(kb pb:Nat)(P:D7)(ps:List Kn)(pa:Option Addr)(pc:Nat)(w:World)(row:Option Nat)(ab':List Kn)(w':World):Prop:=∃va' vc',E9 D kb pb P ps pa pc w' ab' va' vc'/\Fp kb row w w'/\∀g,(Value.slice va' ab'.length vc').ownBlock=some g->row=some g\/w.heap.size<=g
theorem E9.Mk(h:E9 D kb pb P ps pa pc w ab va vc){cs:Array Value}{va':Option Addr}{vn' vc':Nat}{ab':List Kn}(hs:Dh 407 7 El kb 2 w' cs 414 va' vn' vc' ab')(hcs:cs=#[.pointer (some ⟨pb,0,none⟩),.slice pa ps.length pc,.slice va' ab'.length vc'])(hvn:vn'=ab'.length)(hf:Fp kb (Value.slice va ab.length vc).ownBlock w w')(ho:∀g,(Value.slice va' ab'.length vc').ownBlock=some g->(Value.slice va ab.length vc).ownBlock=some g\/w.heap.size<=g)(hl:ab'.length<=100000):E9 D kb pb P ps pa pc w' ab' va' vc':=by
 subst hcs hvn;have hk:∀g,D g->g<w.heap.size->w'.heap[g]?=w.heap[g]?/\D g:=fun g hg hlt=>⟨hf.block g hlt (fun e=>h.nd.1 (by rw[←e];exact hg)) (fun e=>h.nd.2 g e hg),hg⟩;refine⟨hs,h.par.keep hk,h.prog.keep hk,⟨h.nd.1,fun g hg hd=>?_⟩,fun g hg=>Nat.lt_of_lt_of_le (h.lo g hg) hf.size,⟨hl,h.Br.2⟩⟩;rcases ho g hg with e|e
 ·exact h.nd.2 g e hd
 ·have:=h.lo g hd;omega
theorem z4ja {P:Prop} (h:P:=by
  rintro e w1 ⟨rfl,rfl⟩;exact⟨rfl,va,vc,h,Fp.refl _ _ _,fun g hg=>.inl hg⟩):P:=h
theorem j8(h:E9 D kb pb P ps pa pc w ab va vc)(n:Int):Calls Tryz.prog 304 #[.pointer (some ⟨kb,2,none⟩),.int .i64 n] w fun e w'=>e=.returned (.tuple #[])/\Of D kb pb P ps pa pc w (Value.slice va ab.length vc).ownBlock (Md n ab) w':=by
 unfold Md;by_cases h0:n<0
 ·rw[if_pos h0];refine(Afh h.st n h0).mono ?_;exact z4ja
 ·rw[if_neg h0];by_cases h1:n.toNat<=ab.length
  ·have:=Aff h.st n.toNat h1 z50a;rw[show((n.toNat:Nat):Int)=n by omega]at this;refine this.mono ?_;rintro e w1 ⟨rfl,hs,hf⟩;have hl:(ab.take n.toNat).length=n.toNat:=by simp;omega
   refine⟨rfl,va,vc,h.Mk hs (by rw[hl];simp) hl.symm hf (fun g hg=>.inl ((Mi _ _ _ _).trans hg)) (by rw[hl];have:=h.Br.1;omega),hf,fun g hg=>.inl ((Mi _ _ _ _).trans hg)⟩
  ·rw[List.take_of_length_le z4va];refine(Afg h.st n z4va).mono ?_;exact z4ja
theorem Ai9(h:E9 D kb pb P ps pa pc w ab va vc)(hl:ab.length+1<=100000)(x:Kn):Calls Tryz.prog 307 #[.pointer (some ⟨kb,2,none⟩),B9 x] w fun e w'=>e=.returned (.tuple #[])/\Of D kb pb P ps pa pc w (Value.slice va ab.length vc).ownBlock (ab++[x]) w':=by
 refine(Afj h.st z4va x z50a).mono ?_;rintro e w1 ⟨rfl,g,cap,hs,hat,hf⟩;have ho:∀k,(Value.slice (some ⟨g,0,none⟩) (ab++[x]).length cap).ownBlock=some k->(Value.slice va ab.length vc).ownBlock=some k\/w.heap.size<=k:=fun k hk=>by
  exact z3ea
 exact⟨rfl,some ⟨g,0,none⟩,cap,h.Mk hs z50a z50a hf ho z4ya,hf,ho⟩
theorem Of.trans{row:Option Nat}{ab1 ab2:List Kn}{w1:World}{va1:Option Addr}{vc1:Nat}(hf:Fp kb row w w1)(ho:∀g,(Value.slice va1 ab1.length vc1).ownBlock=some g->row=some g\/w.heap.size<=g)(h2:Of D kb pb P ps pa pc w1 (Value.slice va1 ab1.length vc1).ownBlock ab2 w'):Of D kb pb P ps pa pc w row ab2 w':=by
 obtain⟨va2,vc2,m2,f2,o2⟩:=h2;refine⟨va2,vc2,m2,⟨f2.os.trans hf.os,f2.tape.trans hf.tape,f2.output.trans hf.output,Nat.le_trans hf.size f2.size,fun k hk h1 h3=>?_⟩,fun g hg=>?_⟩
 ·refine(f2.block k (Nat.lt_of_lt_of_le hk hf.size) h1 (fun e=>?_)).trans (hf.block k hk h1 h3);rcases ho k e with q|q
  ·exact h3 q
  ·omega
 ·rcases o2 g hg with q|q
  ·exact ho g q
  ·exact .inr (Nat.le_trans hf.size q)
theorem Aoo(i:Ac)(ha:0<=i.arg)(ha2:i.arg<=1000000)(hp:∀f∈P.fns,f.params<=1000):0<=Hh P i/\Hh P i<=1000000:=by
 unfold Hh;split
 ·omega
 split
 ·exact⟨ha,ha2⟩
 split
 ·split
  ·rename_i f hf;have:=hp f (List.mem_of_getElem? hf);omega
  ·omega
 split
 ·omega
 split <;> omega
theorem Aew(h:E9 D kb pb P ps pa pc w ab va vc)(i:Ac)(ha:0<=i.arg)(ha2:i.arg<=1000000)(hc:i.op=42->i.arg.toNat<P.fns.length)(hN:P.fns.length<=1000000)(hp:∀f∈P.fns,f.params<=1000)(hl:ab.length+1<=100000) :
  Calls Tryz.prog 293 #[.pointer (some ⟨kb,0,none⟩),Ab i] w fun e w'=>e=.returned (.tuple #[])/\Of D kb pb P ps pa pc w (Value.slice va ab.length vc).ownBlock (follow P ps ab i) w':=by
 have Bf:=Jw w (.cells #[.int .i64 (i.op:Nat),.int .i64 i.arg,.int .i64 (i.line:Nat),.int .i64 (i.v.k:Nat),.bool i.v.y,.int .i64 i.v.n,.string ⟨i.v.t.toArray⟩,.pointer none] 251);have hi0:=heap_alloc_new w (.cells #[.int .i64 (i.op:Nat),.int .i64 i.arg,.int .i64 (i.line:Nat),.int .i64 (i.v.k:Nat),.bool i.v.y,.int .i64 i.v.n,.string ⟨i.v.t.toArray⟩,.pointer none] 251);have HG:=A0 (Aex (h.below Bf) i ha);have lb:=A5 h.st.blk;have HM:=A0 h;have HRl:=A0 (Bn h.st.own);have Aq:=A0 hi0;have Af:=A0 Bf;unfold Ab at HG;clear hi0 Bf h;unfold Ab;go_enter Tryz.func293,Tryz.ntmps293;go_wp2_with fail
 refine HG.o.mono ?_;rintro e w1 ⟨rfl,A1⟩;have HM1:=A0 ((HM.o.below Af.o).below A1);have Ad:=(A1.block _ (A5 Aq.o)).trans Aq.o;obtain⟨n0,n1,n2,n3,n4,n5,n6,n7,ln⟩:=B1 Ad;have A4:Hid (Below w.heap.size w w1):=Af.o.trans (A1.mono Af.o.size);have Bo:=A0 Ad;clear A1 Ad HG Aq;have htk:0<=Hh P i/\Hh P i<=1000000:=Aoo i ha ha2 hp;cases hg:Uc ps ab i with
 | some x=>
  have HGk:=A0 hg;clear hg;unfold X7 B9;go_wp2;obtain⟨w2,Fk⟩:∃w2,w2=w1.alloc (.cells #[.bool x.kind,.bool x.whole,.int .i64 (x.like.k:Nat),.bool x.like.y,.int .i64 x.like.n,.string ⟨x.like.t.toArray⟩,.pointer none] 407):=⟨_,rfl⟩;rw[←Fk];have A8:Below w1.heap.size w1 w2:=by rw[Fk];exact Jw _ _
  have F1:w2.heap[w1.heap.size]?=some (.cells #[.bool x.kind,.bool x.whole,.int .i64 (x.like.k:Nat),.bool x.like.y,.int .i64 x.like.n,.string ⟨x.like.t.toArray⟩,.pointer none] 407 (0,0)):=by rw[Fk];exact heap_alloc_new _ _
  have Aw:=(A8.block _ (A5 Bo.o)).trans Bo.o;have HM2:=A0 (HM1.o.below A8);have Aa:Hid (Below w.heap.size w w2):=A4.o.trans (A8.mono A4.o.size);have E6:=A4.o.size;have ls2:=A8.size;clear n0 n1 n2 n3 n4 n5 n6 n7 ln;obtain⟨n0,n1,n2,n3,n4,n5,n6,n7,ln⟩:=B1 Aw;have Gy:=A0 F1;have E2:=A5 HM2.o.st.blk;clear Fk A8 F1 Aw HM1;have hbd:Below w2.heap.size w2 w2.drew:=⟨rfl,rfl,rfl,Nat.le_refl _,fun _ _=>rfl⟩;have HL:=A0 (Sj (HM2.o.below hbd).st);have HT:=A0 (A1f (HM2.o.below hbd) i ha hc hN);have HCt:=A0 (fun(W:World) (hb:Below w2.heap.size w2 W)=>j8 (HM2.o.below hb) ((ab.length:Int)-Hh P i));have Dq:IntKind.i64.wrap ((ab.length:Int)-Hh P i)=(ab.length:Int)-Hh P i:=by rw[IntKind.wrap_i64];omega
  unfold Ab at HT;clear hbd;rw[←Dq]at HCt;clear Dq;go_region_law (first
   | (refine Eo rfl 304 _ _ rfl #[.pointer (some ⟨kb,2,none⟩),.int .i64 (IntKind.i64.wrap ((ab.length:Int)-Hh P i))] z4xa HC4.o ?_;rintro e w4 ⟨rfl,va4,vc4,m4,f4,o4⟩;refine⟨_,rfl,?_⟩;have HM4:=A0 m4;have HF4:=A0 f4;have C2:=A0 o4;clear m4 f4 o4)
   | (refine Eo rfl 306 _ _ rfl #[.pointer (some ⟨kb,0,none⟩),.agg #[.int .i64 (i.op:Nat),.int .i64 i.arg,.int .i64 (i.line:Nat),.int .i64 (i.v.k:Nat),.bool i.v.y,.int .i64 i.v.n,.string ⟨i.v.t.toArray⟩,.pointer none]] z4xa HT.o ?_;rintro e w3 ⟨rfl,Aj⟩;refine⟨_,rfl,?_⟩;have hb3':Below w2.heap.size w2 w3:=Below.trans (b:=w2.drew) ⟨rfl,rfl,rfl,Nat.le_refl _,fun _ _=>rfl⟩ Aj;have HC4:=A0 (HCt.o w3 hb3');have Av:=A0 hb3';clear Aj hb3')
   | (refine Eo rfl 305 _ _ rfl #[.pointer (some ⟨kb,2,none⟩)] z4xa HL.o ?_;rintro e w9 ⟨rfl,Dq⟩;subst Dq;refine⟨_,rfl,?_⟩))
  all_goals
   have hrow:∀k,w.heap.size<=k->(Value.slice va ab.length vc).ownBlock≠some k:=fun k hk e=>by have:=HRl.o k e;omega
   have hq3:=(Av.o.block _ (A5 Gy.o)).trans Gy.o;have hq4:=(HF4.o.block w1.heap.size (A5 hq3) z4va (hrow _ E6)).trans hq3;have d0:=A2 hq4 0 _ rfl;have d1:=A2 hq4 1 _ rfl;have d2:=A2 hq4 2 _ rfl;have d3:=A2 hq4 3 _ rfl;have d4:=A2 hq4 4 _ rfl;have d5:=A2 hq4 5 _ rfl;have d6:=A2 hq4 6 _ rfl;have lq:=A5 hq4;have Dq:IntKind.i64.wrap ((ab.length:Int)-Hh P i)=(ab.length:Int)-Hh P i:=by rw[IntKind.wrap_i64];omega
   rw[Dq]at HM4 C2;clear Dq;have lb4:=A5 HM4.o.st.blk;have hlc:(Md ((ab.length:Int)-Hh P i) ab).length<=ab.length:=by unfold Md;split <;> simp;omega
   have HP:=A0 (Ai9 (HM4.o.below (w':=w4.drew) ⟨rfl,rfl,rfl,Nat.le_refl _,fun _ _=>rfl⟩) z4va x);have HFl:Hid (follow P ps ab i=Md ((ab.length:Int)-Hh P i) ab++[x]):=by show _=_;unfold follow;rw[HGk.o]
   unfold B9 at HP;clear hq3 hq4 hrow;go_wp2;refine Ih 4 z4xa z4xa ?_;simp only[List.take_succ_cons,List.take_zero,List.drop_succ_cons,List.drop_zero];iterate 4 (refine Ez (fun K' hK'=>?_);go_simp;refine hK' _ ?_;clear hK' K')
   refine Ig ?_;go_wp2_with fail
   refine HP.o.mono ?_;rintro e w5 ⟨rfl,h5⟩;have h5':Of D kb pb P ps pa pc w4 (Value.slice va4 (Md ((ab.length:Int)-Hh P i) ab).length vc4).ownBlock (Md ((ab.length:Int)-Hh P i) ab++[x]) w5:=by
    obtain⟨q1,q2,q3,q4,q5⟩:=h5;exact⟨q1,q2,q3,⟨q4.os,q4.tape,q4.output,q4.size,q4.block⟩,q5⟩
   have Gp:=A0 (Of.trans HF4.o C2.o h5');clear h5';clear h5;go_wp2;go_end0;refine⟨rfl,?_⟩;rw[HFl.o];have hst:=Gp.o;obtain⟨va5,vc5,m5,f5,o5⟩:=hst;exact⟨va5,vc5,m5,f5.below (Aa.o.trans (Av.o.mono z4va)),fun g hg=>(o5 g hg).imp id (fun q=>by have:=(Aa.o.trans (Av.o.mono z4va)).size;omega)⟩
 | none=>
  have HGk:=A0 hg;clear hg;unfold X7 B9 En Ag;go_wp2;obtain⟨w2,Fk⟩:∃w2,w2=w1.alloc (.cells #[.bool false,.bool false,.int .i64 0,.bool false,.int .i64 0,.string ⟨#[]⟩,.pointer none] 407):=⟨_,rfl⟩;rw[←Fk];have A8:Below w1.heap.size w1 w2:=by rw[Fk];exact Jw _ _
  have F1:w2.heap[w1.heap.size]?=some (.cells #[.bool false,.bool false,.int .i64 0,.bool false,.int .i64 0,.string ⟨#[]⟩,.pointer none] 407 (0,0)):=by rw[Fk];exact heap_alloc_new _ _
  have Aw:=(A8.block _ (A5 Bo.o)).trans Bo.o;have HM2:=A0 (HM1.o.below A8);have Aa:Hid (Below w.heap.size w w2):=A4.o.trans (A8.mono A4.o.size);have E6:=A4.o.size;have ls2:=A8.size;clear n0 n1 n2 n3 n4 n5 n6 n7 ln;obtain⟨n0,n1,n2,n3,n4,n5,n6,n7,ln⟩:=B1 Aw;have Gy:=A0 F1;have E2:=A5 HM2.o.st.blk;clear Fk A8 F1 Aw HM1;have hbd:Below w2.heap.size w2 w2.drew:=⟨rfl,rfl,rfl,Nat.le_refl _,fun _ _=>rfl⟩;have HL:=A0 (Sj (HM2.o.below hbd).st);have HT:=A0 (A1f (HM2.o.below hbd) i ha hc hN);have HCt:=A0 (fun(W:World) (hb:Below w2.heap.size w2 W)=>j8 (HM2.o.below hb) ((ab.length:Int)-Hh P i));have Dq:IntKind.i64.wrap ((ab.length:Int)-Hh P i)=(ab.length:Int)-Hh P i:=by rw[IntKind.wrap_i64];omega
  unfold Ab at HT;clear hbd;rw[←Dq]at HCt;clear Dq;go_region_law (first
   | (refine Eo rfl 304 _ _ rfl #[.pointer (some ⟨kb,2,none⟩),.int .i64 (IntKind.i64.wrap ((ab.length:Int)-Hh P i))] z4xa HC4.o ?_;rintro e w4 ⟨rfl,va4,vc4,m4,f4,o4⟩;refine⟨_,rfl,?_⟩;have HM4:=A0 m4;have HF4:=A0 f4;have C2:=A0 o4;clear m4 f4 o4)
   | (refine Eo rfl 306 _ _ rfl #[.pointer (some ⟨kb,0,none⟩),.agg #[.int .i64 (i.op:Nat),.int .i64 i.arg,.int .i64 (i.line:Nat),.int .i64 (i.v.k:Nat),.bool i.v.y,.int .i64 i.v.n,.string ⟨i.v.t.toArray⟩,.pointer none]] z4xa HT.o ?_;rintro e w3 ⟨rfl,Aj⟩;refine⟨_,rfl,?_⟩;have hb3':Below w2.heap.size w2 w3:=Below.trans (b:=w2.drew) ⟨rfl,rfl,rfl,Nat.le_refl _,fun _ _=>rfl⟩ Aj;have HC4:=A0 (HCt.o w3 hb3');have Av:=A0 hb3';clear Aj hb3')
   | (refine Eo rfl 305 _ _ rfl #[.pointer (some ⟨kb,2,none⟩)] z4xa HL.o ?_;rintro e w9 ⟨rfl,Dq⟩;subst Dq;refine⟨_,rfl,?_⟩))
  all_goals
   have Dq:IntKind.i64.wrap ((ab.length:Int)-Hh P i)=(ab.length:Int)-Hh P i:=by rw[IntKind.wrap_i64];omega
   rw[Dq]at HM4 C2;clear Dq;have lb4:=A5 HM4.o.st.blk;have HFl:Hid (follow P ps ab i=Md ((ab.length:Int)-Hh P i) ab):=by show _=_;unfold follow;rw[HGk.o]
   go_wp2;go_end0;refine⟨rfl,?_⟩;rw[HFl.o];exact⟨va4,vc4,HM4.o,HF4.o.below (Aa.o.trans (Av.o.mono z4va)),fun g hg=>(C2.o g hg).imp id (fun q=>by have:=(Aa.o.trans (Av.o.mono z4va)).size;omega)⟩
theorem Ael(l:List Ac):Ek l=Bw Es l:=rfl
theorem E9.other(h:E9 D kb pb P ps pa pc w ab va vc){s:Nat}(hk:∀g,g<w.heap.size->g≠s->w'.heap[g]?=w.heap[g]?)(hs:w.heap.size<=w'.heap.size)(h1:s≠kb)(h2:(Value.slice va ab.length vc).ownBlock≠some s)(h3:¬D s):E9 D kb pb P ps pa pc w' ab va vc:=by
 have hkD:∀g,D g->g<w.heap.size->w'.heap[g]?=w.heap[g]?/\D g:=fun g hg hl=>⟨hk g hl (fun e=>h3 (by rw[←e];exact hg)),hg⟩;exact⟨⟨(hk kb (A5 h.st.blk) (fun e=>h1 e.symm)).trans h.st.blk,h.st.cell,B4 h.st.own (fun g hg hl=>hk g hl (fun e=>h2 (by rw[←e];exact hg))),h.st.ne⟩,h.par.keep hkD,h.prog.keep hkD,h.nd,fun g hg=>Nat.lt_of_lt_of_le (h.lo g hg) hs,h.Br⟩
structure Ve (D : Nat -> Prop) (kb pb : Nat) (P : D7) (ps : List Kn) (pa : Option Addr) (pc : Nat) (w : World) (n : Nat) (wr : World) (ab : List Kn) (va : Option Addr) (vc : Nat) (qs : List Ac) : Prop where
 mkr:E9 D kb pb P ps pa pc wr ab va vc
 row:Gi 251 8 Es (w.heap.size+1) wr n qs
 res:wr.heap[w.heap.size]?=some (.cells #[.int .i64 0,.slice none 0 0] 98 (0,0))
 own:∀g,(Value.slice va ab.length vc).ownBlock=some g->w.heap.size+1<g
 Mk:Fp kb none w wr
theorem A9q{n:Nat}{wr w2:World}{qs:List Ac}(hI:Ve D kb pb P ps pa pc w n wr ab va vc qs)(lbk:kb<w.heap.size)(hlo:∀g,D g->g<w.heap.size)(hb:Below wr.heap.size wr w2)(hq:qs.length<n)(q u:Ac)(hu:Js P.fns.length u)(hN:P.fns.length<=1000000)(hp:∀f∈P.fns,f.params<=1000)(hl:ab.length+1<=100000) :
  ∀W,W=w2.setCells (w.heap.size+1) (qs.length*8) (Es q)->Calls Tryz.prog 293 #[.pointer (some ⟨kb,0,none⟩),Ab u] W fun e w4=>e=.returned (.tuple #[])/\∃va4 vc4,Ve D kb pb P ps pa pc w n w4 (follow P ps ab u) va4 vc4 (qs++[q]):=by
 intro W hW;obtain⟨hm,hr,hs,ho,hf⟩:=hI;have lr:=hr.lt;have f5:=Kv (w.heap.size+1) (Es q) (qs.length*8) w2;rw[←hW]at f5;obtain⟨g1,g2,g3,g4,g5⟩:=f5;have B5:Gi 251 8 Es (w.heap.size+1) W n (qs++[q]):=by
  rw[hW];exact(hr.keep (hb.block _ lr)).put (fun _=>rfl) hq q
 have hkW:∀g,g<wr.heap.size->g≠w.heap.size+1->W.heap[g]?=wr.heap[g]?:=fun g hg hne=>(g5 g hne).trans (hb.block g hg);have hsW:wr.heap.size<=W.heap.size:=by rw[g4];exact hb.size
 have hmW:E9 D kb pb P ps pa pc W ab va vc:=hm.other hkW hsW z4va (fun e=>by have:=ho _ e;omega) (fun hd=>by have:=hlo _ hd;omega);have hsz:w.heap.size<wr.heap.size:=A5 hs;refine(Aew hmW u hu.1 (by have:=hu.2.1;omega) hu.2.2.2.2.2.1 hN hp hl).mono ?_;rintro e w4 ⟨rfl,va4,vc4,m4,f4,o4⟩;have hrow:∀k,k<=w.heap.size+1->(Value.slice va ab.length vc).ownBlock≠some k:=fun k hk e=>by have:=ho k e;omega
 have k4:∀k,k<W.heap.size->k≠kb->k<=w.heap.size+1->w4.heap[k]?=W.heap[k]?:=fun k h1 h2 h3=>f4.block k h1 h2 (hrow k h3);refine⟨rfl,va4,vc4,m4,B5.keep (k4 _ B5.lt z4va (Nat.le_refl _)),(k4 _ z4va z4va z4va).trans ((hkW _ hsz z4va).trans hs),fun g hg=>?_,⟨f4.os.trans (g1.trans (hb.os.trans hf.os)),f4.tape.trans (g2.trans (hb.tape.trans hf.tape)),f4.output.trans (g3.trans (hb.output.trans hf.output)),Nat.le_trans hf.size (Nat.le_trans hsW f4.size),fun k hk h1 h2=>?_⟩⟩
 ·rcases o4 g hg with e|e
  ·exact ho g e
  ·omega
 ·have Ci:k<wr.heap.size:=Nat.lt_of_lt_of_le hk hf.size;exact(k4 k z4va h1 z4va).trans ((hkW k Ci z4va).trans (hf.block k hk h1 h2))
theorem Ab9(n:Int)(ab:List Kn):(Md n ab).length<=ab.length:=by unfold Md;split <;> simp;omega
theorem Adl{i:Nat}{u:Ac}(h:ab.length<=i):(follow P ps ab u).length<=i+1:=by
 unfold follow;have:=Ab9 ((ab.length:Nat)-Hh P u) ab;dsimp only;split
 ·simp only[List.length_append,List.length_singleton];omega
 ·omega
theorem z5na {P:Prop} (h:P:=by simp only[Value.ownBlock,Option.some.injEq]at hk;omega):P:=h
theorem Aev(h:E9 D kb pb P ps pa pc w [] none 0){bb oo slots:Nat}{st:List Ac}{sa:Option Addr}{sn sc:Nat}(hB:L0 D w bb oo slots st sa sn sc)(hst:∀i∈st,Js P.fns.length i)(hN:P.fns.length<=1000000)(hp:∀f∈P.fns,f.params<=1000)(hl:st.length<=90000) :
  Calls Tryz.prog 277 #[.pointer (some ⟨kb,0,none⟩),.pointer (some ⟨bb,oo,none⟩)] w fun e w'=>∃tb,e=.returned (.agg #[.int .i64 (slots:Nat),.slice (some ⟨tb,0,none⟩) st.length st.length])/\w'.ownsRow 0 251 8 (.slice (some ⟨tb,0,none⟩) st.length st.length) st.length (Ek (K7 P ps [] st))/\w.heap.size<=tb/\Fp kb none w w':=by
 have hsn:sn=st.length:=(C9 hB.own.1).1;subst hsn;have c0:=hB.slots;have c1:=hB.row;have lb:=A5 h.st.blk;have lc:=block_lt_of_cell c0;have HM:=A0 h;have HBd:=A0 hB;clear h hB;have hmk:=Pu (P:=Tryz.prog) 96 251 (.agg #[.int .i64 0,.int .i64 0,.int .i64 0,.int .i64 0,.bool false,.int .i64 0,.string ⟨#[]⟩,.pointer none]) 8 72 Tryz.underlying96 Xb .i64 .i64 st.length z4va z4va (w.alloc (.cells #[.int .i64 0,.slice none 0 0] 98));have Bf:Below w.heap.size w ((w.alloc (.cells #[.int .i64 0,.slice none 0 0] 98)).alloc (.cells (madeCells (Value.agg #[.int .i64 0,.int .i64 0,.int .i64 0,.int .i64 0,.bool false,.int .i64 0,.string ⟨#[]⟩,.pointer none]).cells (st.length*8)) 251)):=E0 _ _ _;have hr0:((w.alloc (.cells #[.int .i64 0,.slice none 0 0] 98)).alloc (.cells (madeCells (Value.agg #[.int .i64 0,.int .i64 0,.int .i64 0,.int .i64 0,.bool false,.int .i64 0,.string ⟨#[]⟩,.pointer none]).cells (st.length*8)) 251)).heap[w.heap.size]?=some (.cells #[.int .i64 0,.slice none 0 0] 98 (0,0)):=alloc_old (heap_alloc_new w _);have Gb:=Gi.start (T:=251) (sz:=8) (f:=Es) (w.alloc (.cells #[.int .i64 0,.slice none 0 0] 98)) (Value.agg #[.int .i64 0,.int .i64 0,.int .i64 0,.int .i64 0,.bool false,.int .i64 0,.string ⟨#[]⟩,.pointer none]).cells st.length;rw[World.size_alloc]at Gb hmk;obtain⟨w0,Cz⟩:∃w0,w0=((w.alloc (.cells #[.int .i64 0,.slice none 0 0] 98)).alloc (.cells (madeCells (Value.agg #[.int .i64 0,.int .i64 0,.int .i64 0,.int .i64 0,.bool false,.int .i64 0,.string ⟨#[]⟩,.pointer none]).cells (st.length*8)) 251)):=⟨_,rfl⟩;rw[←Cz]at hmk Bf hr0 Gb;have Af:=A0 Bf;have HR0:=A0 hr0;have HN0:=A0 Gb;have ls0:=Bf.size;have hcw:∀(k o:Nat),k<w.heap.size->w0.cell? ⟨k,o,none⟩=w.cell? ⟨k,o,none⟩:=fun k o hk=>World.cell?_of_block (Bf.block k hk);have e0:=(hcw _ _ lc).trans c0;have e1:=(hcw _ _ lc).trans c1;have lc0:=Nat.lt_of_lt_of_le lc ls0;clear Cz Bf hr0 Gb hcw;go_enter Tryz.func277,Tryz.ntmps277;go_wp2;go_loopg [19] st.length (fun k v wr=>∃(i:Nat) (ab:List Kn) (va:Option Addr) (vc:Nat) (qs:List Ac),v=.int .i64 i/\i+k=st.length/\qs.length=i/\ab.length<=i/\K7 P ps [] st=qs++K7 P ps ab (st.drop i)/\Ve D kb pb P ps pa pc w st.length wr ab va vc qs)
 case atStart=>
  refine⟨0,[],none,0,[],rfl,by omega,rfl,by simp,by simp,⟨HM.o.below Af.o,HN0.o,HR0.o,fun g hg=>by simp[Value.ownBlock]at hg,⟨Af.o.os,Af.o.tape,Af.o.output,Af.o.size,fun k hk _ _=>Af.o.block k hk⟩⟩⟩
 case round=>
  obtain⟨i,ab,va,vc,qs,rfl,hik,hql,hal,hqe,hI⟩:=hrel;have HI:=A0 hI;have HQe:=A0 hqe;have lbr:=A5 hI.mkr.st.blk;have lrw:=hI.row.lt;have hrs:=hI.res;have lrs:=A5 hrs;clear hI hqe;by_cases hlt:i<st.length
  ·have hkD:∀g,D g->wr.heap[g]?=w.heap[g]?:=fun g hg=>HI.o.Mk.block g (HM.o.lo g hg) (fun e=>HM.o.nd.1 (by rw[←e];exact hg)) z50a;obtain⟨g,k1,_,hcap,lg,hcell⟩:=Fo HBd.o.own.1 z4va;have hgD:=HBd.o.own.2 g (by rw[k1];rfl);subst k1;have hcr:∀o,wr.cell? ⟨g,o,none⟩=w.cell? ⟨g,o,none⟩:=fun o=>World.cell?_of_block (hkD g hgD);have lgr:=Nat.lt_of_lt_of_le lg HI.o.Mk.size;have d0:=(hcr _).trans (hcell (i*8+0) _ ((D1 (f:=Es) (sz:=8) (fun _=>rfl) st i 0 hlt z4va).trans rfl));have d1:=(hcr _).trans (hcell (i*8+1) _ ((D1 (f:=Es) (sz:=8) (fun _=>rfl) st i 1 hlt z4va).trans rfl));have d2:=(hcr _).trans (hcell (i*8+2) _ ((D1 (f:=Es) (sz:=8) (fun _=>rfl) st i 2 hlt z4va).trans rfl));have d3:=(hcr _).trans (hcell (i*8+3) _ ((D1 (f:=Es) (sz:=8) (fun _=>rfl) st i 3 hlt z4va).trans rfl));have d4:=(hcr _).trans (hcell (i*8+4) _ ((D1 (f:=Es) (sz:=8) (fun _=>rfl) st i 4 hlt z4va).trans rfl));have d5:=(hcr _).trans (hcell (i*8+5) _ ((D1 (f:=Es) (sz:=8) (fun _=>rfl) st i 5 hlt z4va).trans rfl));have d6:=(hcr _).trans (hcell (i*8+6) _ ((D1 (f:=Es) (sz:=8) (fun _=>rfl) st i 6 hlt z4va).trans rfl));have d7:=(hcr _).trans (hcell (i*8+7) _ ((D1 (f:=Es) (sz:=8) (fun _=>rfl) st i 7 hlt z4va).trans rfl));rw[Nat.add_zero]at d0;have hu:=hst _ (List.getElem_mem hlt);have HStep:=A0 (fun(w2:World) (hb:Below wr.heap.size wr w2)=>A9q HI.o lb HM.o.lo hb z4va (quick ps ab st[i]) st[i] hu hN hp z4va);have HQk:=A0 (fun(W:World) (hb:Below wr.heap.size wr W)=>Afe (HI.o.mkr.below hb) st[i] hu.1);have HEq:Hid (K7 P ps [] st=(qs++[quick ps ab st[i]])++K7 P ps (follow P ps ab st[i]) (st.drop (i+1))):=by
    show _=_;rw[HQe.o,List.drop_eq_getElem_cons hlt,K7,List.append_assoc];rfl
   have HLf:Hid ((follow P ps ab st[i]).length<=i+1):=Adl hal;have HRw:=A0 HI.o.row;clear hkD hcr hcell hu;generalize st[i]=u at *;generalize quick ps ab u=q at *;rw[hql]at HStep;unfold Ab at HStep HQk;unfold Es at HStep;unfold KP at HQk;go_wp2_with fail
   refine(HQk.o _ (Jw _ _)).mono ?_;rintro e w2 ⟨rfl,A8⟩;have hb2':=(Jw wr _).trans (A8.mono z50a);have Aw:=(A8.block wr.heap.size z50a).trans (heap_alloc_new wr _);obtain⟨n0,n1,n2,n3,n4,n5,n6,n7,ln⟩:=B1 Aw;have hrw2:=HRw.o.keep (w':=w2) (hb2'.block _ lrw);obtain⟨z0,y0⟩:=hrw2.cells i 0 hlt z4va;obtain⟨z1,y1⟩:=hrw2.cells i 1 hlt z4va;obtain⟨z2,y2⟩:=hrw2.cells i 2 hlt z4va;obtain⟨z3,y3⟩:=hrw2.cells i 3 hlt z4va;obtain⟨z4,y4⟩:=hrw2.cells i 4 hlt z4va;obtain⟨z5,y5⟩:=hrw2.cells i 5 hlt z4va;obtain⟨z6,y6⟩:=hrw2.cells i 6 hlt z4va;obtain⟨z7,y7⟩:=hrw2.cells i 7 hlt z4va;replace y0:w2.cell? ⟨w.heap.size+1,i*8,none⟩=some z0:=y0;have fz:=hrw2.frozen;have lr2:=hrw2.lt;have HF:=A0 (HStep.o w2 hb2');clear A8 hb2' Aw hrw2 HStep HQk;generalize w.heap.size+1=sb at *;go_wp2_with fail
   refine(HF.o _ rfl).mono ?_;rintro e w4 ⟨rfl,va4,vc4,hI4⟩;have HI4:=A0 hI4;have lb4:=A5 hI4.mkr.st.blk;clear hI4 HF;go_wp2;go_roundg (gk-1)
   case measure=>omega
   case rel=>exact⟨i+1,_,va4,vc4,_,by simp,by omega,by simp[hql],HLf.o,HEq.o,HI4.o⟩
  ·have hqs:K7 P ps [] st=qs:=by rw[HQe.o,List.drop_eq_nil_of_le z4va,K7,List.append_nil]
   have HOw:=A0 (HI.o.row.done (fun _=>rfl) z4va z4va);have HQs:=A0 hqs;have HSt:=A0 HI.o.Mk;have hc0:wr.cell? ⟨bb,oo,none⟩=some (.int .i64 (slots:Nat)):=(World.cell?_of_block (HI.o.Mk.block bb lc (fun e=>HM.o.nd.1 (by rw[←e];exact HBd.o.kept)) z50a)).trans c0;have lcr:=block_lt_of_cell hc0;obtain⟨x0,x1,fx,lx⟩:=Iu hrs;clear hrs hqs;go_wp2;refine bodyPost_ret (v:=.agg #[.int .i64 (slots:Nat),.slice (some ⟨w.heap.size+1,0,none⟩) st.length st.length]) (by simp[results,Tryz.results277,go_sem,x0,x1]) rfl ?_;have hset:∀k,k≠w.heap.size->((wr.setCell ⟨w.heap.size,0,none⟩ (.int .i64 (slots:Nat))).setCell ⟨w.heap.size,1,none⟩ (.slice (some ⟨w.heap.size+1,0,none⟩) st.length st.length)).heap[k]?=wr.heap[k]?:=fun k hk=>(Below.heap_setCell _ _ _ _ z5sa).trans (Below.heap_setCell _ _ _ _ z5sa);refine⟨w.heap.size+1,rfl,?_,Nat.le_succ _,⟨by rw[R8,R8];exact HSt.o.os,by rw[Ra,Ra];exact HSt.o.tape,by rw[R9,R9];exact HSt.o.output,by simp[World.setCell];exact HSt.o.size,fun k hk h1 h2=>(hset k z4va).trans (HSt.o.block k hk h1 h2)⟩⟩;rw[HQs.o,Ael];have hln:st.length=qs.length:=by omega
   have:=B4 HOw.o (w':=((wr.setCell ⟨w.heap.size,0,none⟩ (.int .i64 (slots:Nat))).setCell ⟨w.heap.size,1,none⟩ (.slice (some ⟨w.heap.size+1,0,none⟩) st.length st.length))) (fun k hk _=>hset k z5na);rw[hln]at this ⊢;exact this
end
section
set_option maxRecDepth 100000
open Go.RowKit
open Go.Deep (BT)
variable {D:Nat->Prop} {w w':World}
theorem Af7(x:Kn):∀v∈El x,v.oneCell'=true:=by
 intro v hv;simp only[El,List.mem_cons,List.not_mem_nil,or_false]at hv;rcases hv with rfl|rfl|rfl|rfl|rfl|rfl|rfl <;> rfl
theorem A28{T:TypeId}{sz n c g:Nat}{cs:List Value}(h:w.ownsRow 0 T sz (.slice (some ⟨g,0,none⟩) n c) n cs):∀o,w.frozen? ⟨g,o,none⟩=false:=by
 rcases h.2 with⟨h2,_⟩|⟨g',cap,cur,hv,_,hgc,_⟩
 ·cases h2
 ·injection hv with e1;injection e1 with e1;injection e1 with e1;subst e1;exact Bd hgc
theorem z2ja {P:Prop} (h:P:=by
  go_wp2;go_roundg (gk-1)
  case measure=>omega
  case rel=>exact⟨i+1,ks',by simp,by omega,hkl,HLl.o,B4 HOr.o (fun k _ hl=>Below.heap_alloc _ _ _ hl),Below.alloc HBr.o lsr _⟩):P:=h
theorem Afr{hb fo:Nat}{sa:Option Addr}{sn sc:Nat}{st:List Ac}{ks:List Kn}{kb2 kc:Nat}(hc:w.cell? ⟨hb,fo+3,none⟩=some (.slice sa sn sc))(hs:Cw D w 251 8 (.slice sa sn sc) st.length (Ek st))(hst:∀i∈st,0<=i.arg)(hl:st.length<=90000)(ho:w.ownsRow 0 407 7 (.slice (some ⟨kb2,0,none⟩) ks.length kc) ks.length (Bw El ks))(hk:ks.length<=1000) :
  Calls Tryz.prog 276 #[.pointer (some ⟨hb,fo,none⟩),.slice (some ⟨kb2,0,none⟩) ks.length kc] w fun e w'=>∃tb,e=.returned (.slice (some ⟨tb,0,none⟩) ks.length ks.length)/\w'.ownsRow 0 407 7 (.slice (some ⟨tb,0,none⟩) ks.length ks.length) ks.length (Bw El (La st ks))/\(La st ks).length=ks.length/\w.heap.size<=tb/\Below w.heap.size w w':=by
 have hsn:sn=st.length:=(C9 hs.1).1;subst hsn;have lc:=block_lt_of_cell hc;have hmk:=Pu (P:=Tryz.prog) 379 407 (.agg #[.bool false,.bool false,.int .i64 0,.bool false,.int .i64 0,.string ⟨#[]⟩,.pointer none]) 7 56 Tryz.underlying379 Xd .i64 .i64 ks.length z4va z4va w;have Gb:=Gi.start (T:=407) (sz:=7) (f:=El) w (Value.agg #[.bool false,.bool false,.int .i64 0,.bool false,.int .i64 0,.string ⟨#[]⟩,.pointer none]).cells ks.length;have Bf:=Jw w (.cells (madeCells (Value.agg #[.bool false,.bool false,.int .i64 0,.bool false,.int .i64 0,.string ⟨#[]⟩,.pointer none]).cells (ks.length*7)) 407);obtain⟨w0,Cz⟩:∃w0,w0=w.alloc (.cells (madeCells (Value.agg #[.bool false,.bool false,.int .i64 0,.bool false,.int .i64 0,.string ⟨#[]⟩,.pointer none]).cells (ks.length*7)) 407):=⟨_,rfl⟩;rw[←Cz]at hmk Gb Bf;clear Cz;have hrl:=Lr (f:=El) (sz:=7) (fun _=>rfl) ks;have hcp:=Aaq (P:=Tryz.prog) w0 379 379 3 407 w.heap.size 0 ks.length ⟨kb2,0,none⟩ ks.length kc 7 (Bw El ks) Tryz.underlying379 z4xa hrl
  (fun j v hj=>by
   have hjl:j<(Bw El ks).length:=(List.getElem?_eq_some_iff.1 hj).1;obtain⟨g,k1,_,_,lg,hcell⟩:=Fo ho z4va;injection k1 with k1;injection k1 with k1;subst k1;have:(Addr.mk kb2 0 none).add j=⟨kb2,j,none⟩:=by simp[Addr.add];omega
   rw[this,World.cell?_of_block (Bf.block _ lg)];exact hcell j v hj)
  (fun j hj=>by
   rw[hrl]at hj;obtain⟨v,hv⟩:=Gb.cells (j / 7) (j % 7) z4va z4va;rw[show j / 7*7+j % 7=j by omega]at hv;rw[Nat.zero_add,hv];rfl)
  (fun j _=>Gb.frozen _)
  (fun v hv=>by
   simp only[Bw,List.mem_flatMap]at hv;obtain⟨x,_,hx⟩:=hv;exact Af7 x v hx)
 have hf0:=Gb.full (xs:=ks) (fun _=>rfl) rfl z4va;obtain⟨q1,q2,q3,q4,q5⟩:=Kv w.heap.size (Bw El ks) 0 w0;have A1:Below w.heap.size w (w0.setCells w.heap.size 0 (Bw El ks)):=⟨q1.trans Bf.os,q2.trans Bf.tape,q3.trans Bf.output,by rw[q4];exact Bf.size,fun k hk=>(q5 k z4va).trans (Bf.block k hk)⟩;generalize w0.setCells w.heap.size 0 (Bw El ks)=w1 at *;have B3:=A0 hf0;have A4:=A0 A1;have c1:=(World.cell?_of_block (A1.block hb lc)).trans hc;have lc1:=Nat.lt_of_lt_of_le lc A1.size;have c0:=(World.cell?_of_block (Bf.block hb lc)).trans hc;have lc0:=Nat.lt_of_lt_of_le lc Bf.size;have HS:=A0 hs;clear Gb Bf hf0 A1 q1 q2 q3 q4 q5 ho hs hrl;go_enter Tryz.func276,Tryz.ntmps276;go_wp2;go_loopg [20] st.length (fun k v wr=>∃(i:Nat) (ks':List Kn),v=.int .i64 i/\i+k=st.length/\ks'.length=ks.length/\La st ks=La (st.drop i) ks'/\wr.ownsRow 0 407 7 (.slice (some ⟨w.heap.size,0,none⟩) ks'.length ks.length) ks'.length (Bw El ks')/\Below w.heap.size w wr)
 case atStart=>exact⟨0,ks,rfl,by omega,rfl,by simp,B3.o,A4.o⟩
 case round=>
  obtain⟨i,ks',rfl,hik,hkl,hle,hor,hbr⟩:=hrel;have HBr:=A0 hbr;have HLe:=A0 hle;have HOr:=A0 hor;have lsr:=hbr.size;clear hle;by_cases hlt:i<st.length
  ·obtain⟨g,k1,_,hcap,lg,hcell⟩:=Fo HS.o.1 z4va;subst k1;have hcr:∀o,wr.cell? ⟨g,o,none⟩=w.cell? ⟨g,o,none⟩:=fun o=>World.cell?_of_block (hbr.block g lg);have lgr:=Nat.lt_of_lt_of_le lg hbr.size;have d0:=(hcr _).trans (hcell (i*8+0) _ ((D1 (f:=Es) (sz:=8) (fun _=>rfl) st i 0 hlt z4va).trans rfl));have d1:=(hcr _).trans (hcell (i*8+1) _ ((D1 (f:=Es) (sz:=8) (fun _=>rfl) st i 1 hlt z4va).trans rfl));have d2:=(hcr _).trans (hcell (i*8+2) _ ((D1 (f:=Es) (sz:=8) (fun _=>rfl) st i 2 hlt z4va).trans rfl));have d3:=(hcr _).trans (hcell (i*8+3) _ ((D1 (f:=Es) (sz:=8) (fun _=>rfl) st i 3 hlt z4va).trans rfl));have d4:=(hcr _).trans (hcell (i*8+4) _ ((D1 (f:=Es) (sz:=8) (fun _=>rfl) st i 4 hlt z4va).trans rfl));have d5:=(hcr _).trans (hcell (i*8+5) _ ((D1 (f:=Es) (sz:=8) (fun _=>rfl) st i 5 hlt z4va).trans rfl));have d6:=(hcr _).trans (hcell (i*8+6) _ ((D1 (f:=Es) (sz:=8) (fun _=>rfl) st i 6 hlt z4va).trans rfl));have d7:=(hcr _).trans (hcell (i*8+7) _ ((D1 (f:=Es) (sz:=8) (fun _=>rfl) st i 7 hlt z4va).trans rfl));replace d0:wr.cell? ⟨g,i*8,none⟩=some (.int .i64 (st[i].op:Nat)):=d0;have hu:=hst _ (List.getElem_mem hlt);have hll:=HLe.o;rw[List.drop_eq_getElem_cons hlt,La]at hll;clear hcr hcell hbr hor;generalize st[i]=u at *;by_cases hop:u.op=3
   ·have t3:((u.op:Int)==3)=true:=by rw[hop];rfl
    by_cases har:u.arg<(ks.length:Nat)
    ·obtain⟨j,hj⟩:∃j:Nat,u.arg=(j:Nat):=⟨u.arg.toNat,by omega⟩;rw[if_pos ⟨hop,by rw[hkl];exact har⟩,hj,Int.toNat_natCast]at hll;have hjl:j<ks'.length:=by omega
     have tj:((j:Nat):Int)<((ks.length:Nat):Int):=by omega
     have hjc:j<ks.length:=by omega
     have HLl:=A0 hll;have HPut:=A0 (Xt HOr.o (fun _=>rfl) j hjl En);obtain⟨z0,y0⟩:=M9 HOr.o j 0 hjl z4va;obtain⟨z1,y1⟩:=M9 HOr.o j 1 hjl z4va;obtain⟨z2,y2⟩:=M9 HOr.o j 2 hjl z4va;obtain⟨z3,y3⟩:=M9 HOr.o j 3 hjl z4va;obtain⟨z4,y4⟩:=M9 HOr.o j 4 hjl z4va;obtain⟨z5,y5⟩:=M9 HOr.o j 5 hjl z4va;obtain⟨z6,y6⟩:=M9 HOr.o j 6 hjl z4va;replace y0:wr.cell? ⟨w.heap.size,j*7,none⟩=some z0:=y0;have fz:∀o,wr.frozen? ⟨w.heap.size,o,none⟩=false:=A28 HOr.o;have lz:=block_lt_of_cell y0;rw[hj]at d1;clear hll hop har hj hu;go_wp2;go_roundg (gk-1)
     case measure=>omega
     case rel=>
      obtain⟨q1,q2,q3,q4,q5⟩:=Kv w.heap.size (El En) (j*7) wr;refine⟨i+1,ks'.set j En,by simp,by omega,by simp[hkl],HLl.o,B4 HPut.o (fun k _ hl=>Below.heap_alloc _ _ _ hl),?_⟩;have hbs:Below w.heap.size w (wr.setCells w.heap.size (j*7) (El En)):=⟨q1.trans HBr.o.os,q2.trans HBr.o.tape,q3.trans HBr.o.output,by rw[q4];exact HBr.o.size,fun k hk=>(q5 k z4va).trans (HBr.o.block k hk)⟩;exact Below.alloc hbs hbs.size _
    ·rw[if_neg (fun q=>har (by rw[←hkl];exact q.2))]at hll;have ta:¬u.arg<((ks.length:Nat):Int):=har;have HLl:=A0 hll;clear hll hop har hu;exact z2ja
   ·have t3:((u.op:Int)==3)=false:=by rw[beq_eq_false_iff_ne];omega
    rw[if_neg (fun q=>hop q.1)]at hll;have HLl:=A0 hll;clear hll hop hu;exact z2ja
  ·have hll:=HLe.o;rw[List.drop_eq_nil_of_le z4va,La]at hll;have HLl:=A0 hll;clear hll hor hbr;go_wp2;go_ret;refine⟨w.heap.size,rfl,?_,by rw[HLl.o];exact hkl,Nat.le_refl _,HBr.o⟩;have:=HOr.o;rw[HLl.o];rw[hkl]at this;exact this
theorem Ait{P:D7}{ps:List Kn}:∀(st:List Ac) (ab:List Kn),(K7 P ps ab st).length=st.length:=by
 intro st;induction st with
 | nil=>intro ab;rfl
 | cons i r ih=>intro ab;rw[K7,List.length_cons,ih,List.length_cons]
structure Rp (w : World) (n : Nat) (bet : Array Value) (wr : World) (qs : List Kn) : Prop where
 row:Gi 407 7 El (w.heap.size+1) wr n qs
 form:wr.heap[w.heap.size+2]?=some (.cells #[.int .i64 0,.slice none 0 0,.slice (some ⟨w.heap.size+1,0,none⟩) n n] 381 (0,0))
 bet:wr.heap[w.heap.size]?=some (.cells bet 41 (0,0))
 F7:Below w.heap.size w wr
theorem Rp.put{n:Nat}{bet:Array Value}{wr w3:World}{qs:List Kn}(h:Rp w n bet wr qs)(hb:Below wr.heap.size wr w3)(hq:qs.length<n)(x:Kn):Rp w n bet (w3.setCells (w.heap.size+1) (qs.length*7) (El x)) (qs++[x]):=by
 obtain⟨g1,g2,g3,g4,g5⟩:=Kv (w.heap.size+1) (El x) (qs.length*7) w3;have l1:=A5 h.form;have l2:=A5 h.bet;exact⟨(h.row.keep (hb.block _ h.row.lt)).put (fun _=>rfl) hq x,(g5 _ z4va).trans ((hb.block _ l1).trans h.form),(g5 _ z4va).trans ((hb.block _ l2).trans h.bet),⟨g1.trans (hb.os.trans h.F7.os),g2.trans (hb.tape.trans h.F7.tape),g3.trans (hb.output.trans h.F7.output),by rw[g4];exact Nat.le_trans h.F7.size hb.size,fun k hk=>(g5 k z4va).trans ((hb.block k (Nat.lt_of_lt_of_le hk h.F7.size)).trans (h.F7.block k hk))⟩⟩
theorem Adh{K:Nat->Prop}{pb:Nat}{P:D7}(hp:K3 D w pb P)(hlo:∀g,D g->g<w.heap.size){b:Cx}{j:Nat}(hj:b.fn=(j:Nat)){f:Fn}(hf:P.fns[j]?=some f){ka ia:Option Addr}{kc ic:Nat}(hkv:Lg K w (.slice ka b.kinds.length kc) (ints b.kinds))(hiv:Lg K w (.slice ia b.ints.length ic) (ints b.ints))(hfit:∀f∈P.fns,No P.fns.length 1000 f)(hst:f.steps.length<=90000)(hN:P.fns.length<=1000000) :
  Calls Tryz.prog 246 #[.pointer (some ⟨pb,0,none⟩),.agg #[.int .i64 b.fn,.int .i64 b.after,.slice ka b.kinds.length kc,.slice ia b.ints.length ic]] w fun e w'=>∃fb E,e=.returned (.pointer (some ⟨fb,0,none⟩))/\M0 E w' (some ⟨fb,0,none⟩) (some (I0 P b f))/\(∀g,E g->w.heap.size<=g/\g<w'.heap.size)/\Below w.heap.size w w':=by
 rw[hj];have HJ:=A0 hj;clear hj;have hff:=hfit f (List.mem_of_getElem? hf);have hpar:f.params<=1000:=by have:=hff.1;have:=hff.2.1;omega
 obtain⟨hb,hc,sa,sn,sc,p3,hcc,hDp,hDb,lp,lh,hlt,e1,e2,e3,hown⟩:=hp.Ub hf;have Bf:=Jw w (.cells #[.int .i64 (j:Nat),.int .i64 b.after,.slice ka b.kinds.length kc,.slice ia b.ints.length ic] 41);have hq0:=heap_alloc_new w (.cells #[.int .i64 (j:Nat),.int .i64 b.after,.slice ka b.kinds.length kc,.slice ia b.ints.length ic] 41);obtain⟨w0,Cz⟩:∃w0,w0=w.alloc (.cells #[.int .i64 (j:Nat),.int .i64 b.after,.slice ka b.kinds.length kc,.slice ia b.ints.length ic] 41):=⟨_,rfl⟩;have Gt:w0.heap.size=w.heap.size+1:=by rw[Cz];simp
 rw[←Cz]at Bf hq0;have hcw:∀(k o:Nat),k<w.heap.size->w0.cell? ⟨k,o,none⟩=w.cell? ⟨k,o,none⟩:=fun k o hk=>World.cell?_of_block (Bf.block k hk);have p3':=(hcw _ _ lp).trans p3;have e1':=(hcw _ _ lh).trans e1;have n0:=A2 hq0 0 _ rfl;have Am:=A0 Cz;have lp0:=Nat.lt_of_lt_of_le lp Bf.size;have lh0:=Nat.lt_of_lt_of_le lh Bf.size;have lq0:=A5 hq0;have hb0':=Bf;have hq0':=hq0;clear hcw;obtain⟨w1,Fu⟩:∃w1,w1=w0.drew:=⟨_,rfl⟩;have A1:Below w.heap.size w w1:=by rw[Fu];exact Below.drew Bf
 have hq1:w1.heap[w.heap.size]?=some (.cells #[.int .i64 (j:Nat),.int .i64 b.after,.slice ka b.kinds.length kc,.slice ia b.ints.length ic] 41 (0,0)):=by rw[Fu];exact hq0
 have Ak:w1.heap.size=w.heap.size+1:=by rw[Fu];exact Gt
 have HW1:=A0 Fu;have hmk:=Pu (P:=Tryz.prog) 379 407 (.agg #[.bool false,.bool false,.int .i64 0,.bool false,.int .i64 0,.string ⟨#[]⟩,.pointer none]) 7 56 Tryz.underlying379 Xd .i64 .i64 f.params z4va z4va w1;have Gb:=Gi.start (T:=407) (sz:=7) (f:=El) w1 (Value.agg #[.bool false,.bool false,.int .i64 0,.bool false,.int .i64 0,.string ⟨#[]⟩,.pointer none]).cells f.params;have A8:Below w.heap.size w (w1.alloc (.cells (madeCells (Value.agg #[.bool false,.bool false,.int .i64 0,.bool false,.int .i64 0,.string ⟨#[]⟩,.pointer none]).cells (f.params*7)) 407)):=Below.alloc A1 A1.size _;have F1:=alloc_old (o':=.cells (madeCells (Value.agg #[.bool false,.bool false,.int .i64 0,.bool false,.int .i64 0,.string ⟨#[]⟩,.pointer none]).cells (f.params*7)) 407) hq1;have B0:(w1.alloc (.cells (madeCells (Value.agg #[.bool false,.bool false,.int .i64 0,.bool false,.int .i64 0,.string ⟨#[]⟩,.pointer none]).cells (f.params*7)) 407)).heap.size=w.heap.size+2:=by simp[Ak]
 rw[Ak]at hmk Gb;obtain⟨w2,Fk⟩:∃w2,w2=w1.alloc (.cells (madeCells (Value.agg #[.bool false,.bool false,.int .i64 0,.bool false,.int .i64 0,.string ⟨#[]⟩,.pointer none]).cells (f.params*7)) 407):=⟨_,rfl⟩;rw[←Fk]at hmk Gb A8 F1 B0;clear Fk;have p31:=(World.cell?_of_block (A1.block pb lp)).trans p3;have e11:=(World.cell?_of_block (A1.block hb lh)).trans e1;have lp1:=Nat.lt_of_lt_of_le lp A1.size;have lh1:=Nat.lt_of_lt_of_le lh A1.size;have HN2:=A0 Gb;have Aa:=A0 A8;have Gy:=A0 F1;have Ai:=A0 B0;have HPr:=A0 hp;clear Cz Fu Gb A8 F1 Bf hq0 hb0' hq0' Gt Ak hq1 A1 B0 hp;go_enter Tryz.func246,Tryz.ntmps246;go_wp2;rw[←Am.o];refine Ih 7 z4xa z4xa ?_;simp only[List.take_succ_cons,List.take_zero,List.drop_succ_cons,List.drop_zero];iterate 7 (refine Ez (fun K' hK'=>?_);go_simp;refine hK' _ ?_;clear hK' K')
 refine Ig ?_;show wpList _ _ _ _ _ w0.drew;rw[←HW1.o];clear p3' e1' n0 lp0 lh0 lq0;go_wp2;rw[Ai.o];have hI0:Rp w f.params #[.int .i64 (j:Nat),.int .i64 b.after,.slice ka b.kinds.length kc,.slice ia b.ints.length ic] (w2.alloc (.cells #[.int .i64 0,.slice none 0 0,.slice (some ⟨w.heap.size+1,0,none⟩) f.params f.params] 381)) []:=by
  refine⟨HN2.o.keep (Below.heap_alloc _ _ _ HN2.o.lt),?_,alloc_old Gy.o,Below.alloc Aa.o Aa.o.size _⟩;rw[←Ai.o];exact heap_alloc_new _ _
 have Aq:=A0 hI0;clear hI0 HN2 Gy Aa;go_loopg [28] f.params (fun k v wr=>∃i:Nat,v=.int .i64 i/\i+k=f.params/\Rp w f.params #[.int .i64 (j:Nat),.int .i64 b.after,.slice ka b.kinds.length kc,.slice ia b.ints.length ic] wr ((List.range i).map (Jm b)))
 case atStart=>exact⟨0,rfl,by omega,Aq.o⟩
 case round=>
  obtain⟨i,rfl,hik,hI⟩:=hrel;have HI:=A0 hI;have f2:=A2 hI.form 2 _ rfl;have lf:=A5 hI.form;have m0:=A2 hI.bet 0 _ rfl;have m1:=A2 hI.bet 1 _ rfl;have m2:=A2 hI.bet 2 _ rfl;have m3:=A2 hI.bet 3 _ rfl;have lm:=A5 hI.bet;by_cases hlt:i<f.params
  ·have hbd:Below w.heap.size w wr.drew:=Below.drew hI.F7;have HBt:=A0 (A8t (w:=wr.drew) (b:=b) i (hkv.keep (K':=K) (fun g hg hl=>⟨hbd.block g hl,hg⟩) hbd.size) (hiv.keep (K':=K) (fun g hg hl=>⟨hbd.block g hl,hg⟩) hbd.size));rw[HJ.o]at HBt;have hql:((List.range i).map (Jm b)).length=i:=by simp
   have HPut:=A0 (fun(w3:World) (hb:Below wr.heap.size wr w3)=>HI.o.put hb (by rw[hql];exact hlt) (Jm b i));rw[hql]at HPut;have HRg:Hid ((List.range i).map (Jm b)++[Jm b i]=(List.range (i+1)).map (Jm b)):=by show _=_;rw[List.range_succ,List.map_append];rfl
   rw[HRg.o]at HPut;have HRw:=A0 hI.row;have lrw:=hI.row.lt;unfold KP B9 at HBt;unfold El at HPut;generalize Jm b i=x at *;clear hI hbd hql;have HFm:=A0 HI.o.form;go_wp2;go_region_law (refine Eo rfl 275 _ _ rfl #[.agg #[.int .i64 (j:Nat),.int .i64 b.after,.slice ka b.kinds.length kc,.slice ia b.ints.length ic],.int .i64 (i:Nat)] z4xa HBt.o ?_;rintro e w3 ⟨rfl,Aj⟩;refine⟨_,rfl,?_⟩;have hb3':Below wr.heap.size wr w3:=Below.trans (b:=wr.drew) ⟨rfl,rfl,rfl,Nat.le_refl _,fun _ _=>rfl⟩ Aj;have hrw3:=HRw.o.keep (w':=w3) (hb3'.block _ lrw);have hfm3:=(hb3'.block _ lf).trans HFm.o;have f23:=A2 hfm3 2 _ rfl;have lf3:=A5 hfm3;obtain⟨z0,y0⟩:=hrw3.cells i 0 hlt z4va;obtain⟨z1,y1⟩:=hrw3.cells i 1 hlt z4va;obtain⟨z2,y2⟩:=hrw3.cells i 2 hlt z4va;obtain⟨z3,y3⟩:=hrw3.cells i 3 hlt z4va;obtain⟨z4,y4⟩:=hrw3.cells i 4 hlt z4va;obtain⟨z5,y5⟩:=hrw3.cells i 5 hlt z4va;obtain⟨z6,y6⟩:=hrw3.cells i 6 hlt z4va;replace y0:w3.cell? ⟨w.heap.size+1,i*7,none⟩=some z0:=y0;have fz:=hrw3.frozen;have lr3:=hrw3.lt;have HNx:=A0 (HPut.o w3 hb3');clear Aj hb3' hrw3 hfm3)
   all_goals
    go_wp2;go_roundg (gk-1)
    case measure=>omega
    case rel=>exact⟨i+1,by simp,by omega,HNx.o⟩
  ·have hi:i=f.params:=by omega
   subst hi;have hbr:=hI.F7;have hks:((List.range f.params).map (Jm b)).length=f.params:=by simp
   have hrow0:=hI.row.done (fun _=>rfl) hks z4va;have hce3:=(World.cell?_of_block (hbr.block hb lh)).trans e3;have hce2:=(World.cell?_of_block (hbr.block hb lh)).trans e2;have hown':=hown.keep (D':=D) (w':=wr) (fun g hg hl=>⟨hbr.block g hl,hg⟩);have HPr':=A0 (HPr.o.keep (E':=D) (w':=wr) (fun g hg hl=>⟨hbr.block g hl,hg⟩));have HFm:=A0 hI.form;have HKr:Hid (∀x∈(List.range f.params).map (Jm b),x.like.r=none):=fun x hx=>by
    simp only[List.mem_map]at hx;obtain⟨i,_,rfl⟩:=hx;exact W4 b i
   clear hI;have HNw:Hid (I0 P b f=⟨f.slots,K7 P (La f.steps ((List.range f.params).map (Jm b))) [] f.steps,(List.range f.params).map (Jm b)⟩):=rfl;generalize (List.range f.params).map (Jm b)=ks at *;rw[←hks]at hrow0;have HRow:=A0 hrow0;have HLs:=A0 (Afr (w:=wr) (fo:=j*4) hce3 hown' (fun i hi=>(hff.2.2 i hi).1) hst hrow0 z4va);rw[hks]at HLs;have lbr:=Nat.lt_of_lt_of_le lh hbr.size;have HOw:=A0 hown';have HBr:=A0 hbr;clear hrow0 hown';go_wp2_with fail
   refine HLs.o.mono ?_;rintro e w4 ⟨tb,rfl,Cl,hl4,ht4,B8⟩;have hfm4:=(B8.block _ lf).trans HFm.o;have HFm4:=A0 hfm4;have lf4:=A5 hfm4;have Cn:Hid (Below w.heap.size w w4):=hbr.trans (B8.mono hbr.size);have hb45:=Jw w4 (.cells #[.pointer (some ⟨pb,0,none⟩),.slice (some ⟨tb,0,none⟩) f.params f.params,.slice none 0 0] 414);have hq45:=heap_alloc_new w4 (.cells #[.pointer (some ⟨pb,0,none⟩),.slice (some ⟨tb,0,none⟩) f.params f.params,.slice none 0 0] 414);have ltb:tb<w4.heap.size:=Bn Cl tb rfl;have hsz4:w.heap.size+2<wr.heap.size:=lf;have hkw4:∀g,D g->w4.heap[g]?=w.heap[g]?:=fun g hg=>Cn.o.block g (hlo g hg);have hMk:E9 (fun g=>D g\/g=tb) w4.heap.size pb P (La f.steps ks) (some ⟨tb,0,none⟩) f.params (w4.alloc (.cells #[.pointer (some ⟨pb,0,none⟩),.slice (some ⟨tb,0,none⟩) f.params f.params,.slice none 0 0] 414)) [] none 0:=by
    have hl5:(La f.steps ks).length=f.params:=hl4;refine⟨⟨by rw[hl5];exact hq45,rfl,⟨rfl,.inl ⟨rfl,rfl⟩⟩,by simp[Value.ownBlock]⟩,⟨?_,fun g hg=>?_⟩,HPr.o.keep (fun g hg hl=>⟨(Below.heap_alloc _ _ _ (Nat.lt_of_lt_of_le hl Cn.o.size)).trans (Cn.o.block g hl),.inl hg⟩),⟨fun hd=>?_,fun g hg=>by simp[Value.ownBlock]at hg⟩,fun g hg=>?_,⟨by simp,by rw[hl5];exact hpar⟩⟩
    ·rw[hl5];have:=B4 (w':=w4.alloc (.cells #[.pointer (some ⟨pb,0,none⟩),.slice (some ⟨tb,0,none⟩) f.params f.params,.slice none 0 0] 414)) Cl (fun k _ hl=>Below.heap_alloc _ _ _ hl);exact this
    ·rw[hl5]at hg;simp only[Value.ownBlock,Option.some.injEq]at hg;exact .inr hg.symm
    ·rcases hd with hd|hd
     ·have:=hlo _ hd;have:=Cn.o.size;omega
     ·omega
    ·rw[World.size_alloc];rcases hg with hg|hg
     ·have:=hlo _ hg;have:=Cn.o.size;omega
     ·omega
   have hBd:L0 (fun g=>D g\/g=tb) (w4.alloc (.cells #[.pointer (some ⟨pb,0,none⟩),.slice (some ⟨tb,0,none⟩) f.params f.params,.slice none 0 0] 414)) hb (j*4+2) f.slots f.steps sa sn sc:=by
    have hcw:∀o,(w4.alloc (.cells #[.pointer (some ⟨pb,0,none⟩),.slice (some ⟨tb,0,none⟩) f.params f.params,.slice none 0 0] 414)).cell? ⟨hb,o,none⟩=w.cell? ⟨hb,o,none⟩:=fun o=>World.cell?_of_block ((Below.heap_alloc _ _ _ (Nat.lt_of_lt_of_le lh Cn.o.size)).trans (Cn.o.block hb lh));exact⟨.inl hDb,(hcw _).trans e2,(hcw _).trans e3,hown.keep (fun g hg hl=>⟨(Below.heap_alloc _ _ _ (Nat.lt_of_lt_of_le hl Cn.o.size)).trans (Cn.o.block g hl),.inl hg⟩)⟩
   have HBy:=A0 (Aev hMk hBd hff.2.2 hN (fun g hg=>by have:=(hfit g hg).1;have:=(hfit g hg).2.1;omega) hst);have C2:=A0 Cl;have HBw4:=A0 B8;clear hMk hBd hb45 hq45 Cl hfm4 B8 HLs;have HRow4:Hid (w4.ownsRow 0 407 7 (.slice (some ⟨w.heap.size+1,0,none⟩) f.params f.params) f.params (Bw El ks)):=by
    have:=B4 (w':=w4) HRow.o (fun k hk hl=>HBw4.o.block k hl);rw[hks]at this;exact this
   go_wp2_with fail
   refine HBy.o.mono ?_;rintro e w5 ⟨tb2,rfl,Ea,ht5,hf5⟩;rw[World.size_alloc]at ht5;have hsz5:=hf5.size;rw[World.size_alloc]at hsz5;have hk5:∀k,k<w4.heap.size->w5.heap[k]?=w4.heap[k]?:=fun k hk=>(hf5.block k (by rw[World.size_alloc];omega) z4va z50a).trans (Below.heap_alloc _ _ _ hk);have hfm5:=(hk5 _ lf4).trans HFm4.o;have HFm5:=A0 hfm5;have s0:=A2 hfm5 0 _ rfl;have s1:=A2 hfm5 1 _ rfl;have s2:=A2 hfm5 2 _ rfl;have fs:=Bd hfm5;have lf5:=A5 hfm5;have ltb2:tb2<w5.heap.size:=Bn Ea tb2 rfl;have Cb:=A0 Ea;have HR5:=A0 (B4 (w':=w5) HRow4.o (fun k hk hl=>hk5 k hl));have E4:Hid (Below w.heap.size w w5):=⟨hf5.os.trans Cn.o.os,hf5.tape.trans Cn.o.tape,hf5.output.trans Cn.o.output,by have:=Cn.o.size;omega,fun k hk=>(hk5 k z4va).trans (Cn.o.block k hk)⟩;have ls4:=Cn.o.size;clear hfm5 Ea hf5 hk5 HBy;go_wp2;go_ret;have hset:∀k,k≠w.heap.size+2->((w5.setCell ⟨w.heap.size+2,0,none⟩ (.int .i64 (f.slots:Nat))).setCell ⟨w.heap.size+2,1,none⟩ (.slice (some ⟨tb2,0,none⟩) f.steps.length f.steps.length)).heap[k]?=w5.heap[k]?:=fun k hk=>(Below.heap_setCell _ _ _ _ z5sa).trans (Below.heap_setCell _ _ _ _ z5sa);have hfin:((w5.setCell ⟨w.heap.size+2,0,none⟩ (.int .i64 (f.slots:Nat))).setCell ⟨w.heap.size+2,1,none⟩ (.slice (some ⟨tb2,0,none⟩) f.steps.length f.steps.length)).heap[w.heap.size+2]?=some (.cells #[.int .i64 (f.slots:Nat),.slice (some ⟨tb2,0,none⟩) f.steps.length f.steps.length,.slice (some ⟨w.heap.size+1,0,none⟩) f.params f.params] 381 (0,0)):=heap_set (j:=1) (heap_set (j:=0) HFm5.o _) _;have hsz9:((w5.setCell ⟨w.heap.size+2,0,none⟩ (.int .i64 (f.slots:Nat))).setCell ⟨w.heap.size+2,1,none⟩ (.slice (some ⟨tb2,0,none⟩) f.steps.length f.steps.length)).heap.size=w5.heap.size:=by simp[World.setCell]
   refine⟨w.heap.size+2,fun g=>g=w.heap.size+2\/g=w.heap.size+1\/g=tb2,rfl,?_,?_,?_⟩
   ·rw[HNw.o];refine⟨w.heap.size+2,_,_,_,_,_,_,rfl,.inl rfl,hfin,⟨?_,fun g hg=>?_⟩,⟨?_,fun g hg=>?_⟩⟩
    ·have hql:(K7 P (La f.steps ks) [] f.steps).length=f.steps.length:=Ait _ _;rw[hql];exact B4 Cb.o (fun k hk _=>hset k z5na)
    ·simp only[Value.ownBlock,Option.some.injEq]at hg;exact .inr (.inr hg.symm)
    ·have:=B4 (w':=((w5.setCell ⟨w.heap.size+2,0,none⟩ (.int .i64 (f.slots:Nat))).setCell ⟨w.heap.size+2,1,none⟩ (.slice (some ⟨tb2,0,none⟩) f.steps.length f.steps.length))) HR5.o (fun k hk _=>hset k z5na);rw[hks];exact this
    ·simp only[Value.ownBlock,Option.some.injEq]at hg;exact .inr (.inl hg.symm)
   ·intro g hg;rw[hsz9];rcases hg with rfl|rfl|rfl <;> omega
   ·exact Below.setCell (Below.setCell E4.o (by exact Nat.le_add_right _ _) _) (by exact Nat.le_add_right _ _) _
end
end Go.Proofs.YtjdlndhfaaolaaaGreatDoor
