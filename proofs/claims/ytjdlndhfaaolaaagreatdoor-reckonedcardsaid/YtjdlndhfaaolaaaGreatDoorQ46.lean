import Derived.Test.YtjdlndhfaaolaaaGreatDoorQ40
import Derived.Test.YtjdlndhfaaolaaaGreatDoorQ44
import Derived.Test.YtjdlndhfaaolaaaGreatDoorQ45
set_option maxHeartbeats 20000000
namespace Go.Proofs.YtjdlndhfaaolaaaGreatDoor
section
set_option maxRecDepth 100000
open Go.RowKit
open Go.Deep (BT)
variable {D:Nat->Prop} {kb pb:Nat} {P:Db} {ps:List Kn} {pa:Option Addr} {pc:Nat} {w w':World} {ab:List Kn} {va:Option Addr} {vc:Nat}
theorem Aha(w:World)(i:Ad)(h:i.op=0\/i.op=1\/i.op=2\/i.op=6\/i.op=43):Calls Tryz.prog 306 #[.pointer (some ⟨kb,0,none⟩),Ac i] w (KP w (.int .i64 0)):=by
 obtain⟨op,arg,line,v⟩:=i;unfold Ac;dsimp only at *;rcases h with rfl|rfl|rfl|rfl|rfl <;>
  (go_enter Tryz.func306,Tryz.ntmps306;go_wp2;go_ret;exact⟨rfl,Jn _ _⟩)
theorem Aeb(w:World)(i:Ad)(h:i.op=36):Calls Tryz.prog 306 #[.pointer (some ⟨kb,0,none⟩),Ac i] w (KP w (.int .i64 i.arg)):=by
 obtain⟨op,arg,line,v⟩:=i;unfold Ac;dsimp only at *;subst h;
  (go_enter Tryz.func306,Tryz.ntmps306;go_wp2;go_ret;exact⟨rfl,Jn _ _⟩)
theorem Aej(w:World)(i:Ad)(h:i.op=40):Calls Tryz.prog 306 #[.pointer (some ⟨kb,0,none⟩),Ac i] w (KP w (.int .i64 3)):=by
 obtain⟨op,arg,line,v⟩:=i;unfold Ac;dsimp only at *;subst h;
  (go_enter Tryz.func306,Tryz.ntmps306;go_wp2;go_ret;exact⟨rfl,Jn _ _⟩)
theorem A9c(w:World)(i:Ad)(h:i.op=12\/i.op=15\/i.op=17\/i.op=19\/i.op=21\/i.op=38\/i.op=39\/i.op=25\/i.op=26\/i.op=28\/i.op=29\/i.op=30\/i.op=31):Calls Tryz.prog 306 #[.pointer (some ⟨kb,0,none⟩),Ac i] w (KP w (.int .i64 2)):=by
 obtain⟨op,arg,line,v⟩:=i;unfold Ac;dsimp only at *;rcases h with rfl|rfl|rfl|rfl|rfl|rfl|rfl|rfl|rfl|rfl|rfl|rfl|rfl <;>
  (go_enter Tryz.func306,Tryz.ntmps306;go_wp2;go_ret;exact⟨rfl,Jn _ _⟩)
theorem A7n(w:World)(i:Ad)(h:¬(i.op=0\/i.op=1\/i.op=2\/i.op=6\/i.op=43\/i.op=36\/i.op=42\/i.op=40\/i.op=12\/i.op=15\/i.op=17\/i.op=19\/i.op=21\/i.op=38\/i.op=39\/i.op=25\/i.op=26\/i.op=28\/i.op=29\/i.op=30\/i.op=31)):Calls Tryz.prog 306 #[.pointer (some ⟨kb,0,none⟩),Ac i] w (KP w (.int .i64 1)):=by
 have t0:((i.op:Int)==0)=false:=by rw[beq_eq_false_iff_ne];omega
 have t1:((i.op:Int)==1)=false:=by rw[beq_eq_false_iff_ne];omega
 have t2:((i.op:Int)==2)=false:=by rw[beq_eq_false_iff_ne];omega
 have t6:((i.op:Int)==6)=false:=by rw[beq_eq_false_iff_ne];omega
 have t43:((i.op:Int)==43)=false:=by rw[beq_eq_false_iff_ne];omega
 have t36:((i.op:Int)==36)=false:=by rw[beq_eq_false_iff_ne];omega
 have t42:((i.op:Int)==42)=false:=by rw[beq_eq_false_iff_ne];omega
 have t40:((i.op:Int)==40)=false:=by rw[beq_eq_false_iff_ne];omega
 have t12:((i.op:Int)==12)=false:=by rw[beq_eq_false_iff_ne];omega
 have t15:((i.op:Int)==15)=false:=by rw[beq_eq_false_iff_ne];omega
 have t17:((i.op:Int)==17)=false:=by rw[beq_eq_false_iff_ne];omega
 have t19:((i.op:Int)==19)=false:=by rw[beq_eq_false_iff_ne];omega
 have t21:((i.op:Int)==21)=false:=by rw[beq_eq_false_iff_ne];omega
 have t38:((i.op:Int)==38)=false:=by rw[beq_eq_false_iff_ne];omega
 have t39:((i.op:Int)==39)=false:=by rw[beq_eq_false_iff_ne];omega
 have t25:((i.op:Int)==25)=false:=by rw[beq_eq_false_iff_ne];omega
 have t26:((i.op:Int)==26)=false:=by rw[beq_eq_false_iff_ne];omega
 have t28:((i.op:Int)==28)=false:=by rw[beq_eq_false_iff_ne];omega
 have t29:((i.op:Int)==29)=false:=by rw[beq_eq_false_iff_ne];omega
 have t30:((i.op:Int)==30)=false:=by rw[beq_eq_false_iff_ne];omega
 have t31:((i.op:Int)==31)=false:=by rw[beq_eq_false_iff_ne];omega
 clear h;unfold Ac;go_enter Tryz.func306,Tryz.ntmps306;go_wp2;go_ret;exact⟨rfl,Jn _ _⟩
theorem A7p(h:E1 D kb pb P ps pa pc w ab va vc)(i:Ad)(ho:i.op=42)(j:Nat)(hj:i.arg=(j:Nat))(f:Fn)(hf:P.fns[j]?=some f)(hN:P.fns.length<=1000000):Calls Tryz.prog 306 #[.pointer (some ⟨kb,0,none⟩),Ac i] w (KP w (.int .i64 (f.params:Nat))):=by
 have c0:=A2 h.st.blk 0 _ rfl;have lb:=A4 h.st.blk;obtain⟨hb,hc,sa,sn,sc,p3,hcc,_,_,lp,lh,hlt,d1,_,_,_⟩:=h.prog.Sg hf;have hfew:P.fns.length<=1000000:=hN;have t42:((i.op:Int)==42)=true:=by rw[ho];rfl
 have t0:((i.op:Int)==0)=false:=by rw[ho];rfl
 have t1:((i.op:Int)==1)=false:=by rw[ho];rfl
 have t2:((i.op:Int)==2)=false:=by rw[ho];rfl
 have t6:((i.op:Int)==6)=false:=by rw[ho];rfl
 have t43:((i.op:Int)==43)=false:=by rw[ho];rfl
 have t36:((i.op:Int)==36)=false:=by rw[ho];rfl
 clear h ho hf;unfold Ac;rw[hj];go_enter Tryz.func306,Tryz.ntmps306;go_wp2;go_quiet (fail)
 go_wp2;go_ret;exact⟨rfl,S0 (Jn _ _) _⟩
theorem Ye(h:E1 D kb pb P ps pa pc w ab va vc)(i:Ad)(ha:0<=i.arg)(hc:i.op=42->i.arg.toNat<P.fns.length)(hN:P.fns.length<=1000000):Calls Tryz.prog 306 #[.pointer (some ⟨kb,0,none⟩),Ac i] w (KP w (.int .i64 (Gu P i))):=by
 unfold Gu;by_cases h0:i.op=0\/i.op=1\/i.op=2\/i.op=6\/i.op=43
 ·rw[if_pos h0];exact Aha w i h0
 rw[if_neg h0];by_cases h36:i.op=36
 ·rw[if_pos h36];exact Aeb w i h36
 rw[if_neg h36];by_cases h42:i.op=42
 ·rw[if_pos h42];have hl:=hc h42;rw[List.getElem?_eq_getElem hl];exact A7p h i h42 i.arg.toNat (by omega) _ (List.getElem?_eq_getElem hl) hN
 rw[if_neg h42];by_cases h40:i.op=40
 ·rw[if_pos h40];exact Aej w i h40
 rw[if_neg h40];by_cases h2:i.op=12\/i.op=15\/i.op=17\/i.op=19\/i.op=21\/i.op=38\/i.op=39\/i.op=25\/i.op=26\/i.op=28\/i.op=29\/i.op=30\/i.op=31
 ·rw[if_pos h2];exact A9c w i h2
 rw[if_neg h2];exact A7n w i (by omega)
def Ni(D:Nat->Prop)(kb pb:Nat)(P:Db)(ps:List Kn)(pa:Option Addr)(pc:Nat)(w:World)(row:Option Nat)(ab':List Kn)(w':World):Prop:=∃va' vc',E1 D kb pb P ps pa pc w' ab' va' vc'/\Fm kb row w w'/\∀g,(Value.slice va' ab'.length vc').ownBlock=some g->row=some g\/w.heap.size<=g
theorem E1.M6(h:E1 D kb pb P ps pa pc w ab va vc){cs:Array Value}{va':Option Addr}{vn' vc':Nat}{ab':List Kn}(hs:Dc 407 7 Ei kb 2 w' cs 414 va' vn' vc' ab')(hcs:cs=#[.pointer (some ⟨pb,0,none⟩),.slice pa ps.length pc,.slice va' ab'.length vc'])(hvn:vn'=ab'.length)(hf:Fm kb (Value.slice va ab.length vc).ownBlock w w')(ho:∀g,(Value.slice va' ab'.length vc').ownBlock=some g->(Value.slice va ab.length vc).ownBlock=some g\/w.heap.size<=g)(hl:ab'.length<=100000):E1 D kb pb P ps pa pc w' ab' va' vc':=by
 subst hcs hvn;have hk:∀g,D g->g<w.heap.size->w'.heap[g]?=w.heap[g]?/\D g:=fun g hg hlt=>⟨hf.block g hlt (fun e=>h.nd.1 (by rw[←e];exact hg)) (fun e=>h.nd.2 g e hg),hg⟩;refine⟨hs,h.par.keep hk,h.prog.keep hk,⟨h.nd.1,fun g hg hd=>?_⟩,fun g hg=>Nat.lt_of_lt_of_le (h.lo g hg) hf.size,⟨hl,h.Bq.2⟩⟩;rcases ho g hg with e|e
 ·exact h.nd.2 g e hd
 ·have:=h.lo g hd;omega
theorem Yg(h:E1 D kb pb P ps pa pc w ab va vc)(n:Int):Calls Tryz.prog 304 #[.pointer (some ⟨kb,2,none⟩),.int .i64 n] w fun e w'=>e=.returned (.tuple #[])/\Ni D kb pb P ps pa pc w (Value.slice va ab.length vc).ownBlock (Lu n ab) w':=by
 unfold Lu;by_cases h0:n<0
 ·rw[if_pos h0];refine(A89 h.st n h0).mono ?_;rintro e w1 ⟨rfl,rfl⟩;exact⟨rfl,va,vc,h,Fm.refl _ _ _,fun g hg=>.inl hg⟩
 ·rw[if_neg h0];by_cases h1:n.toNat<=ab.length
  ·have:=Aao h.st n.toNat h1 (by simp);rw[show((n.toNat:Nat):Int)=n by omega]at this;refine this.mono ?_;rintro e w1 ⟨rfl,hs,hf⟩;have hl:(ab.take n.toNat).length=n.toNat:=by simp;omega
   refine⟨rfl,va,vc,h.M6 hs (by rw[hl];simp) hl.symm hf (fun g hg=>.inl ((M9 _ _ _ _).trans hg)) (by rw[hl];have:=h.Bq.1;omega),hf,fun g hg=>.inl ((M9 _ _ _ _).trans hg)⟩
  ·rw[List.take_of_length_le (by omega)];refine(Alq h.st n (by omega)).mono ?_;rintro e w1 ⟨rfl,rfl⟩;exact⟨rfl,va,vc,h,Fm.refl _ _ _,fun g hg=>.inl hg⟩
theorem A8i(h:E1 D kb pb P ps pa pc w ab va vc)(hl:ab.length+1<=100000)(x:Kn):Calls Tryz.prog 307 #[.pointer (some ⟨kb,2,none⟩),B5 x] w fun e w'=>e=.returned (.tuple #[])/\Ni D kb pb P ps pa pc w (Value.slice va ab.length vc).ownBlock (ab++[x]) w':=by
 refine(Ac3 h.st (by omega) x (by simp)).mono ?_;rintro e w1 ⟨rfl,g,cap,hs,hat,hf⟩;have ho:∀k,(Value.slice (some ⟨g,0,none⟩) (ab++[x]).length cap).ownBlock=some k->(Value.slice va ab.length vc).ownBlock=some k\/w.heap.size<=k:=fun k hk=>by
  simp only[Value.ownBlock,Option.some.injEq]at hk;rw[←hk];exact hat
 exact⟨rfl,some ⟨g,0,none⟩,cap,h.M6 hs (by simp) (by simp) hf ho (by simp;omega),hf,ho⟩
theorem Ni.trans{row:Option Nat}{ab1 ab2:List Kn}{w1:World}{va1:Option Addr}{vc1:Nat}(hf:Fm kb row w w1)(ho:∀g,(Value.slice va1 ab1.length vc1).ownBlock=some g->row=some g\/w.heap.size<=g)(h2:Ni D kb pb P ps pa pc w1 (Value.slice va1 ab1.length vc1).ownBlock ab2 w'):Ni D kb pb P ps pa pc w row ab2 w':=by
 obtain⟨va2,vc2,m2,f2,o2⟩:=h2;refine⟨va2,vc2,m2,⟨f2.os.trans hf.os,f2.tape.trans hf.tape,f2.output.trans hf.output,Nat.le_trans hf.size f2.size,fun k hk h1 h3=>?_⟩,fun g hg=>?_⟩
 ·refine(f2.block k (Nat.lt_of_lt_of_le hk hf.size) h1 (fun e=>?_)).trans (hf.block k hk h1 h3);rcases ho k e with q|q
  ·exact h3 q
  ·omega
 ·rcases o2 g hg with q|q
  ·exact ho g q
  ·exact .inr (Nat.le_trans hf.size q)
theorem Ajk(i:Ad)(ha:0<=i.arg)(ha2:i.arg<=1000000)(hp:∀f∈P.fns,f.params<=1000):0<=Gu P i/\Gu P i<=1000000:=by
 unfold Gu;split
 ·omega
 split
 ·exact⟨ha,ha2⟩
 split
 ·split
  ·rename_i f hf;have:=hp f (List.mem_of_getElem? hf);omega
  ·omega
 split
 ·omega
 split <;> omega
theorem Aa7(h:E1 D kb pb P ps pa pc w ab va vc)(i:Ad)(ha:0<=i.arg)(ha2:i.arg<=1000000)(hc:i.op=42->i.arg.toNat<P.fns.length)(hN:P.fns.length<=1000000)(hp:∀f∈P.fns,f.params<=1000)(hl:ab.length+1<=100000) :
  Calls Tryz.prog 293 #[.pointer (some ⟨kb,0,none⟩),Ac i] w fun e w'=>e=.returned (.tuple #[])/\Ni D kb pb P ps pa pc w (Value.slice va ab.length vc).ownBlock (follow P ps ab i) w':=by
 have Bi:=Jn w (.cells #[.int .i64 (i.op:Nat),.int .i64 i.arg,.int .i64 (i.line:Nat),.int .i64 (i.v.k:Nat),.bool i.v.y,.int .i64 i.v.n,.string ⟨i.v.t.toArray⟩,.pointer none] 251);have hi0:=heap_alloc_new w (.cells #[.int .i64 (i.op:Nat),.int .i64 i.arg,.int .i64 (i.line:Nat),.int .i64 (i.v.k:Nat),.bool i.v.y,.int .i64 i.v.n,.string ⟨i.v.t.toArray⟩,.pointer none] 251);have HG:=A0 (A87 (h.below Bi) i ha);have lb:=A4 h.st.blk;have HM:=A0 h;have HRl:=A0 (Bs h.st.own);have Aw:=A0 hi0;have Ae:=A0 Bi;unfold Ac at HG;clear hi0 Bi h;unfold Ac;go_enter Tryz.func293,Tryz.ntmps293;go_wp2_with fail
 refine HG.o.mono ?_;rintro e w1 ⟨rfl,A1⟩;have HM1:=A0 ((HM.o.below Ae.o).below A1);have Ab:=(A1.block _ (A4 Aw.o)).trans Aw.o;obtain⟨n0,n1,n2,n3,n4,n5,n6,n7,ln⟩:=B9 Ab;have A5:Hid (Below w.heap.size w w1):=Ae.o.trans (A1.mono Ae.o.size);have Br:=A0 Ab;clear A1 Ab HG Aw;have htk:0<=Gu P i/\Gu P i<=1000000:=Ajk i ha ha2 hp;cases hg:Th ps ab i with
 | some x=>
  have HGk:=A0 hg;clear hg;unfold V6 B5;go_wp2;obtain⟨w2,G4⟩:∃w2,w2=w1.alloc (.cells #[.bool x.kind,.bool x.whole,.int .i64 (x.like.k:Nat),.bool x.like.y,.int .i64 x.like.n,.string ⟨x.like.t.toArray⟩,.pointer none] 407):=⟨_,rfl⟩;rw[←G4];have A8:Below w1.heap.size w1 w2:=by rw[G4];exact Jn _ _
  have En:w2.heap[w1.heap.size]?=some (.cells #[.bool x.kind,.bool x.whole,.int .i64 (x.like.k:Nat),.bool x.like.y,.int .i64 x.like.n,.string ⟨x.like.t.toArray⟩,.pointer none] 407 (0,0)):=by rw[G4];exact heap_alloc_new _ _
  have Ax:=(A8.block _ (A4 Br.o)).trans Br.o;have HM2:=A0 (HM1.o.below A8);have Aa:Hid (Below w.heap.size w w2):=A5.o.trans (A8.mono A5.o.size);have Ea:=A5.o.size;have ls2:=A8.size;clear n0 n1 n2 n3 n4 n5 n6 n7 ln;obtain⟨n0,n1,n2,n3,n4,n5,n6,n7,ln⟩:=B9 Ax;have Gz:=A0 En;have Ek:=A4 HM2.o.st.blk;clear G4 A8 En Ax HM1;have hbd:Below w2.heap.size w2 w2.drew:=⟨rfl,rfl,rfl,Nat.le_refl _,fun _ _=>rfl⟩;have HL:=A0 (Qs (HM2.o.below hbd).st);have HT:=A0 (Ye (HM2.o.below hbd) i ha hc hN);have HCt:=A0 (fun(W:World) (hb:Below w2.heap.size w2 W)=>Yg (HM2.o.below hb) ((ab.length:Int)-Gu P i));have Dj:IntKind.i64.wrap ((ab.length:Int)-Gu P i)=(ab.length:Int)-Gu P i:=by rw[IntKind.wrap_i64];omega
  unfold Ac at HT;clear hbd;rw[←Dj]at HCt;clear Dj;go_region_law (first
   | (refine Fj rfl 304 _ _ rfl #[.pointer (some ⟨kb,2,none⟩),.int .i64 (IntKind.i64.wrap ((ab.length:Int)-Gu P i))] (by kernel_rfl) HC4.o ?_;rintro e w4 ⟨rfl,va4,vc4,m4,f4,o4⟩;refine⟨_,rfl,?_⟩;have HM4:=A0 m4;have HF4:=A0 f4;have C2:=A0 o4;clear m4 f4 o4)
   | (refine Fj rfl 306 _ _ rfl #[.pointer (some ⟨kb,0,none⟩),.agg #[.int .i64 (i.op:Nat),.int .i64 i.arg,.int .i64 (i.line:Nat),.int .i64 (i.v.k:Nat),.bool i.v.y,.int .i64 i.v.n,.string ⟨i.v.t.toArray⟩,.pointer none]] (by kernel_rfl) HT.o ?_;rintro e w3 ⟨rfl,Aj⟩;refine⟨_,rfl,?_⟩;have hb3':Below w2.heap.size w2 w3:=Below.trans (b:=w2.drew) ⟨rfl,rfl,rfl,Nat.le_refl _,fun _ _=>rfl⟩ Aj;have HC4:=A0 (HCt.o w3 hb3');have At:=A0 hb3';clear Aj hb3')
   | (refine Fj rfl 305 _ _ rfl #[.pointer (some ⟨kb,2,none⟩)] (by kernel_rfl) HL.o ?_;rintro e w9 ⟨rfl,Dj⟩;subst Dj;refine⟨_,rfl,?_⟩))
  all_goals
   have hrow:∀k,w.heap.size<=k->(Value.slice va ab.length vc).ownBlock≠some k:=fun k hk e=>by have:=HRl.o k e;omega
   have hq3:=(At.o.block _ (A4 Gz.o)).trans Gz.o;have hq4:=(HF4.o.block w1.heap.size (A4 hq3) (by omega) (hrow _ Ea)).trans hq3;have d0:=A2 hq4 0 _ rfl;have d1:=A2 hq4 1 _ rfl;have d2:=A2 hq4 2 _ rfl;have d3:=A2 hq4 3 _ rfl;have d4:=A2 hq4 4 _ rfl;have d5:=A2 hq4 5 _ rfl;have d6:=A2 hq4 6 _ rfl;have lq:=A4 hq4;have Dj:IntKind.i64.wrap ((ab.length:Int)-Gu P i)=(ab.length:Int)-Gu P i:=by rw[IntKind.wrap_i64];omega
   rw[Dj]at HM4 C2;clear Dj;have lb4:=A4 HM4.o.st.blk;have hlc:(Lu ((ab.length:Int)-Gu P i) ab).length<=ab.length:=by unfold Lu;split <;> simp;omega
   have HP:=A0 (A8i (HM4.o.below (w':=w4.drew) ⟨rfl,rfl,rfl,Nat.le_refl _,fun _ _=>rfl⟩) (by omega) x);have HFl:Hid (follow P ps ab i=Lu ((ab.length:Int)-Gu P i) ab++[x]):=by show _=_;unfold follow;rw[HGk.o]
   unfold B5 at HP;clear hq3 hq4 hrow;go_wp2;refine Ji 4 (by kernel_rfl) (by kernel_rfl) ?_;simp only[List.take_succ_cons,List.take_zero,List.drop_succ_cons,List.drop_zero];iterate 4 (refine Fa (fun K' hK'=>?_);go_simp;refine hK' _ ?_;clear hK' K')
   refine Jk ?_;go_wp2_with fail
   refine HP.o.mono ?_;rintro e w5 ⟨rfl,h5⟩;have h5':Ni D kb pb P ps pa pc w4 (Value.slice va4 (Lu ((ab.length:Int)-Gu P i) ab).length vc4).ownBlock (Lu ((ab.length:Int)-Gu P i) ab++[x]) w5:=by
    obtain⟨q1,q2,q3,q4,q5⟩:=h5;exact⟨q1,q2,q3,⟨q4.os,q4.tape,q4.output,q4.size,q4.block⟩,q5⟩
   have Hg:=A0 (Ni.trans HF4.o C2.o h5');clear h5';clear h5;go_wp2;go_end0;refine⟨rfl,?_⟩;rw[HFl.o];have hst:=Hg.o;obtain⟨va5,vc5,m5,f5,o5⟩:=hst;exact⟨va5,vc5,m5,f5.below (Aa.o.trans (At.o.mono (by omega))),fun g hg=>(o5 g hg).imp id (fun q=>by have:=(Aa.o.trans (At.o.mono (by omega))).size;omega)⟩
 | none=>
  have HGk:=A0 hg;clear hg;unfold V6 B5 Ds Ai;go_wp2;obtain⟨w2,G4⟩:∃w2,w2=w1.alloc (.cells #[.bool false,.bool false,.int .i64 0,.bool false,.int .i64 0,.string ⟨#[]⟩,.pointer none] 407):=⟨_,rfl⟩;rw[←G4];have A8:Below w1.heap.size w1 w2:=by rw[G4];exact Jn _ _
  have En:w2.heap[w1.heap.size]?=some (.cells #[.bool false,.bool false,.int .i64 0,.bool false,.int .i64 0,.string ⟨#[]⟩,.pointer none] 407 (0,0)):=by rw[G4];exact heap_alloc_new _ _
  have Ax:=(A8.block _ (A4 Br.o)).trans Br.o;have HM2:=A0 (HM1.o.below A8);have Aa:Hid (Below w.heap.size w w2):=A5.o.trans (A8.mono A5.o.size);have Ea:=A5.o.size;have ls2:=A8.size;clear n0 n1 n2 n3 n4 n5 n6 n7 ln;obtain⟨n0,n1,n2,n3,n4,n5,n6,n7,ln⟩:=B9 Ax;have Gz:=A0 En;have Ek:=A4 HM2.o.st.blk;clear G4 A8 En Ax HM1;have hbd:Below w2.heap.size w2 w2.drew:=⟨rfl,rfl,rfl,Nat.le_refl _,fun _ _=>rfl⟩;have HL:=A0 (Qs (HM2.o.below hbd).st);have HT:=A0 (Ye (HM2.o.below hbd) i ha hc hN);have HCt:=A0 (fun(W:World) (hb:Below w2.heap.size w2 W)=>Yg (HM2.o.below hb) ((ab.length:Int)-Gu P i));have Dj:IntKind.i64.wrap ((ab.length:Int)-Gu P i)=(ab.length:Int)-Gu P i:=by rw[IntKind.wrap_i64];omega
  unfold Ac at HT;clear hbd;rw[←Dj]at HCt;clear Dj;go_region_law (first
   | (refine Fj rfl 304 _ _ rfl #[.pointer (some ⟨kb,2,none⟩),.int .i64 (IntKind.i64.wrap ((ab.length:Int)-Gu P i))] (by kernel_rfl) HC4.o ?_;rintro e w4 ⟨rfl,va4,vc4,m4,f4,o4⟩;refine⟨_,rfl,?_⟩;have HM4:=A0 m4;have HF4:=A0 f4;have C2:=A0 o4;clear m4 f4 o4)
   | (refine Fj rfl 306 _ _ rfl #[.pointer (some ⟨kb,0,none⟩),.agg #[.int .i64 (i.op:Nat),.int .i64 i.arg,.int .i64 (i.line:Nat),.int .i64 (i.v.k:Nat),.bool i.v.y,.int .i64 i.v.n,.string ⟨i.v.t.toArray⟩,.pointer none]] (by kernel_rfl) HT.o ?_;rintro e w3 ⟨rfl,Aj⟩;refine⟨_,rfl,?_⟩;have hb3':Below w2.heap.size w2 w3:=Below.trans (b:=w2.drew) ⟨rfl,rfl,rfl,Nat.le_refl _,fun _ _=>rfl⟩ Aj;have HC4:=A0 (HCt.o w3 hb3');have At:=A0 hb3';clear Aj hb3')
   | (refine Fj rfl 305 _ _ rfl #[.pointer (some ⟨kb,2,none⟩)] (by kernel_rfl) HL.o ?_;rintro e w9 ⟨rfl,Dj⟩;subst Dj;refine⟨_,rfl,?_⟩))
  all_goals
   have Dj:IntKind.i64.wrap ((ab.length:Int)-Gu P i)=(ab.length:Int)-Gu P i:=by rw[IntKind.wrap_i64];omega
   rw[Dj]at HM4 C2;clear Dj;have lb4:=A4 HM4.o.st.blk;have HFl:Hid (follow P ps ab i=Lu ((ab.length:Int)-Gu P i) ab):=by show _=_;unfold follow;rw[HGk.o]
   go_wp2;go_end0;refine⟨rfl,?_⟩;rw[HFl.o];exact⟨va4,vc4,HM4.o,HF4.o.below (Aa.o.trans (At.o.mono (by omega))),fun g hg=>(C2.o g hg).imp id (fun q=>by have:=(Aa.o.trans (At.o.mono (by omega))).size;omega)⟩
theorem Acd(l:List Ad):Eh l=C6 Ej l:=rfl
theorem E1.other(h:E1 D kb pb P ps pa pc w ab va vc){s:Nat}(hk:∀g,g<w.heap.size->g≠s->w'.heap[g]?=w.heap[g]?)(hs:w.heap.size<=w'.heap.size)(h1:s≠kb)(h2:(Value.slice va ab.length vc).ownBlock≠some s)(h3:¬D s):E1 D kb pb P ps pa pc w' ab va vc:=by
 have hkD:∀g,D g->g<w.heap.size->w'.heap[g]?=w.heap[g]?/\D g:=fun g hg hl=>⟨hk g hl (fun e=>h3 (by rw[←e];exact hg)),hg⟩;exact⟨⟨(hk kb (A4 h.st.blk) (fun e=>h1 e.symm)).trans h.st.blk,h.st.cell,B3 h.st.own (fun g hg hl=>hk g hl (fun e=>h2 (by rw[←e];exact hg))),h.st.ne⟩,h.par.keep hkD,h.prog.keep hkD,h.nd,fun g hg=>Nat.lt_of_lt_of_le (h.lo g hg) hs,h.Bq⟩
structure Tx (D : Nat -> Prop) (kb pb : Nat) (P : Db) (ps : List Kn) (pa : Option Addr) (pc : Nat) (w : World) (n : Nat) (wr : World) (ab : List Kn) (va : Option Addr) (vc : Nat) (qs : List Ad) : Prop where
 mkr:E1 D kb pb P ps pa pc wr ab va vc
 row:Hz 251 8 Ej (w.heap.size+1) wr n qs
 res:wr.heap[w.heap.size]?=some (.cells #[.int .i64 0,.slice none 0 0] 98 (0,0))
 own:∀g,(Value.slice va ab.length vc).ownBlock=some g->w.heap.size+1<g
 M6:Fm kb none w wr
theorem Ai9{n:Nat}{wr w2:World}{qs:List Ad}(hI:Tx D kb pb P ps pa pc w n wr ab va vc qs)(lbk:kb<w.heap.size)(hlo:∀g,D g->g<w.heap.size)(hb:Below wr.heap.size wr w2)(hq:qs.length<n)(q u:Ad)(hu:Jp P.fns.length u)(hN:P.fns.length<=1000000)(hp:∀f∈P.fns,f.params<=1000)(hl:ab.length+1<=100000) :
  ∀W,W=w2.setCells (w.heap.size+1) (qs.length*8) (Ej q)->Calls Tryz.prog 293 #[.pointer (some ⟨kb,0,none⟩),Ac u] W fun e w4=>e=.returned (.tuple #[])/\∃va4 vc4,Tx D kb pb P ps pa pc w n w4 (follow P ps ab u) va4 vc4 (qs++[q]):=by
 intro W hW;obtain⟨hm,hr,hs,ho,hf⟩:=hI;have lr:=hr.lt;have f5:=Lm (w.heap.size+1) (Ej q) (qs.length*8) w2;rw[←hW]at f5;obtain⟨g1,g2,g3,g4,g5⟩:=f5;have B0:Hz 251 8 Ej (w.heap.size+1) W n (qs++[q]):=by
  rw[hW];exact(hr.keep (hb.block _ lr)).put (fun _=>rfl) hq q
 have hkW:∀g,g<wr.heap.size->g≠w.heap.size+1->W.heap[g]?=wr.heap[g]?:=fun g hg hne=>(g5 g hne).trans (hb.block g hg);have hsW:wr.heap.size<=W.heap.size:=by rw[g4];exact hb.size
 have hmW:E1 D kb pb P ps pa pc W ab va vc:=hm.other hkW hsW (by omega) (fun e=>by have:=ho _ e;omega) (fun hd=>by have:=hlo _ hd;omega);have hsz:w.heap.size<wr.heap.size:=A4 hs;refine(Aa7 hmW u hu.1 (by have:=hu.2.1;omega) hu.2.2.2.2.2.1 hN hp hl).mono ?_;rintro e w4 ⟨rfl,va4,vc4,m4,f4,o4⟩;have hrow:∀k,k<=w.heap.size+1->(Value.slice va ab.length vc).ownBlock≠some k:=fun k hk e=>by have:=ho k e;omega
 have k4:∀k,k<W.heap.size->k≠kb->k<=w.heap.size+1->w4.heap[k]?=W.heap[k]?:=fun k h1 h2 h3=>f4.block k h1 h2 (hrow k h3);refine⟨rfl,va4,vc4,m4,B0.keep (k4 _ B0.lt (by omega) (Nat.le_refl _)),(k4 _ (by omega) (by omega) (by omega)).trans ((hkW _ hsz (by omega)).trans hs),fun g hg=>?_,⟨f4.os.trans (g1.trans (hb.os.trans hf.os)),f4.tape.trans (g2.trans (hb.tape.trans hf.tape)),f4.output.trans (g3.trans (hb.output.trans hf.output)),Nat.le_trans hf.size (Nat.le_trans hsW f4.size),fun k hk h1 h2=>?_⟩⟩
 ·rcases o4 g hg with e|e
  ·exact ho g e
  ·omega
 ·have Cj:k<wr.heap.size:=Nat.lt_of_lt_of_le hk hf.size;exact(k4 k (by omega) h1 (by omega)).trans ((hkW k Cj (by omega)).trans (hf.block k hk h1 h2))
theorem Ajp(n:Int)(ab:List Kn):(Lu n ab).length<=ab.length:=by unfold Lu;split <;> simp;omega
theorem A63{i:Nat}{u:Ad}(h:ab.length<=i):(follow P ps ab u).length<=i+1:=by
 unfold follow;have:=Ajp ((ab.length:Nat)-Gu P u) ab;dsimp only;split
 ·simp only[List.length_append,List.length_singleton];omega
 ·omega
theorem A37(h:E1 D kb pb P ps pa pc w [] none 0){bb oo slots:Nat}{st:List Ad}{sa:Option Addr}{sn sc:Nat}(hB:Km D w bb oo slots st sa sn sc)(hst:∀i∈st,Jp P.fns.length i)(hN:P.fns.length<=1000000)(hp:∀f∈P.fns,f.params<=1000)(hl:st.length<=90000) :
  Calls Tryz.prog 277 #[.pointer (some ⟨kb,0,none⟩),.pointer (some ⟨bb,oo,none⟩)] w fun e w'=>∃tb,e=.returned (.agg #[.int .i64 (slots:Nat),.slice (some ⟨tb,0,none⟩) st.length st.length])/\w'.ownsRow 0 251 8 (.slice (some ⟨tb,0,none⟩) st.length st.length) st.length (Eh (Gh P ps [] st))/\w.heap.size<=tb/\Fm kb none w w':=by
 have hsn:sn=st.length:=(C8 hB.own.1).1;subst hsn;have c0:=hB.slots;have c1:=hB.row;have lb:=A4 h.st.blk;have lc:=block_lt_of_cell c0;have HM:=A0 h;have HBd:=A0 hB;clear h hB;have hmk:=P8 (P:=Tryz.prog) 96 251 (.agg #[.int .i64 0,.int .i64 0,.int .i64 0,.int .i64 0,.bool false,.int .i64 0,.string ⟨#[]⟩,.pointer none]) 8 72 Tryz.underlying96 W7 .i64 .i64 st.length (by omega) (by omega) (w.alloc (.cells #[.int .i64 0,.slice none 0 0] 98));have Bi:Below w.heap.size w ((w.alloc (.cells #[.int .i64 0,.slice none 0 0] 98)).alloc (.cells (madeCells (Value.agg #[.int .i64 0,.int .i64 0,.int .i64 0,.int .i64 0,.bool false,.int .i64 0,.string ⟨#[]⟩,.pointer none]).cells (st.length*8)) 251)):=Dt _ _ _;have hr0:((w.alloc (.cells #[.int .i64 0,.slice none 0 0] 98)).alloc (.cells (madeCells (Value.agg #[.int .i64 0,.int .i64 0,.int .i64 0,.int .i64 0,.bool false,.int .i64 0,.string ⟨#[]⟩,.pointer none]).cells (st.length*8)) 251)).heap[w.heap.size]?=some (.cells #[.int .i64 0,.slice none 0 0] 98 (0,0)):=alloc_old (heap_alloc_new w _);have Hh:=Hz.start (T:=251) (sz:=8) (f:=Ej) (w.alloc (.cells #[.int .i64 0,.slice none 0 0] 98)) (Value.agg #[.int .i64 0,.int .i64 0,.int .i64 0,.int .i64 0,.bool false,.int .i64 0,.string ⟨#[]⟩,.pointer none]).cells st.length;rw[World.size_alloc]at Hh hmk;obtain⟨w0,Cq⟩:∃w0,w0=((w.alloc (.cells #[.int .i64 0,.slice none 0 0] 98)).alloc (.cells (madeCells (Value.agg #[.int .i64 0,.int .i64 0,.int .i64 0,.int .i64 0,.bool false,.int .i64 0,.string ⟨#[]⟩,.pointer none]).cells (st.length*8)) 251)):=⟨_,rfl⟩;rw[←Cq]at hmk Bi hr0 Hh;have Ae:=A0 Bi;have HR0:=A0 hr0;have HN0:=A0 Hh;have ls0:=Bi.size;have hcw:∀(k o:Nat),k<w.heap.size->w0.cell? ⟨k,o,none⟩=w.cell? ⟨k,o,none⟩:=fun k o hk=>World.cell?_of_block (Bi.block k hk);have e0:=(hcw _ _ lc).trans c0;have e1:=(hcw _ _ lc).trans c1;have lc0:=Nat.lt_of_lt_of_le lc ls0;clear Cq Bi hr0 Hh hcw;go_enter Tryz.func277,Tryz.ntmps277;go_wp2;go_loopg [19] st.length (fun k v wr=>∃(i:Nat) (ab:List Kn) (va:Option Addr) (vc:Nat) (qs:List Ad),v=.int .i64 i/\i+k=st.length/\qs.length=i/\ab.length<=i/\Gh P ps [] st=qs++Gh P ps ab (st.drop i)/\Tx D kb pb P ps pa pc w st.length wr ab va vc qs)
 case atStart=>
  refine⟨0,[],none,0,[],rfl,by omega,rfl,by simp,by simp,⟨HM.o.below Ae.o,HN0.o,HR0.o,fun g hg=>by simp[Value.ownBlock]at hg,⟨Ae.o.os,Ae.o.tape,Ae.o.output,Ae.o.size,fun k hk _ _=>Ae.o.block k hk⟩⟩⟩
 case round=>
  obtain⟨i,ab,va,vc,qs,rfl,hik,hql,hal,hqe,hI⟩:=hrel;have HI:=A0 hI;have HQe:=A0 hqe;have lbr:=A4 hI.mkr.st.blk;have lrw:=hI.row.lt;have hrs:=hI.res;have lrs:=A4 hrs;clear hI hqe;by_cases hlt:i<st.length
  ·have hkD:∀g,D g->wr.heap[g]?=w.heap[g]?:=fun g hg=>HI.o.M6.block g (HM.o.lo g hg) (fun e=>HM.o.nd.1 (by rw[←e];exact hg)) (by simp);obtain⟨g,k1,_,hcap,lg,hcell⟩:=Gj HBd.o.own.1 (by omega);have hgD:=HBd.o.own.2 g (by rw[k1];rfl);subst k1;have hcr:∀o,wr.cell? ⟨g,o,none⟩=w.cell? ⟨g,o,none⟩:=fun o=>World.cell?_of_block (hkD g hgD);have lgr:=Nat.lt_of_lt_of_le lg HI.o.M6.size;have d0:=(hcr _).trans (hcell (i*8+0) _ ((Cv (f:=Ej) (sz:=8) (fun _=>rfl) st i 0 hlt (by omega)).trans rfl));have d1:=(hcr _).trans (hcell (i*8+1) _ ((Cv (f:=Ej) (sz:=8) (fun _=>rfl) st i 1 hlt (by omega)).trans rfl));have d2:=(hcr _).trans (hcell (i*8+2) _ ((Cv (f:=Ej) (sz:=8) (fun _=>rfl) st i 2 hlt (by omega)).trans rfl));have d3:=(hcr _).trans (hcell (i*8+3) _ ((Cv (f:=Ej) (sz:=8) (fun _=>rfl) st i 3 hlt (by omega)).trans rfl));have d4:=(hcr _).trans (hcell (i*8+4) _ ((Cv (f:=Ej) (sz:=8) (fun _=>rfl) st i 4 hlt (by omega)).trans rfl));have d5:=(hcr _).trans (hcell (i*8+5) _ ((Cv (f:=Ej) (sz:=8) (fun _=>rfl) st i 5 hlt (by omega)).trans rfl));have d6:=(hcr _).trans (hcell (i*8+6) _ ((Cv (f:=Ej) (sz:=8) (fun _=>rfl) st i 6 hlt (by omega)).trans rfl));have d7:=(hcr _).trans (hcell (i*8+7) _ ((Cv (f:=Ej) (sz:=8) (fun _=>rfl) st i 7 hlt (by omega)).trans rfl));rw[Nat.add_zero]at d0;have hu:=hst _ (List.getElem_mem hlt);have HStep:=A0 (fun(w2:World) (hb:Below wr.heap.size wr w2)=>Ai9 HI.o lb HM.o.lo hb (by omega) (quick ps ab st[i]) st[i] hu hN hp (by omega));have HQk:=A0 (fun(W:World) (hb:Below wr.heap.size wr W)=>Abr (HI.o.mkr.below hb) st[i] hu.1);have HEq:Hid (Gh P ps [] st=(qs++[quick ps ab st[i]])++Gh P ps (follow P ps ab st[i]) (st.drop (i+1))):=by
    show _=_;rw[HQe.o,List.drop_eq_getElem_cons hlt,Gh,List.append_assoc];rfl
   have HLf:Hid ((follow P ps ab st[i]).length<=i+1):=A63 hal;have HRw:=A0 HI.o.row;clear hkD hcr hcell hu;generalize st[i]=u at *;generalize quick ps ab u=q at *;rw[hql]at HStep;unfold Ac at HStep HQk;unfold Ej at HStep;unfold KP at HQk;go_wp2_with fail
   refine(HQk.o _ (Jn _ _)).mono ?_;rintro e w2 ⟨rfl,A8⟩;have hb2':=(Jn wr _).trans (A8.mono (by simp));have Ax:=(A8.block wr.heap.size (by simp)).trans (heap_alloc_new wr _);obtain⟨n0,n1,n2,n3,n4,n5,n6,n7,ln⟩:=B9 Ax;have hrw2:=HRw.o.keep (w':=w2) (hb2'.block _ lrw);obtain⟨z0,y0⟩:=hrw2.cells i 0 hlt (by omega);obtain⟨z1,y1⟩:=hrw2.cells i 1 hlt (by omega);obtain⟨z2,y2⟩:=hrw2.cells i 2 hlt (by omega);obtain⟨z3,y3⟩:=hrw2.cells i 3 hlt (by omega);obtain⟨z4,y4⟩:=hrw2.cells i 4 hlt (by omega);obtain⟨z5,y5⟩:=hrw2.cells i 5 hlt (by omega);obtain⟨z6,y6⟩:=hrw2.cells i 6 hlt (by omega);obtain⟨z7,y7⟩:=hrw2.cells i 7 hlt (by omega);replace y0:w2.cell? ⟨w.heap.size+1,i*8,none⟩=some z0:=y0;have fz:=hrw2.frozen;have lr2:=hrw2.lt;have HF:=A0 (HStep.o w2 hb2');clear A8 hb2' Ax hrw2 HStep HQk;generalize w.heap.size+1=sb at *;go_wp2_with fail
   refine(HF.o _ rfl).mono ?_;rintro e w4 ⟨rfl,va4,vc4,hI4⟩;have HI4:=A0 hI4;have lb4:=A4 hI4.mkr.st.blk;clear hI4 HF;go_wp2;go_roundg (gk-1)
   case measure=>omega
   case rel=>exact⟨i+1,_,va4,vc4,_,by simp,by omega,by simp[hql],HLf.o,HEq.o,HI4.o⟩
  ·have hqs:Gh P ps [] st=qs:=by rw[HQe.o,List.drop_eq_nil_of_le (by omega),Gh,List.append_nil]
   have HOw:=A0 (HI.o.row.done (fun _=>rfl) (by omega) (by omega));have HQs:=A0 hqs;have HSt:=A0 HI.o.M6;have hc0:wr.cell? ⟨bb,oo,none⟩=some (.int .i64 (slots:Nat)):=(World.cell?_of_block (HI.o.M6.block bb lc (fun e=>HM.o.nd.1 (by rw[←e];exact HBd.o.kept)) (by simp))).trans c0;have lcr:=block_lt_of_cell hc0;obtain⟨x0,x1,fx,lx⟩:=Io hrs;clear hrs hqs;go_wp2;refine bodyPost_ret (v:=.agg #[.int .i64 (slots:Nat),.slice (some ⟨w.heap.size+1,0,none⟩) st.length st.length]) (by simp[results,Tryz.results277,go_sem,x0,x1]) rfl ?_;have hset:∀k,k≠w.heap.size->((wr.setCell ⟨w.heap.size,0,none⟩ (.int .i64 (slots:Nat))).setCell ⟨w.heap.size,1,none⟩ (.slice (some ⟨w.heap.size+1,0,none⟩) st.length st.length)).heap[k]?=wr.heap[k]?:=fun k hk=>(Below.heap_setCell _ _ _ _ (by exact hk)).trans (Below.heap_setCell _ _ _ _ (by exact hk));refine⟨w.heap.size+1,rfl,?_,Nat.le_succ _,⟨by rw[Pd,Pd];exact HSt.o.os,by rw[Pk,Pk];exact HSt.o.tape,by rw[Pf,Pf];exact HSt.o.output,by simp[World.setCell];exact HSt.o.size,fun k hk h1 h2=>(hset k (by omega)).trans (HSt.o.block k hk h1 h2)⟩⟩;rw[HQs.o,Acd];have hln:st.length=qs.length:=by omega
   have:=B3 HOw.o (w':=((wr.setCell ⟨w.heap.size,0,none⟩ (.int .i64 (slots:Nat))).setCell ⟨w.heap.size,1,none⟩ (.slice (some ⟨w.heap.size+1,0,none⟩) st.length st.length))) (fun k hk _=>hset k (by simp only[Value.ownBlock,Option.some.injEq]at hk;omega));rw[hln]at this ⊢;exact this
end
section
set_option maxRecDepth 100000
open Go.RowKit
open Go.Deep (BT)
variable {D:Nat->Prop} {w w':World}
theorem Ah4(x:Kn):∀v∈Ei x,v.oneCell'=true:=by
 intro v hv;simp only[Ei,List.mem_cons,List.not_mem_nil,or_false]at hv;rcases hv with rfl|rfl|rfl|rfl|rfl|rfl|rfl <;> rfl
theorem Zu7{T:TypeId}{sz n c g:Nat}{cs:List Value}(h:w.ownsRow 0 T sz (.slice (some ⟨g,0,none⟩) n c) n cs):∀o,w.frozen? ⟨g,o,none⟩=false:=by
 rcases h.2 with⟨h2,_⟩|⟨g',cap,cur,hv,_,hgc,_⟩
 ·cases h2
 ·injection hv with e1;injection e1 with e1;injection e1 with e1;subst e1;exact Bd hgc
theorem Ajo{hb fo:Nat}{sa:Option Addr}{sn sc:Nat}{st:List Ad}{ks:List Kn}{kb2 kc:Nat}(hc:w.cell? ⟨hb,fo+3,none⟩=some (.slice sa sn sc))(hs:Co D w 251 8 (.slice sa sn sc) st.length (Eh st))(hst:∀i∈st,0<=i.arg)(hl:st.length<=90000)(ho:w.ownsRow 0 407 7 (.slice (some ⟨kb2,0,none⟩) ks.length kc) ks.length (C6 Ei ks))(hk:ks.length<=1000) :
  Calls Tryz.prog 276 #[.pointer (some ⟨hb,fo,none⟩),.slice (some ⟨kb2,0,none⟩) ks.length kc] w fun e w'=>∃tb,e=.returned (.slice (some ⟨tb,0,none⟩) ks.length ks.length)/\w'.ownsRow 0 407 7 (.slice (some ⟨tb,0,none⟩) ks.length ks.length) ks.length (C6 Ei (Jy st ks))/\(Jy st ks).length=ks.length/\w.heap.size<=tb/\Below w.heap.size w w':=by
 have hsn:sn=st.length:=(C8 hs.1).1;subst hsn;have lc:=block_lt_of_cell hc;have hmk:=P8 (P:=Tryz.prog) 379 407 (.agg #[.bool false,.bool false,.int .i64 0,.bool false,.int .i64 0,.string ⟨#[]⟩,.pointer none]) 7 56 Tryz.underlying379 Vh .i64 .i64 ks.length (by omega) (by omega) w;have Hh:=Hz.start (T:=407) (sz:=7) (f:=Ei) w (Value.agg #[.bool false,.bool false,.int .i64 0,.bool false,.int .i64 0,.string ⟨#[]⟩,.pointer none]).cells ks.length;have Bi:=Jn w (.cells (madeCells (Value.agg #[.bool false,.bool false,.int .i64 0,.bool false,.int .i64 0,.string ⟨#[]⟩,.pointer none]).cells (ks.length*7)) 407);obtain⟨w0,Cq⟩:∃w0,w0=w.alloc (.cells (madeCells (Value.agg #[.bool false,.bool false,.int .i64 0,.bool false,.int .i64 0,.string ⟨#[]⟩,.pointer none]).cells (ks.length*7)) 407):=⟨_,rfl⟩;rw[←Cq]at hmk Hh Bi;clear Cq;have hrl:=L7 (f:=Ei) (sz:=7) (fun _=>rfl) ks;have hcp:=A90 (P:=Tryz.prog) w0 379 379 3 407 w.heap.size 0 ks.length ⟨kb2,0,none⟩ ks.length kc 7 (C6 Ei ks) Tryz.underlying379 (by kernel_rfl) hrl
  (fun j v hj=>by
   have hjl:j<(C6 Ei ks).length:=(List.getElem?_eq_some_iff.1 hj).1;obtain⟨g,k1,_,_,lg,hcell⟩:=Gj ho (by omega);injection k1 with k1;injection k1 with k1;subst k1;have:(Addr.mk kb2 0 none).add j=⟨kb2,j,none⟩:=by simp[Addr.add];omega
   rw[this,World.cell?_of_block (Bi.block _ lg)];exact hcell j v hj)
  (fun j hj=>by
   rw[hrl]at hj;obtain⟨v,hv⟩:=Hh.cells (j / 7) (j % 7) (by omega) (by omega);rw[show j / 7*7+j % 7=j by omega]at hv;rw[Nat.zero_add,hv];rfl)
  (fun j _=>Hh.frozen _)
  (fun v hv=>by
   simp only[C6,List.mem_flatMap]at hv;obtain⟨x,_,hx⟩:=hv;exact Ah4 x v hx)
 have hf0:=Hh.full (xs:=ks) (fun _=>rfl) rfl (by omega);obtain⟨q1,q2,q3,q4,q5⟩:=Lm w.heap.size (C6 Ei ks) 0 w0;have A1:Below w.heap.size w (w0.setCells w.heap.size 0 (C6 Ei ks)):=⟨q1.trans Bi.os,q2.trans Bi.tape,q3.trans Bi.output,by rw[q4];exact Bi.size,fun k hk=>(q5 k (by omega)).trans (Bi.block k hk)⟩;generalize w0.setCells w.heap.size 0 (C6 Ei ks)=w1 at *;have Az:=A0 hf0;have A5:=A0 A1;have c1:=(World.cell?_of_block (A1.block hb lc)).trans hc;have lc1:=Nat.lt_of_lt_of_le lc A1.size;have c0:=(World.cell?_of_block (Bi.block hb lc)).trans hc;have lc0:=Nat.lt_of_lt_of_le lc Bi.size;have HS:=A0 hs;clear Hh Bi hf0 A1 q1 q2 q3 q4 q5 ho hs hrl;go_enter Tryz.func276,Tryz.ntmps276;go_wp2;go_loopg [20] st.length (fun k v wr=>∃(i:Nat) (ks':List Kn),v=.int .i64 i/\i+k=st.length/\ks'.length=ks.length/\Jy st ks=Jy (st.drop i) ks'/\wr.ownsRow 0 407 7 (.slice (some ⟨w.heap.size,0,none⟩) ks'.length ks.length) ks'.length (C6 Ei ks')/\Below w.heap.size w wr)
 case atStart=>exact⟨0,ks,rfl,by omega,rfl,by simp,Az.o,A5.o⟩
 case round=>
  obtain⟨i,ks',rfl,hik,hkl,hle,hor,hbr⟩:=hrel;have HBr:=A0 hbr;have HLe:=A0 hle;have HOr:=A0 hor;have lsr:=hbr.size;clear hle;by_cases hlt:i<st.length
  ·obtain⟨g,k1,_,hcap,lg,hcell⟩:=Gj HS.o.1 (by omega);subst k1;have hcr:∀o,wr.cell? ⟨g,o,none⟩=w.cell? ⟨g,o,none⟩:=fun o=>World.cell?_of_block (hbr.block g lg);have lgr:=Nat.lt_of_lt_of_le lg hbr.size;have d0:=(hcr _).trans (hcell (i*8+0) _ ((Cv (f:=Ej) (sz:=8) (fun _=>rfl) st i 0 hlt (by omega)).trans rfl));have d1:=(hcr _).trans (hcell (i*8+1) _ ((Cv (f:=Ej) (sz:=8) (fun _=>rfl) st i 1 hlt (by omega)).trans rfl));have d2:=(hcr _).trans (hcell (i*8+2) _ ((Cv (f:=Ej) (sz:=8) (fun _=>rfl) st i 2 hlt (by omega)).trans rfl));have d3:=(hcr _).trans (hcell (i*8+3) _ ((Cv (f:=Ej) (sz:=8) (fun _=>rfl) st i 3 hlt (by omega)).trans rfl));have d4:=(hcr _).trans (hcell (i*8+4) _ ((Cv (f:=Ej) (sz:=8) (fun _=>rfl) st i 4 hlt (by omega)).trans rfl));have d5:=(hcr _).trans (hcell (i*8+5) _ ((Cv (f:=Ej) (sz:=8) (fun _=>rfl) st i 5 hlt (by omega)).trans rfl));have d6:=(hcr _).trans (hcell (i*8+6) _ ((Cv (f:=Ej) (sz:=8) (fun _=>rfl) st i 6 hlt (by omega)).trans rfl));have d7:=(hcr _).trans (hcell (i*8+7) _ ((Cv (f:=Ej) (sz:=8) (fun _=>rfl) st i 7 hlt (by omega)).trans rfl));replace d0:wr.cell? ⟨g,i*8,none⟩=some (.int .i64 (st[i].op:Nat)):=d0;have hu:=hst _ (List.getElem_mem hlt);have hll:=HLe.o;rw[List.drop_eq_getElem_cons hlt,Jy]at hll;clear hcr hcell hbr hor;generalize st[i]=u at *;by_cases hop:u.op=3
   ·have t3:((u.op:Int)==3)=true:=by rw[hop];rfl
    by_cases har:u.arg<(ks.length:Nat)
    ·obtain⟨j,hj⟩:∃j:Nat,u.arg=(j:Nat):=⟨u.arg.toNat,by omega⟩;rw[if_pos ⟨hop,by rw[hkl];exact har⟩,hj,Int.toNat_natCast]at hll;have hjl:j<ks'.length:=by omega
     have tj:((j:Nat):Int)<((ks.length:Nat):Int):=by omega
     have hjc:j<ks.length:=by omega
     have HLl:=A0 hll;have HPut:=A0 (Amc HOr.o (fun _=>rfl) j hjl Ds);obtain⟨z0,y0⟩:=P2 HOr.o j 0 hjl (by omega);obtain⟨z1,y1⟩:=P2 HOr.o j 1 hjl (by omega);obtain⟨z2,y2⟩:=P2 HOr.o j 2 hjl (by omega);obtain⟨z3,y3⟩:=P2 HOr.o j 3 hjl (by omega);obtain⟨z4,y4⟩:=P2 HOr.o j 4 hjl (by omega);obtain⟨z5,y5⟩:=P2 HOr.o j 5 hjl (by omega);obtain⟨z6,y6⟩:=P2 HOr.o j 6 hjl (by omega);replace y0:wr.cell? ⟨w.heap.size,j*7,none⟩=some z0:=y0;have fz:∀o,wr.frozen? ⟨w.heap.size,o,none⟩=false:=Zu7 HOr.o;have lz:=block_lt_of_cell y0;rw[hj]at d1;clear hll hop har hj hu;go_wp2;go_roundg (gk-1)
     case measure=>omega
     case rel=>
      obtain⟨q1,q2,q3,q4,q5⟩:=Lm w.heap.size (Ei Ds) (j*7) wr;refine⟨i+1,ks'.set j Ds,by simp,by omega,by simp[hkl],HLl.o,B3 HPut.o (fun k _ hl=>Below.heap_alloc _ _ _ hl),?_⟩;have hbs:Below w.heap.size w (wr.setCells w.heap.size (j*7) (Ei Ds)):=⟨q1.trans HBr.o.os,q2.trans HBr.o.tape,q3.trans HBr.o.output,by rw[q4];exact HBr.o.size,fun k hk=>(q5 k (by omega)).trans (HBr.o.block k hk)⟩;exact Below.alloc hbs hbs.size _
    ·rw[if_neg (fun q=>har (by rw[←hkl];exact q.2))]at hll;have ta:¬u.arg<((ks.length:Nat):Int):=har;have HLl:=A0 hll;clear hll hop har hu;go_wp2;go_roundg (gk-1)
     case measure=>omega
     case rel=>exact⟨i+1,ks',by simp,by omega,hkl,HLl.o,B3 HOr.o (fun k _ hl=>Below.heap_alloc _ _ _ hl),Below.alloc HBr.o lsr _⟩
   ·have t3:((u.op:Int)==3)=false:=by rw[beq_eq_false_iff_ne];omega
    rw[if_neg (fun q=>hop q.1)]at hll;have HLl:=A0 hll;clear hll hop hu;go_wp2;go_roundg (gk-1)
    case measure=>omega
    case rel=>exact⟨i+1,ks',by simp,by omega,hkl,HLl.o,B3 HOr.o (fun k _ hl=>Below.heap_alloc _ _ _ hl),Below.alloc HBr.o lsr _⟩
  ·have hll:=HLe.o;rw[List.drop_eq_nil_of_le (by omega),Jy]at hll;have HLl:=A0 hll;clear hll hor hbr;go_wp2;go_ret;refine⟨w.heap.size,rfl,?_,by rw[HLl.o];exact hkl,Nat.le_refl _,HBr.o⟩;have:=HOr.o;rw[HLl.o];rw[hkl]at this;exact this
end
end Go.Proofs.YtjdlndhfaaolaaaGreatDoor
