import Derived.Test.YtjdlndhfaaolaaaGreatDoorV14
import Derived.Test.YtjdlndhfaaolaaaGreatDoorV32
set_option maxHeartbeats 20000000
namespace Go.Proofs.YtjdlndhfaaolaaaGreatDoor
section
open Go.RowKit
open Go.Deep (BT)
def Bw{α:Type}(f:α->List Value)(xs:List α):List Value:=xs.flatMap f
variable {α:Type} {f:α->List Value} {sz:Nat}
theorem P9(x:α)(r:List α):Bw f (x::r)=f x++Bw f r:=by simp[Bw]
theorem R7(a b:List α):Bw f (a++b)=Bw f a++Bw f b:=by simp[Bw]
theorem Sz(x:α):Bw f [x]=f x:=by simp[Bw]
theorem Lr(hf:∀x,(f x).length=sz)(xs:List α):(Bw f xs).length=xs.length*sz:=by
 induction xs with
 | nil=>simp[Bw]
 | cons x r ih=>rw[P9,List.length_append,ih,hf,List.length_cons,Nat.add_mul];omega
theorem D1(hf:∀x,(f x).length=sz)(xs:List α):∀(i j:Nat) (h:i<xs.length),j<sz->(Bw f xs)[i*sz+j]?=(f xs[i])[j]?:=by
 induction xs with
 | nil=>intro i j h;simp at h
 | cons x r ih=>
  intro i j h hj;rw[P9];have hl:=hf x;cases i with
  | zero=>rw[List.getElem?_append_left z4va];simp
  | succ i=>
   rw[List.getElem?_append_right (by rw[hl,Nat.add_mul];omega),hl,show(i+1)*sz+j-sz=i*sz+j by rw[Nat.add_mul];omega];exact ih i j z60a hj
theorem Y6(hf:∀x,(f x).length=sz):∀(xs:List α) (m:Nat),(Bw f xs).take (m*sz)=Bw f (xs.take m):=by
 intro xs;induction xs with
 | nil=>intro m;simp[Bw]
 | cons x r ih=>
  intro m;cases m with
  | zero=>simp[Bw]
  | succ m=>rw[P9,List.take_succ_cons,P9,show(m+1)*sz=(f x).length+m*sz by rw[hf,Nat.add_mul];omega,List.take_length_add_append,ih]
theorem Ut(hf:∀x,(f x).length=sz)(y:α):∀(xs:List α) (i:Nat),i<xs.length->Bw f (xs.set i y)=(Bw f xs).take (i*sz)++f y++(Bw f xs).drop ((i+1)*sz):=by
 intro xs;induction xs with
 | nil=>intro i h;simp at h
 | cons x r ih=>
  intro i h;have hl:=hf x;cases i with
  | zero=>rw[List.set_cons_zero,P9,P9,Nat.zero_mul,List.take_zero,List.nil_append,Nat.zero_add,Nat.one_mul,←hl,List.drop_left]
  | succ i=>
   have e1:(f x++Bw f r).take ((i+1)*sz)=f x++(Bw f r).take (i*sz):=by rw[show(i+1)*sz=(f x).length+i*sz by rw[hl,Nat.add_mul];omega,List.take_length_add_append]
   have e2:(f x++Bw f r).drop ((i+1+1)*sz)=(Bw f r).drop ((i+1)*sz):=by rw[show(i+1+1)*sz=(f x).length+(i+1)*sz by rw[hl,Nat.add_mul (i+1)];omega,List.drop_length_add_append]
   rw[List.set_cons_succ,P9,P9,ih i z60a,e1,e2];simp only[List.append_assoc]
structure Dh {α : Type} (T : TypeId) (sz : Nat) (f : α -> List Value) (b o : Nat) (w : World) (cs : Array Value) (t : TypeId) (va : Option Addr) (vn vc : Nat) (xs : List α) : Prop where
 blk:w.heap[b]?=some (.cells cs t (0,0))
 cell:cs[o]?=some (.slice va vn vc)
 own:w.ownsRow 0 T sz (.slice va vn vc) xs.length (Bw f xs)
 ne:(Value.slice va vn vc).ownBlock≠some b
def Vi{α:Type}(T:TypeId)(sz:Nat)(f:α->List Value)(b o:Nat)(w:World)(cs:Array Value)(t:TypeId)(va:Option Addr)(vn vc:Nat)(xs:List α)(u:α)(w':World):Prop:=
 ∃g cap,Dh T sz f b o w' (cs.setIfInBounds o (.slice (some ⟨g,0,none⟩) (xs.length+1) cap)) t (some ⟨g,0,none⟩) (xs.length+1) cap (xs++[u])/\((Value.slice va vn vc).ownBlock=some g\/w.heap.size<=g)/\Fp b (Value.slice va vn vc).ownBlock w w'
def Jr{α:Type}(T:TypeId)(sz:Nat)(f:α->List Value)(b o:Nat)(w:World)(cs:Array Value)(t:TypeId)(va:Option Addr)(vn vc:Nat)(xs:List α)(m:Nat)(w':World):Prop:=
 Dh T sz f b o w' (cs.setIfInBounds o (.slice va m vc)) t va m vc (xs.take m)/\Fp b (Value.slice va vn vc).ownBlock w w'
theorem Dh.keep{α:Type}{T:TypeId}{sz:Nat}{f:α->List Value}{b o:Nat}{w w':World}{cs:Array Value}{t:TypeId}{va:Option Addr}{vn vc:Nat}{xs:List α}(h:Dh T sz f b o w cs t va vn vc xs)(hk:∀g,g<w.heap.size->w'.heap[g]?=w.heap[g]?):Dh T sz f b o w' cs t va vn vc xs:=
 ⟨(hk b (A5 h.blk)).trans h.blk,h.cell,B4 h.own (fun g _ hl=>hk g hl),h.ne⟩
theorem Fp.below{b:Nat}{row:Option Nat}{w w1 w2:World}(hb:Below w.heap.size w w1)(h:Fp b row w1 w2):Fp b row w w2:=
 ⟨h.os.trans hb.os,h.tape.trans hb.tape,h.output.trans hb.output,Nat.le_trans hb.size h.size,fun k hk h1 h2=>(h.block k (Nat.lt_of_lt_of_le hk hb.size) h1 h2).trans (hb.block k hk)⟩
theorem Ud(g:Nat)(t:TypeId)(fr:Nat×Nat):∀(vs:List Value) (o:Nat) (cur:Array Value) (w:World),w.heap[g]?=some (.cells cur t fr)->o+vs.length<=cur.size->
  ∃cur',(w.setCells g o vs).heap[g]?=some (.cells cur' t fr)/\cur'.size=cur.size/\cur'.toList=cur.toList.take o++vs++cur.toList.drop (o+vs.length):=by
 intro vs;induction vs with
 | nil=>intro o cur w h hl;exact⟨cur,h,rfl,by simp⟩
 | cons v r ih=>
  intro o cur w h hl;simp only[List.length_cons]at hl;obtain⟨cur',h1,h2,h3⟩:=ih (o+1) _ _ (heap_set (j:=o) h v) z4ya;refine⟨cur',h1,by rw[h2];simp,?_⟩;rw[h3];simp only[Array.toList_setIfInBounds,List.length_cons];have hol:o<cur.toList.length:=by simp;omega
  rw[List.drop_set_of_lt z4va,List.take_succ_eq_append_getElem (by simpa using hol),List.take_set_of_le (Nat.le_refl _)];simp only[List.getElem_set_self,List.append_assoc,List.cons_append,List.nil_append];rw[show o+1+r.length=o+(r.length+1) by omega]
theorem A4d{α:Type}(C B:List α)(a b n:Nat)(hab:a+B.length=b)(hbn:b<=n)(hn:n<=C.length):(C.take a++B++C.drop b).take n=(C.take n).take a++B++(C.take n).drop b:=by
 have hl:(C.take a++B).length=b:=by simp;omega
 have e1:(C.take a++B++C.drop b).take n=(C.take a++B)++(C.drop b).take (n-b):=by
  rw[List.take_append,List.take_of_length_le z4va,hl]
 rw[e1,List.take_take,Nat.min_eq_left z4va,List.drop_take]
def Nr{α:Type}(T:TypeId)(sz:Nat)(f:α->List Value)(b o:Nat)(w:World)(cs:Array Value)(t:TypeId)(va:Option Addr)(vn vc:Nat)(ys:List α)(w':World):Prop:=
 Dh T sz f b o w' cs t va vn vc ys/\Fp b (Value.slice va vn vc).ownBlock w w'
theorem z3oa {P:Prop} (h:P:=by
  rw[List.length_set,k3,Ut hf u xs i hi,←ht,hf,←hadd];exact A4d _ _ _ _ _ (by rw[hf];omega) hin z4va):P:=h
theorem Dh.putRow{α:Type}{T:TypeId}{sz:Nat}{f:α->List Value}{b o:Nat}{w w0:World}{cs:Array Value}{t:TypeId}{va:Option Addr}{vn vc:Nat}{xs:List α}(h:Dh T sz f b o w0 cs t va vn vc xs)(hf:∀x,(f x).length=sz)(i:Nat)(hi:i<xs.length)(u:α)(hb:Below w.heap.size w w0) :
  ∀g,va=some ⟨g,0,none⟩->Nr T sz f b o w cs t va vn vc (xs.set i u) (w0.setCells g (i*sz) (f u)):=by
 intro g hg;subst hg;obtain⟨hl,⟨h2,h3⟩|⟨g',cap,cur,hv,_,hgc,hcap,hmx,hsz,ht⟩⟩:=h.own
 ·cases h2
 injection hv with e1 e2 e3;injection e1 with e1;injection e1 with e1;subst e1 e3;have hin:(i+1)*sz<=xs.length*sz:=Nat.mul_le_mul_right _ hi;have hin2:xs.length*sz<=vc*sz:=Nat.mul_le_mul_right _ hcap;have hadd:(i+1)*sz=i*sz+sz:=by rw[Nat.add_mul,Nat.one_mul]
 obtain⟨cur',k1,k2,k3⟩:=Ud g T (0,0) (f u) (i*sz) cur w0 hgc (by rw[hf];omega);obtain⟨f1,f2,f3,f4,f5⟩:=Kv g (f u) (i*sz) w0;have hgb:g≠b:=fun e=>h.ne z5ra;refine⟨⟨(f5 b (fun e=>hgb e.symm)).trans h.blk,h.cell,⟨by rw[Lr hf],.inr ⟨g,vc,cur',?_,Nat.zero_le _,k1,?_,hmx,by rw[k2];exact hsz,?_⟩⟩,h.ne⟩,⟨f1.trans hb.os,f2.trans hb.tape,f3.trans hb.output,by rw[f4];exact hb.size,fun k hk h1 h2=>(f5 k (fun e=>h2 (by rw[e];rfl))).trans (hb.block k hk)⟩⟩
 ·rw[List.length_set,e2]
 ·rw[List.length_set];exact hcap
 ·have hcl:cur.toList.length=vc*sz:=by simpa using hsz
  exact z3oa
theorem Nr.alloc{α:Type}{T:TypeId}{sz:Nat}{f:α->List Value}{b o:Nat}{w w3:World}{cs:Array Value}{t:TypeId}{va:Option Addr}{vn vc:Nat}{ys:List α}(h:Nr T sz f b o w cs t va vn vc ys w3)(hl:b<w.heap.size)(hr:∀k,(Value.slice va vn vc).ownBlock=some k->k<w.heap.size)(x:Obj):Nr T sz f b o w cs t va vn vc ys (w3.alloc x):=by
 have hk:∀k,k<w.heap.size->(w3.alloc x).heap[k]?=w3.heap[k]?:=fun k hk=>Below.heap_alloc _ _ _ (Nat.lt_of_lt_of_le hk h.2.size);exact⟨⟨(hk b hl).trans h.1.blk,h.1.cell,B4 h.1.own (fun k hk' _=>hk k (hr k hk')),h.1.ne⟩,⟨h.2.os,h.2.tape,h.2.output,by simp;have:=h.2.size;omega,fun k h1 h2 h3=>(hk k h1).trans (h.2.block k h1 h2 h3)⟩⟩
theorem Nr.drew{α:Type}{T:TypeId}{sz:Nat}{f:α->List Value}{b o:Nat}{w w3:World}{cs:Array Value}{t:TypeId}{va:Option Addr}{vn vc:Nat}{ys:List α}(h:Nr T sz f b o w cs t va vn vc ys w3):Nr T sz f b o w cs t va vn vc ys w3.drew:=
 ⟨⟨h.1.blk,h.1.cell,B4 h.1.own (fun _ _ _=>rfl),h.1.ne⟩,⟨h.2.os,h.2.tape,h.2.output,h.2.size,h.2.block⟩⟩
theorem Jr.res{α:Type}{T:TypeId}{sz:Nat}{f:α->List Value}{b o:Nat}{w w2 w3:World}{cs:Array Value}{t:TypeId}{va:Option Addr}{vn vc:Nat}{xs:List α}{m:Nat}(h:Jr T sz f b o w2 cs t va vn vc xs m w3)(hb:Below w.heap.size w w2):Jr T sz f b o w cs t va vn vc xs m w3:=⟨h.1,Fp.below hb h.2⟩
theorem Jr.set{α:Type}{T:TypeId}{sz:Nat}{f:α->List Value}{b o:Nat}{w w3:World}{cs:Array Value}{t:TypeId}{va:Option Addr}{vn vc:Nat}{xs:List α}{m:Nat}(h:Jr T sz f b o w cs t va vn vc xs m w3)(hl:b<w.heap.size)(hr:∀k,(Value.slice va vn vc).ownBlock=some k->k<w.heap.size){p:Addr}(hp:w.heap.size<=p.block)(v:Value):Jr T sz f b o w cs t va vn vc xs m (w3.setCell p v):=by
 have hk:∀k,k<w.heap.size->(w3.setCell p v).heap[k]?=w3.heap[k]?:=fun k hk=>Below.heap_setCell _ _ _ _ z4va;exact⟨⟨(hk b hl).trans h.1.blk,h.1.cell,B4 h.1.own (fun k hk' _=>hk k (hr k ((Mi _ _ _ _).trans hk'))),h.1.ne⟩,⟨h.2.os,h.2.tape,h.2.output,by simp[World.setCell];exact h.2.size,fun k h1 h2 h3=>(hk k h1).trans (h.2.block k h1 h2 h3)⟩⟩
theorem Qu{α:Type}(z:α)(xs:List α):xs.getLastD z=if((xs.length:Int)-1)<0 then z else(xs[((xs.length:Int)-1).toNat]?).getD z:=by
 rw[List.getLastD_eq_getLast?,List.getLast?_eq_getElem?];by_cases h:xs.length=0
 ·rw[if_pos z4va,List.getElem?_eq_none z4va];rfl
 ·rw[if_neg z4va,show((xs.length:Int)-1).toNat=xs.length-1 by omega]
theorem A59(z:Array Value)(n:Nat):(Builtin.zeroCells z n).toList.length=n*z.size:=by simp[Builtin.zeroCells]
theorem Arp{z:Array Value}(hz:0<z.size)(h1:∀v∈z.toList,v.oneCell'=true)(n:Nat):∀v∈(Builtin.zeroCells z n).toList,v.oneCell'=true:=by
 intro v hv;simp only[Builtin.zeroCells,Array.toList_map,List.mem_map]at hv;obtain⟨i,_,rfl⟩:=hv;have hlt:i % z.size<z.size:=Nat.mod_lt _ hz;rw[getElem!_pos z _ hlt];exact h1 _ (Array.getElem_mem_toList hlt)
theorem Y8{P:Program}(w:World)(t e ty:TypeId)(z:Value)(ht:P.underlying t=some (.slice e))(hv:∀w,(zeroValue e).run P w=.ok z w)(hz:0<z.cells.size)(h1:∀v∈z.cells.toList,v.oneCell'=true)(b o n c:Nat)(hn:0<n)
  (hc:∀j,j<n*z.cells.size->(w.cell? ⟨b,o+j,none⟩).isSome=true) (hf:∀j,j<n*z.cells.size->w.frozen? ⟨b,o+j,none⟩=false) :
  (Builtin.clear_ #[t] ty #[.slice (some ⟨b,o,none⟩) n c]).run P w=.ok (.tuple #[]) (w.setCells b o (Builtin.zeroCells z.cells n).toList):=by
 have hst:=run_storeCells_cells (P:=P) b o (Builtin.zeroCells z.cells n).toList 0 w (by rw[A59];simpa using hc) (by rw[A59];simpa using hf) (Arp hz h1 n);simp only[Nat.add_zero]at hst;obtain⟨m,rfl⟩:∃m,n=m+1:=⟨n-1,by omega⟩;simp[Builtin.clear_,run_underlying ht,hv,hst]
end
section
set_option maxRecDepth 100000
open Go.RowKit
open Go.Deep (BT)
variable {β:Nat->Nat}{b o:Nat}{w:World}{cs:Array Value}{t:TypeId}{va:Option Addr}{vn vc:Nat}{xs:List PV}
def Bk(β:Nat->Nat)(v:PV):Option Addr:=match v.r with
 | none=>none
 | some i=>some ⟨β i,0,none⟩
def C7(β:Nat->Nat)(v:PV):List Value:=[.int .i64 (v.k:Nat),.bool v.y,.int .i64 v.n,.string ⟨v.t.toArray⟩,.pointer (Bk β v)]
theorem Uf:(Tryz.prog.info? 225).map (fun i=>(i.zero,i.size,i.bytes))=some (some (.agg #[.int .i64 0,.bool false,.int .i64 0,.string ⟨#[]⟩,.pointer none]),5,48):=by kernel_rfl
theorem Yx(h:Dh 225 5 (C7 β) b o w cs t va vn vc xs):Calls Tryz.prog 98 #[.pointer (some ⟨b,o,none⟩)] w fun e w'=>e=.returned (.int .i64 (xs.length:Nat))/\w'=w:=by
 have c:=Dp h.blk h.cell;have lb:=A5 h.blk;have hv:vn=xs.length:=(C9 h.own).1;subst hv;clear h;go_enter Tryz.func98,Tryz.ntmps98;exact z03a
theorem z40a {P:Prop} (h:P:=by
  exact Below.alloc (Below.refl _ _) (Nat.le_refl _) _):P:=h
theorem Apu(h:Dh 225 5 (C7 β) b o w cs t va vn vc xs)(i:Nat)(hi:i<xs.length)(hb:xs.length<=1000000):Calls Tryz.prog 195 #[.pointer (some ⟨b,o,none⟩),.int .i64 (i:Nat)] w fun e w'=>e=.returned (.agg #[.int .i64 ((xs[i]).k:Nat),.bool (xs[i]).y,.int .i64 (xs[i]).n,.string ⟨(xs[i]).t.toArray⟩,.pointer (Bk β (xs[i]))])/\Below w.heap.size w w':=by
 have c:=Dp h.blk h.cell;have lb:=A5 h.blk;have hv:vn=xs.length:=(C9 h.own).1;subst hv;obtain⟨g,rfl,hvn9,hcap,lg,hcell⟩:=Fo h.own z4va;clear hvn9;have d0:=hcell (i*5+0) _ ((D1 (sz:=5) (fun _=>rfl) xs i 0 hi z4va).trans rfl);have d1:=hcell (i*5+1) _ ((D1 (sz:=5) (fun _=>rfl) xs i 1 hi z4va).trans rfl);have d2:=hcell (i*5+2) _ ((D1 (sz:=5) (fun _=>rfl) xs i 2 hi z4va).trans rfl);have d3:=hcell (i*5+3) _ ((D1 (sz:=5) (fun _=>rfl) xs i 3 hi z4va).trans rfl);have d4:=hcell (i*5+4) _ ((D1 (sz:=5) (fun _=>rfl) xs i 4 hi z4va).trans rfl);rw[Nat.add_zero]at d0;clear h hcell;generalize xs[i]=x at *;go_enter Tryz.func195,Tryz.ntmps195;go_wp2;refine bodyPost_ret (v:=.agg #[.int .i64 (x.k:Nat),.bool x.y,.int .i64 x.n,.string ⟨x.t.toArray⟩,.pointer (Bk β x)]) (by simp[results,Tryz.results195,go_sem]) rfl ⟨rfl,?_⟩;exact z40a
theorem z1ya {P:Prop} (h:P:=by
  clear hi;go_enter Tryz.func195,Tryz.ntmps195;go_wp2;refine bodyPost_ret (v:=.agg #[.int .i64 0,.bool false,.int .i64 0,.string ⟨#[]⟩,.pointer none]) (by simp[results,Tryz.results195,go_sem]) rfl ⟨rfl,?_⟩;exact z04a):P:=h
theorem A4s(h:Dh 225 5 (C7 β) b o w cs t va vn vc xs)(i:Int)(hi:i<0\/(xs.length:Int)<=i):Calls Tryz.prog 195 #[.pointer (some ⟨b,o,none⟩),.int .i64 i] w fun e w'=>e=.returned (.agg #[.int .i64 0,.bool false,.int .i64 0,.string ⟨#[]⟩,.pointer none])/\Below w.heap.size w w':=by
 have c:=Dp h.blk h.cell;have lb:=A5 h.blk;have hv:vn=xs.length:=(C9 h.own).1;subst hv;clear h;by_cases h0:i<0
 ·exact z1ya
 ·have h1:(xs.length:Int)<=i:=by omega
  exact z1ya
theorem z3ka {P:Prop} (h:P:=by
  rw[show((i.toNat:Nat):Int)=i by omega]at this;rw[hx];exact this):P:=h
theorem Yw(h:Dh 225 5 (C7 β) b o w cs t va vn vc xs)(i:Int)(hb:xs.length<=1000000)(x:PV)(hx:x=if i<0 then Ag else(xs[i.toNat]?).getD Ag):Calls Tryz.prog 195 #[.pointer (some ⟨b,o,none⟩),.int .i64 i] w fun e w'=>e=.returned (.agg #[.int .i64 (x.k:Nat),.bool x.y,.int .i64 x.n,.string ⟨x.t.toArray⟩,.pointer (Bk β x)])/\Below w.heap.size w w':=by
 by_cases h0:i<0
 ·rw[if_pos h0]at hx;subst hx;exact A4s h i (.inl h0)
 ·rw[if_neg h0]at hx;by_cases h1:i.toNat<xs.length
  ·rw[List.getElem?_eq_getElem h1]at hx;have:=Apu h i.toNat h1 hb;exact z3ka
  ·rw[List.getElem?_eq_none z4va]at hx;subst hx;exact A4s h i (.inr z4va)
theorem z0ea {P:Prop} (h:P:=by
  have hgb:g≠b:=by
   rcases HAt.o with e|e
   ·intro e2;rw[e2]at e;exact HNe.o e
   ·omega
  refine⟨rfl,g,cap,⟨heap_set A4.o _,?_,?_,by simp only[Value.ownBlock,ne_eq,Option.some.injEq];exact hgb⟩,HAt.o.imp id (fun e=>by omega),⟨HGrow.o.os.trans Af.o.os,HGrow.o.tape.trans Af.o.tape,HGrow.o.output.trans Af.o.output,by have:=HGrow.o.size;have:=HXb.o;simp[World.setCell];omega,fun k hk hkb hkr=>?_⟩⟩
  ·exact z1za
  ·rw[List.length_append,R7,Sz];exact z3da
  ·have hkx:=HXb.o;exact((Below.heap_setCell _ _ _ _ (by exact hkb)).trans (HGrow.o.block k z4va (fun e=>hkr e.symm))).trans (Af.o.block k z4va)):P:=h
theorem Apv(h:Dh 225 5 (C7 β) b o w cs t va vn vc xs)(hn:xs.length<=900000)(u:PV)(ho:o<cs.size):Calls Tryz.prog 99 #[.pointer (some ⟨b,o,none⟩),.agg #[.int .i64 (u.k:Nat),.bool u.y,.int .i64 u.n,.string ⟨u.t.toArray⟩,.pointer (Bk β u)]] w fun e w'=>e=.returned (.tuple #[])/\Vi 225 5 (C7 β) b o w cs t va vn vc xs u w':=by
 have H8:Dh 225 5 (C7 β) b o (w.alloc (.cells #[.int .i64 (u.k:Nat),.bool u.y,.int .i64 u.n,.string ⟨u.t.toArray⟩,.pointer (Bk β u)] 225)) cs t va vn vc xs:=h.keep (fun g hg=>Below.heap_alloc _ _ _ hg);have Bf:Below w.heap.size w (w.alloc (.cells #[.int .i64 (u.k:Nat),.bool u.y,.int .i64 u.n,.string ⟨u.t.toArray⟩,.pointer (Bk β u)] 225)):=Below.alloc (Below.refl _ _) (Nat.le_refl _) _;have F9:=heap_alloc_new w (.cells #[.int .i64 (u.k:Nat),.bool u.y,.int .i64 u.n,.string ⟨u.t.toArray⟩,.pointer (Bk β u)] 225);have hlr:=Bn h.own;clear h;generalize hW:w.alloc (.cells #[.int .i64 (u.k:Nat),.bool u.y,.int .i64 u.n,.string ⟨u.t.toArray⟩,.pointer (Bk β u)] 225)=w0 at *;generalize hxb:w.heap.size=xb at *;have HW:=A0 hW;have HXb:=A0 hxb;have Af:=A0 Bf;have hsz0:=Bf.size;clear hW Bf;have c:=Dp H8.blk H8.cell;have lb:=A5 H8.blk;have hv:vn=xs.length:=(C9 H8.own).1;subst hv;have x0:=A2 F9 0 _ rfl;have x1:=A2 F9 1 _ rfl;have x2:=A2 F9 2 _ rfl;have x3:=A2 F9 3 _ rfl;have x4:=A2 F9 4 _ rfl;have lx:=A5 F9;have hown:w0.drew.ownsRow 0 225 5 (.slice va xs.length vc) xs.length (Bw (C7 β) xs):=B4 H8.own (fun _ _ _=>rfl);have HH:=A0 H8;have HNe:=A0 H8.ne;have HLr:=A0 hlr;clear H8 F9 hxb hlr;go_enter Tryz.func99,Tryz.ntmps99;go_wp2;rw[HW.o,HXb.o];go_region_law (refine Nc _ w0.heap.size #[.int .i64 (u.k:Nat),.bool u.y,.int .i64 u.n,.string ⟨u.t.toArray⟩,.pointer (Bk β u)] 225 (heap_alloc_new w0.drew _) rfl (.tmp 8) (.tmp 10) 158 rfl 0 5 48 _ Tryz.underlying158 Uf rfl z4va (.slice va xs.length vc) xs.length (Bw (C7 β) xs) rfl rfl (hown.alloc _) rfl (fun v hv=>by simp at hv;rcases hv with rfl|rfl|rfl|rfl|rfl <;> rfl) z4va z4va (Nat.zero_le _) ?_;intro g cap w1 F0 hgrow' hat' hg;have F3:=M5 (World.grownBy_alloc w0.drew _ none) hgrow';have hgrow:w0.grownBy w1 (Value.slice va xs.length vc).ownBlock:=⟨F3.os,F3.tape,F3.output,F3.size,F3.block⟩;clear F3;have hat:(Value.slice va xs.length vc).ownBlock=some g\/w0.heap.size<=g:=hat'.imp id (fun e=>by rw[e];simp);have A1:=(hgrow.block b lb (fun e=>HNe.o e.symm)).trans HH.o.blk;have c1:=Dp A1 HH.o.cell;have f1:=Bd A1;have Bj:=A5 A1;have A4:=A0 A1;have HOwn1:=A0 F0;have HGrow:=A0 hgrow;have HAt:=A0 hat;clear A1 F0 hgrow hat hgrow' hat')
 all_goals go_wp2
 all_goals go_end0
 all_goals
  exact z0ea
theorem z3qa {P:Prop} (h:P:=by
  exact(hset k hkb).trans (p5 k (fun e=>hkr (by rw[e];rfl)))):P:=h
theorem A4q(h:Dh 225 5 (C7 β) b o w cs t va vn vc xs)(m:Nat)(hm:m<=xs.length)(ho:o<cs.size):Calls Tryz.prog 205 #[.pointer (some ⟨b,o,none⟩),.int .i64 (m:Nat)] w fun e w'=>e=.returned (.tuple #[])/\Jr 225 5 (C7 β) b o w cs t va vn vc xs m w':=by
 have c:=Dp h.blk h.cell;have lb:=A5 h.blk;have hv:vn=xs.length:=(C9 h.own).1;subst hv;have fz:=Bd h.blk;have HH:=A0 h;have HNe:=A0 h.ne;by_cases he:m=xs.length
 ·subst he;clear h;go_enter Tryz.func205,Tryz.ntmps205;go_wp2;refine bodyPost_ret (v:=.tuple #[]) (by simp[results,Tryz.results205,go_sem]) rfl ⟨rfl,?_,Fp.refl _ _ _⟩;exact z25a
 ·obtain⟨hl,⟨h2,h3⟩|⟨g,cap,cur,hv,_,hg,hcap',hmx,hsz,ht⟩⟩:=h.own
  ·omega
  ·injection hv with e1 e2 e3;subst e1 e3;have hgb:g≠b:=fun e=>h.ne z5ra;have fg:=Bd hg;have lg:=A5 hg;have hzs:(.agg #[.int .i64 0,.bool false,.int .i64 0,.string ⟨#[]⟩,.pointer none]:Value).cells.size=5:=rfl;have hmul:m*5+(xs.length-m)*5=xs.length*5:=by omega
   have hcs:∀j,j<(xs.length-m)*(.agg #[.int .i64 0,.bool false,.int .i64 0,.string ⟨#[]⟩,.pointer none]:Value).cells.size->(w.cell? ⟨g,m*5+j,none⟩).isSome=true:=by
    intro j hj;rw[hzs]at hj;rw[cell_of_row w g (m*5+j) cur _ _ hg,Array.getElem?_eq_getElem z4va];rfl
   have hcl:∀ty,(Builtin.clear_ #[158] ty #[.slice (some ⟨g,m*5,none⟩) (xs.length-m) (vc-m)]).run Tryz.prog w=.ok (.tuple #[]) (w.setCells g (m*5) (Builtin.zeroCells (.agg #[.int .i64 0,.bool false,.int .i64 0,.string ⟨#[]⟩,.pointer none]:Value).cells (xs.length-m)).toList):=
    fun ty=>Y8 w 158 225 ty (.agg #[.int .i64 0,.bool false,.int .i64 0,.string ⟨#[]⟩,.pointer none]) Tryz.underlying158 Tryz.zeroValue225 (by rw[hzs];omega) (fun v hv=>by simp[Value.cells]at hv;rcases hv with rfl|rfl|rfl|rfl|rfl <;> rfl) g (m*5) (xs.length-m) (vc-m) z4va hcs (fun j hj=>fg _)
   obtain⟨cur',k1,k2,k3⟩:=Pr g 225 (0,0) (Builtin.zeroCells (.agg #[.int .i64 0,.bool false,.int .i64 0,.string ⟨#[]⟩,.pointer none]:Value).cells (xs.length-m)).toList (m*5) cur w hg;obtain⟨f1,f2,f3,f4,f5⟩:=Kv g (Builtin.zeroCells (.agg #[.int .i64 0,.bool false,.int .i64 0,.string ⟨#[]⟩,.pointer none]:Value).cells (xs.length-m)).toList (m*5) w;have A1:=(f5 b (fun e=>hgb e.symm)).trans h.blk;have I3:=A0 k1;have HK3:=A0 (k3 (m*5) (Nat.le_refl _));have HF:=A0 (And.intro f1 (And.intro f2 (And.intro f3 (And.intro f4 f5))));have HT:=A0 ht;have HSz:=A0 (k2.trans hsz);have hlen9:=hcap';clear h hcs hg ht k1 k2 k3 f1 f2 f3 f5 hl hsz hzs hmul;have c1:=Dp A1 HH.o.cell;have g1:=Bd A1;have Bj:=A5 A1;have A4:=A0 A1;clear A1 f4;generalize w.setCells g (m*5) (Builtin.zeroCells (.agg #[.int .i64 0,.bool false,.int .i64 0,.string ⟨#[]⟩,.pointer none]:Value).cells (xs.length-m)).toList=w1 at *;go_enter Tryz.func205,Tryz.ntmps205;go_wp2;go_end0;obtain⟨p1,p2,p3,p4,p5⟩:=HF.o;have hset:∀k,k≠b->(w1.setCell ⟨b,o,none⟩ (.slice (some ⟨g,0,none⟩) m vc)).heap[k]?=w1.heap[k]?:=fun k hk=>Below.heap_setCell _ _ _ _ z5sa;refine⟨rfl,⟨heap_set A4.o _,?_,⟨?_,.inr ⟨g,vc,cur',?_,Nat.zero_le _,(hset g hgb).trans I3.o,?_,hmx,HSz.o,?_⟩⟩,?_⟩,⟨p1,p2,p3,by simp[World.setCell];omega,fun k hk hkb hkr=>?_⟩⟩
   ·exact z1za
   ·exact Lr (f:=(C7 β)) (sz:=5) (fun _=>rfl) _
   ·exact z3wa
   ·exact z3ma
   ·rw[List.length_take,Nat.min_eq_left hm,HK3.o,←Y6 (sz:=5) (fun _=>rfl),←HT.o,List.take_take,Nat.min_eq_left z4va]
   ·exact z2pa
   ·exact z3qa
theorem z3ia {P:Prop} (h:P:=by
  repeat (first|exact A4.o|refine Below.alloc ?_ z50a _|refine Below.setCell ?_ z50a _|refine Below.drew ?_)):P:=h
theorem A4u(h:Dh 225 5 (C7 β) b o w cs t va vn vc xs)(hb:xs.length<=1000000)(x:PV)(hx:x=xs.getLastD Ag):Calls Tryz.prog 200 #[.pointer (some ⟨b,o,none⟩)] w fun e w'=>e=.returned (.agg #[.int .i64 (x.k:Nat),.bool x.y,.int .i64 x.n,.string ⟨x.t.toArray⟩,.pointer (Bk β x)])/\Below w.heap.size w w':=by
 have lb:=A5 h.blk;have HL:=A0 (Yx (h.keep (w':=w.alloc (.cells #[.int .i64 0,.bool false,.int .i64 0,.string ⟨#[]⟩,.pointer none] 225)) (fun g hg=>Below.heap_alloc _ _ _ hg)));have HA:=A0 (Yw (h.keep (w':=w.alloc (.cells #[.int .i64 0,.bool false,.int .i64 0,.string ⟨#[]⟩,.pointer none] 225)) (fun g hg=>Below.heap_alloc _ _ _ hg)) ((xs.length:Int)-1) hb x (by rw[hx];exact Qu _ xs));clear h hx;go_enter Tryz.func200,Tryz.ntmps200;go_wp2_with fail
 refine HL.o.mono ?_;rintro e w0 ⟨rfl,Cz⟩;subst Cz;go_wp2_with fail
 refine HA.o.mono ?_;rintro e w1 ⟨rfl,A1⟩;have hR:=Fq A1 (heap_alloc_new w (.cells #[.int .i64 0,.bool false,.int .i64 0,.string ⟨#[]⟩,.pointer none] 225));have r0:=A2 hR 0 _ rfl;have r1:=A2 hR 1 _ rfl;have r2:=A2 hR 2 _ rfl;have r3:=A2 hR 3 _ rfl;have r4:=A2 hR 4 _ rfl;have fr:=Bd hR;have lr:=A5 hR;have A4:Hid (Below w.heap.size w w1):=(Below.alloc (Below.refl _ _) (Nat.le_refl _) _).trans (A1.mono z50a);clear A1 hR HL HA;go_wp2;refine bodyPost_ret (v:=.agg #[.int .i64 (x.k:Nat),.bool x.y,.int .i64 x.n,.string ⟨x.t.toArray⟩,.pointer (Bk β x)]) (by simp[results,Tryz.results200,go_sem,r0,r1,r2,r3,r4]) rfl ⟨rfl,?_⟩;exact z3ia
theorem z2wa {P:Prop} (h:P:=by
  go_enter Tryz.func205,Tryz.ntmps205;go_wp2;refine bodyPost_ret (v:=.tuple #[]) (by simp[results,Tryz.results205,go_sem]) rfl ⟨rfl,rfl⟩):P:=h
theorem A4r(h:Dh 225 5 (C7 β) b o w cs t va vn vc xs)(i:Int)(hi:i<0):Calls Tryz.prog 205 #[.pointer (some ⟨b,o,none⟩),.int .i64 i] w fun e w'=>e=.returned (.tuple #[])/\w'=w:=by
 have c:=Dp h.blk h.cell;have lb:=A5 h.blk;have hv:vn=xs.length:=(C9 h.own).1;subst hv;clear h;exact z2wa
theorem Aps(h:Dh 225 5 (C7 β) b o w cs t va vn vc xs)(i:Int)(hi:(xs.length:Int)<=i):Calls Tryz.prog 205 #[.pointer (some ⟨b,o,none⟩),.int .i64 i] w fun e w'=>e=.returned (.tuple #[])/\w'=w:=by
 have c:=Dp h.blk h.cell;have lb:=A5 h.blk;have hv:vn=xs.length:=(C9 h.own).1;subst hv;clear h;have h0:¬i<0:=by omega
 exact z2wa
theorem z1oa {P:Prop} (h:P:=by
  rintro e w' ⟨rfl,rfl⟩;have hvn:vn=xs.length:=(C9 h.own).1;refine⟨rfl,?_,Fp.refl _ _ _⟩;have hx:xs=[]:=List.length_eq_zero_iff.1 h0;subst hx;simp only[List.length_nil]at hvn;subst hvn;show Dh _ _ _ b o w' (cs.setIfInBounds o (.slice va 0 vc)) t va 0 vc [];rw[O6 h.cell];exact h):P:=h
theorem z4ma {P:Prop} (h:P:=by
  rw[show(((xs.length-1:Nat)):Int)=(xs.length:Int)-1 by omega]at this;exact this):P:=h
theorem Apt(h:Dh 225 5 (C7 β) b o w cs t va vn vc xs)(ho:o<cs.size):Calls Tryz.prog 205 #[.pointer (some ⟨b,o,none⟩),.int .i64 ((xs.length:Int)-1)] w fun e w'=>e=.returned (.tuple #[])/\Jr 225 5 (C7 β) b o w cs t va vn vc xs (xs.length-1) w':=by
 by_cases h0:xs.length=0
 ·refine(A4r h _ z4va).mono ?_;exact z1oa
 ·have:=A4q h (xs.length-1) z4va ho;exact z4ma
theorem z3na {P:Prop} (h:P:=by
  have hcut:=Jr.res ⟨Bc.o,HF3.o⟩ Aa.o;repeat (first|exact hcut|refine Jr.set ?_ lb HRl.o (Nat.le_refl _) _)):P:=h
theorem A4t(h:Dh 225 5 (C7 β) b o w cs t va vn vc xs)(hb:xs.length<=1000000)(ho:o<cs.size)(x:PV)(hx:x=xs.getLastD Ag):Calls Tryz.prog 197 #[.pointer (some ⟨b,o,none⟩)] w fun e w'=>e=.returned (.agg #[.int .i64 (x.k:Nat),.bool x.y,.int .i64 x.n,.string ⟨x.t.toArray⟩,.pointer (Bk β x)])/\Jr 225 5 (C7 β) b o w cs t va vn vc xs (xs.length-1) w':=by
 have lb:=A5 h.blk;have HKeep:=A0 (fun(W:World) (hW:Below w.heap.size w W)=>h.keep (w':=W) hW.block);have HT:=A0 (fun(W:World) (hs:Dh 225 5 (C7 β) b o W cs t va vn vc xs)=>A4u hs hb x hx);have HL:=A0 (fun(W:World) (hs:Dh 225 5 (C7 β) b o W cs t va vn vc xs)=>Yx hs);have HC:=A0 (fun(W:World) (hs:Dh 225 5 (C7 β) b o W cs t va vn vc xs)=>Apt hs ho);have HRl:=A0 (Bn h.own);clear h hx;have Bf:Below w.heap.size w (w.alloc (.cells #[.int .i64 0,.bool false,.int .i64 0,.string ⟨#[]⟩,.pointer none] 225)):=Below.alloc (Below.refl _ _) (Nat.le_refl _) _;have Af:=A0 Bf;clear Bf;go_enter Tryz.func197,Tryz.ntmps197;go_wp2_with fail
 refine(HT.o _ (HKeep.o _ Af.o)).mono ?_;rintro e w1 ⟨rfl,A1⟩;have hR1:=Fq A1 (heap_alloc_new w (.cells #[.int .i64 0,.bool false,.int .i64 0,.string ⟨#[]⟩,.pointer none] 225));have A4:Hid (Below w.heap.size w w1):=Af.o.trans (A1.mono z50a);have F6:=A0 hR1;have E6:=A5 hR1;clear A1 hR1;go_wp2_with fail
 have A8:Below w.heap.size w (w1.alloc (.cells #[.int .i64 (x.k:Nat),.bool x.y,.int .i64 x.n,.string ⟨x.t.toArray⟩,.pointer (Bk β x)] 225)):=Below.alloc A4.o z4va _;refine(HL.o _ (HKeep.o _ A8)).mono ?_;rintro e w2 ⟨rfl,Fk⟩;have Ei:w2.heap[w.heap.size]?=some (.cells #[.int .i64 0,.bool false,.int .i64 0,.string ⟨#[]⟩,.pointer none] 225 (0,0)):=by rw[Fk];exact alloc_old F6.o
 have Jd:w2.heap[w1.heap.size]?=some (.cells #[.int .i64 (x.k:Nat),.bool x.y,.int .i64 x.n,.string ⟨x.t.toArray⟩,.pointer (Bk β x)] 225 (0,0)):=by rw[Fk];exact heap_alloc_new _ _
 have hB2:Below w.heap.size w w2:=by rw[Fk];exact A8
 have Cd:=A0 Ei;have HT2:=A0 Jd;have Aa:=A0 hB2;have Ev:=A0 (HC.o _ (HKeep.o _ hB2));clear Fk A8 Ei Jd hB2;go_wp2_with fail
 refine Ev.o.mono ?_;rintro e w3 ⟨rfl,C6,hf3⟩;have hlw2:=A5 HT2.o;have hrow:∀k,w.heap.size<=k->(Value.slice va vn vc).ownBlock≠some k:=fun k hk e=>by have:=HRl.o k e;omega
 have I8:=(hf3.block w.heap.size (A5 Cd.o) z4va (hrow _ (Nat.le_refl _))).trans Cd.o;have Iw:=(hf3.block w1.heap.size hlw2 z4va (hrow _ z4va)).trans HT2.o;have r0:=A2 I8 0 _ rfl;have q0:=A2 Iw 0 _ rfl;have r1:=A2 I8 1 _ rfl;have q1:=A2 Iw 1 _ rfl;have r2:=A2 I8 2 _ rfl;have q2:=A2 Iw 2 _ rfl;have r3:=A2 I8 3 _ rfl;have q3:=A2 Iw 3 _ rfl;have r4:=A2 I8 4 _ rfl;have q4:=A2 Iw 4 _ rfl;have fr:=Bd I8;have lr:=A5 I8;have lq:=A5 Iw;have Bc:=A0 C6;have HF3:=A0 hf3;have HRow:=A0 hrow;clear C6 hf3 hrow I8 Iw hlw2;go_wp2;refine bodyPost_ret (v:=.agg #[.int .i64 (x.k:Nat),.bool x.y,.int .i64 x.n,.string ⟨x.t.toArray⟩,.pointer (Bk β x)]) (by simp[results,Tryz.results197,go_sem,r0,r1,r2,r3,r4]) rfl ⟨rfl,?_⟩;exact z3na
theorem z4pa {P:Prop} (h:P:=by
  clear hi;go_enter Tryz.func196,Tryz.ntmps196;go_wp2;go_end0;exact⟨rfl,Bf⟩):P:=h
theorem Apx(h:Dh 225 5 (C7 β) b o w cs t va vn vc xs)(i:Int)(hi:i<0\/(xs.length:Int)<=i)(u:PV):Calls Tryz.prog 196 #[.pointer (some ⟨b,o,none⟩),.int .i64 i,.agg #[.int .i64 (u.k:Nat),.bool u.y,.int .i64 u.n,.string ⟨u.t.toArray⟩,.pointer (Bk β u)]] w fun e w'=>e=.returned (.tuple #[])/\Below w.heap.size w w':=by
 have c:=Dp h.blk h.cell;have lb:=A5 h.blk;have hv:vn=xs.length:=(C9 h.own).1;subst hv;clear h;have Bf:Below w.heap.size w (w.alloc (.cells #[.int .i64 (u.k:Nat),.bool u.y,.int .i64 u.n,.string ⟨u.t.toArray⟩,.pointer (Bk β u)] 225)):=Below.alloc (Below.refl _ _) (Nat.le_refl _) _;by_cases h0:i<0
 ·have t0:decide (0<=i)=false:=decide_eq_false z4va;exact z4pa
 ·have h1:(xs.length:Int)<=i:=by omega
  exact z4pa
theorem Apw(h:Dh 225 5 (C7 β) b o w cs t va vn vc xs)(i:Nat)(hi:i<xs.length)(u:PV):Calls Tryz.prog 196 #[.pointer (some ⟨b,o,none⟩),.int .i64 (i:Nat),.agg #[.int .i64 (u.k:Nat),.bool u.y,.int .i64 u.n,.string ⟨u.t.toArray⟩,.pointer (Bk β u)]] w fun e w'=>e=.returned (.tuple #[])/\Nr 225 5 (C7 β) b o w cs t va vn vc (xs.set i u) w':=by
 have c:=Dp h.blk h.cell;have lb:=A5 h.blk;have hv:vn=xs.length:=(C9 h.own).1;subst hv;have hput:=h.putRow (w:=w) (fun _=>rfl) i hi u (Below.refl _ _);obtain⟨hl,⟨h2,h3⟩|⟨g,cap,cur,hv,_,hg,hcap',hmx,hsz,ht⟩⟩:=h.own
 ·omega
 injection hv with e1 e2 e3;subst e1 e3;have HPut:=A0 (hput g rfl);have hgb:g≠b:=fun e=>h.ne z5ra;have fg:=Bd hg;have lg:=A5 hg;have y0:w.cell? ⟨g,i*5+0,none⟩=some (cur[i*5+0]):=by rw[cell_of_row w g (i*5+0) cur _ _ hg,Array.getElem?_eq_getElem z4va]
 generalize cur[i*5+0]=z0 at y0;have y1:w.cell? ⟨g,i*5+1,none⟩=some (cur[i*5+1]):=by rw[cell_of_row w g (i*5+1) cur _ _ hg,Array.getElem?_eq_getElem z4va]
 generalize cur[i*5+1]=z1 at y1;have y2:w.cell? ⟨g,i*5+2,none⟩=some (cur[i*5+2]):=by rw[cell_of_row w g (i*5+2) cur _ _ hg,Array.getElem?_eq_getElem z4va]
 generalize cur[i*5+2]=z2 at y2;have y3:w.cell? ⟨g,i*5+3,none⟩=some (cur[i*5+3]):=by rw[cell_of_row w g (i*5+3) cur _ _ hg,Array.getElem?_eq_getElem z4va]
 generalize cur[i*5+3]=z3 at y3;have y4:w.cell? ⟨g,i*5+4,none⟩=some (cur[i*5+4]):=by rw[cell_of_row w g (i*5+4) cur _ _ hg,Array.getElem?_eq_getElem z4va]
 generalize cur[i*5+4]=z4 at y4;rw[Nat.add_zero]at y0;clear h hput ht hsz hmx hg hl;go_enter Tryz.func196,Tryz.ntmps196;go_wp2;go_region
 all_goals go_wp2
 all_goals go_end0
 all_goals exact⟨rfl,Nr.drew (HPut.o.alloc lb (fun k hk=>by simp only[Value.ownBlock,Option.some.injEq]at hk;rw[←hk];exact lg) _)⟩
end
section
set_option maxRecDepth 100000
open Go.RowKit
open Go.Deep (BT)
structure Eu where
 a:Option Addr
 n:Nat
 c:Nat
 pc:Nat
 base:Int
def O1:Eu:=⟨none,0,0,0,0⟩
def I7(x:Eu):List Value:=[.slice x.a x.n x.c,.int .i64 (x.pc:Nat),.int .i64 x.base]
theorem Aec:(Tryz.prog.info? 165).map (fun i=>(i.zero,i.size,i.bytes))=some (some (.agg #[.slice none 0 0,.int .i64 0,.int .i64 0]),3,40):=by kernel_rfl
variable {b o:Nat}{w:World}{cs:Array Value}{t:TypeId}{va:Option Addr}{vn vc:Nat}{xs:List Eu}
theorem X4(h:Dh 165 3 I7 b o w cs t va vn vc xs):Calls Tryz.prog 202 #[.pointer (some ⟨b,o,none⟩)] w fun e w'=>e=.returned (.int .i64 (xs.length:Nat))/\w'=w:=by
 have c:=Dp h.blk h.cell;have lb:=A5 h.blk;have hv:vn=xs.length:=(C9 h.own).1;subst hv;clear h;go_enter Tryz.func202,Tryz.ntmps202;exact z03a
theorem Ads(h:Dh 165 3 I7 b o w cs t va vn vc xs)(i:Nat)(hi:i<xs.length)(hb:xs.length<=1000000):Calls Tryz.prog 280 #[.pointer (some ⟨b,o,none⟩),.int .i64 (i:Nat)] w fun e w'=>e=.returned (.agg #[.slice (xs[i]).a (xs[i]).n (xs[i]).c,.int .i64 ((xs[i]).pc:Nat),.int .i64 (xs[i]).base])/\Below w.heap.size w w':=by
 have c:=Dp h.blk h.cell;have lb:=A5 h.blk;have hv:vn=xs.length:=(C9 h.own).1;subst hv;obtain⟨g,rfl,hvn9,hcap,lg,hcell⟩:=Fo h.own z4va;clear hvn9;have d0:=hcell (i*3+0) _ ((D1 (sz:=3) (fun _=>rfl) xs i 0 hi z4va).trans rfl);have d1:=hcell (i*3+1) _ ((D1 (sz:=3) (fun _=>rfl) xs i 1 hi z4va).trans rfl);have d2:=hcell (i*3+2) _ ((D1 (sz:=3) (fun _=>rfl) xs i 2 hi z4va).trans rfl);rw[Nat.add_zero]at d0;clear h hcell;generalize xs[i]=x at *;go_enter Tryz.func280,Tryz.ntmps280;go_wp2;refine bodyPost_ret (v:=.agg #[.slice x.a x.n x.c,.int .i64 (x.pc:Nat),.int .i64 x.base]) (by simp[results,Tryz.results280,go_sem]) rfl ⟨rfl,?_⟩;exact z40a
theorem z2ca {P:Prop} (h:P:=by
  clear hi;go_enter Tryz.func280,Tryz.ntmps280;go_wp2;refine bodyPost_ret (v:=.agg #[.slice none 0 0,.int .i64 0,.int .i64 0]) (by simp[results,Tryz.results280,go_sem]) rfl ⟨rfl,?_⟩;exact z04a):P:=h
theorem A11(h:Dh 165 3 I7 b o w cs t va vn vc xs)(i:Int)(hi:i<0\/(xs.length:Int)<=i):Calls Tryz.prog 280 #[.pointer (some ⟨b,o,none⟩),.int .i64 i] w fun e w'=>e=.returned (.agg #[.slice none 0 0,.int .i64 0,.int .i64 0])/\Below w.heap.size w w':=by
 have c:=Dp h.blk h.cell;have lb:=A5 h.blk;have hv:vn=xs.length:=(C9 h.own).1;subst hv;clear h;by_cases h0:i<0
 ·exact z2ca
 ·have h1:(xs.length:Int)<=i:=by omega
  exact z2ca
theorem Ado(h:Dh 165 3 I7 b o w cs t va vn vc xs)(i:Int)(hb:xs.length<=1000000)(x:Eu)(hx:x=if i<0 then O1 else(xs[i.toNat]?).getD O1):Calls Tryz.prog 280 #[.pointer (some ⟨b,o,none⟩),.int .i64 i] w fun e w'=>e=.returned (.agg #[.slice x.a x.n x.c,.int .i64 (x.pc:Nat),.int .i64 x.base])/\Below w.heap.size w w':=by
 by_cases h0:i<0
 ·rw[if_pos h0]at hx;subst hx;exact A11 h i (.inl h0)
 ·rw[if_neg h0]at hx;by_cases h1:i.toNat<xs.length
  ·rw[List.getElem?_eq_getElem h1]at hx;have:=Ads h i.toNat h1 hb;exact z3ka
  ·rw[List.getElem?_eq_none z4va]at hx;subst hx;exact A11 h i (.inr z4va)
theorem Adu(h:Dh 165 3 I7 b o w cs t va vn vc xs)(hn:xs.length<=900000)(u:Eu)(ho:o<cs.size):Calls Tryz.prog 203 #[.pointer (some ⟨b,o,none⟩),.agg #[.slice u.a u.n u.c,.int .i64 (u.pc:Nat),.int .i64 u.base]] w fun e w'=>e=.returned (.tuple #[])/\Vi 165 3 I7 b o w cs t va vn vc xs u w':=by
 have H8:Dh 165 3 I7 b o (w.alloc (.cells #[.slice u.a u.n u.c,.int .i64 (u.pc:Nat),.int .i64 u.base] 165)) cs t va vn vc xs:=h.keep (fun g hg=>Below.heap_alloc _ _ _ hg);have Bf:Below w.heap.size w (w.alloc (.cells #[.slice u.a u.n u.c,.int .i64 (u.pc:Nat),.int .i64 u.base] 165)):=Below.alloc (Below.refl _ _) (Nat.le_refl _) _;have F9:=heap_alloc_new w (.cells #[.slice u.a u.n u.c,.int .i64 (u.pc:Nat),.int .i64 u.base] 165);have hlr:=Bn h.own;clear h;generalize hW:w.alloc (.cells #[.slice u.a u.n u.c,.int .i64 (u.pc:Nat),.int .i64 u.base] 165)=w0 at *;generalize hxb:w.heap.size=xb at *;have HW:=A0 hW;have HXb:=A0 hxb;have Af:=A0 Bf;have hsz0:=Bf.size;clear hW Bf;have c:=Dp H8.blk H8.cell;have lb:=A5 H8.blk;have hv:vn=xs.length:=(C9 H8.own).1;subst hv;have x0:=A2 F9 0 _ rfl;have x1:=A2 F9 1 _ rfl;have x2:=A2 F9 2 _ rfl;have lx:=A5 F9;have hown:w0.drew.ownsRow 0 165 3 (.slice va xs.length vc) xs.length (Bw I7 xs):=B4 H8.own (fun _ _ _=>rfl);have HH:=A0 H8;have HNe:=A0 H8.ne;have HLr:=A0 hlr;clear H8 F9 hxb hlr;go_enter Tryz.func203,Tryz.ntmps203;go_wp2;rw[HW.o,HXb.o];go_region_law (refine Nc _ w0.heap.size #[.slice u.a u.n u.c,.int .i64 (u.pc:Nat),.int .i64 u.base] 165 (heap_alloc_new w0.drew _) rfl (.tmp 8) (.tmp 10) 161 rfl 0 3 40 _ Tryz.underlying161 Aec rfl z4va (.slice va xs.length vc) xs.length (Bw I7 xs) rfl rfl (hown.alloc _) rfl (fun v hv=>by simp at hv;rcases hv with rfl|rfl|rfl <;> rfl) z4va z4va (Nat.zero_le _) ?_;intro g cap w1 F0 hgrow' hat' hg;have F3:=M5 (World.grownBy_alloc w0.drew _ none) hgrow';have hgrow:w0.grownBy w1 (Value.slice va xs.length vc).ownBlock:=⟨F3.os,F3.tape,F3.output,F3.size,F3.block⟩;clear F3;have hat:(Value.slice va xs.length vc).ownBlock=some g\/w0.heap.size<=g:=hat'.imp id (fun e=>by rw[e];simp);have A1:=(hgrow.block b lb (fun e=>HNe.o e.symm)).trans HH.o.blk;have c1:=Dp A1 HH.o.cell;have f1:=Bd A1;have Bj:=A5 A1;have A4:=A0 A1;have HOwn1:=A0 F0;have HGrow:=A0 hgrow;have HAt:=A0 hat;clear A1 F0 hgrow hat hgrow' hat')
 all_goals go_wp2
 all_goals go_end0
 all_goals
  exact z0ea
theorem Adp(h:Dh 165 3 I7 b o w cs t va vn vc xs)(m:Nat)(hm:m<=xs.length)(ho:o<cs.size):Calls Tryz.prog 249 #[.pointer (some ⟨b,o,none⟩),.int .i64 (m:Nat)] w fun e w'=>e=.returned (.tuple #[])/\Jr 165 3 I7 b o w cs t va vn vc xs m w':=by
 have c:=Dp h.blk h.cell;have lb:=A5 h.blk;have hv:vn=xs.length:=(C9 h.own).1;subst hv;have fz:=Bd h.blk;have HH:=A0 h;have HNe:=A0 h.ne;by_cases he:m=xs.length
 ·subst he;clear h;go_enter Tryz.func249,Tryz.ntmps249;go_wp2;refine bodyPost_ret (v:=.tuple #[]) (by simp[results,Tryz.results249,go_sem]) rfl ⟨rfl,?_,Fp.refl _ _ _⟩;exact z25a
 ·obtain⟨hl,⟨h2,h3⟩|⟨g,cap,cur,hv,_,hg,hcap',hmx,hsz,ht⟩⟩:=h.own
  ·omega
  ·injection hv with e1 e2 e3;subst e1 e3;have hgb:g≠b:=fun e=>h.ne z5ra;have fg:=Bd hg;have lg:=A5 hg;have hzs:(.agg #[.slice none 0 0,.int .i64 0,.int .i64 0]:Value).cells.size=3:=rfl;have hmul:m*3+(xs.length-m)*3=xs.length*3:=by omega
   have hcs:∀j,j<(xs.length-m)*(.agg #[.slice none 0 0,.int .i64 0,.int .i64 0]:Value).cells.size->(w.cell? ⟨g,m*3+j,none⟩).isSome=true:=by
    intro j hj;rw[hzs]at hj;rw[cell_of_row w g (m*3+j) cur _ _ hg,Array.getElem?_eq_getElem z4va];rfl
   have hcl:∀ty,(Builtin.clear_ #[161] ty #[.slice (some ⟨g,m*3,none⟩) (xs.length-m) (vc-m)]).run Tryz.prog w=.ok (.tuple #[]) (w.setCells g (m*3) (Builtin.zeroCells (.agg #[.slice none 0 0,.int .i64 0,.int .i64 0]:Value).cells (xs.length-m)).toList):=
    fun ty=>Y8 w 161 165 ty (.agg #[.slice none 0 0,.int .i64 0,.int .i64 0]) Tryz.underlying161 Tryz.zeroValue165 (by rw[hzs];omega) (fun v hv=>by simp[Value.cells]at hv;rcases hv with rfl|rfl|rfl <;> rfl) g (m*3) (xs.length-m) (vc-m) z4va hcs (fun j hj=>fg _)
   obtain⟨cur',k1,k2,k3⟩:=Pr g 165 (0,0) (Builtin.zeroCells (.agg #[.slice none 0 0,.int .i64 0,.int .i64 0]:Value).cells (xs.length-m)).toList (m*3) cur w hg;obtain⟨f1,f2,f3,f4,f5⟩:=Kv g (Builtin.zeroCells (.agg #[.slice none 0 0,.int .i64 0,.int .i64 0]:Value).cells (xs.length-m)).toList (m*3) w;have A1:=(f5 b (fun e=>hgb e.symm)).trans h.blk;have I3:=A0 k1;have HK3:=A0 (k3 (m*3) (Nat.le_refl _));have HF:=A0 (And.intro f1 (And.intro f2 (And.intro f3 (And.intro f4 f5))));have HT:=A0 ht;have HSz:=A0 (k2.trans hsz);have hlen9:=hcap';clear h hcs hg ht k1 k2 k3 f1 f2 f3 f5 hl hsz hzs hmul;have c1:=Dp A1 HH.o.cell;have g1:=Bd A1;have Bj:=A5 A1;have A4:=A0 A1;clear A1 f4;generalize w.setCells g (m*3) (Builtin.zeroCells (.agg #[.slice none 0 0,.int .i64 0,.int .i64 0]:Value).cells (xs.length-m)).toList=w1 at *;go_enter Tryz.func249,Tryz.ntmps249;go_wp2;go_end0;obtain⟨p1,p2,p3,p4,p5⟩:=HF.o;have hset:∀k,k≠b->(w1.setCell ⟨b,o,none⟩ (.slice (some ⟨g,0,none⟩) m vc)).heap[k]?=w1.heap[k]?:=fun k hk=>Below.heap_setCell _ _ _ _ z5sa;refine⟨rfl,⟨heap_set A4.o _,?_,⟨?_,.inr ⟨g,vc,cur',?_,Nat.zero_le _,(hset g hgb).trans I3.o,?_,hmx,HSz.o,?_⟩⟩,?_⟩,⟨p1,p2,p3,by simp[World.setCell];omega,fun k hk hkb hkr=>?_⟩⟩
   ·exact z1za
   ·exact Lr (f:=I7) (sz:=3) (fun _=>rfl) _
   ·exact z3wa
   ·exact z3ma
   ·rw[List.length_take,Nat.min_eq_left hm,HK3.o,←Y6 (sz:=3) (fun _=>rfl),←HT.o,List.take_take,Nat.min_eq_left z4va]
   ·exact z2pa
   ·exact z3qa
theorem Adv(h:Dh 165 3 I7 b o w cs t va vn vc xs)(hb:xs.length<=1000000)(x:Eu)(hx:x=xs.getLastD O1):Calls Tryz.prog 248 #[.pointer (some ⟨b,o,none⟩)] w fun e w'=>e=.returned (.agg #[.slice x.a x.n x.c,.int .i64 (x.pc:Nat),.int .i64 x.base])/\Below w.heap.size w w':=by
 have lb:=A5 h.blk;have HL:=A0 (X4 (h.keep (w':=w.alloc (.cells #[.slice none 0 0,.int .i64 0,.int .i64 0] 165)) (fun g hg=>Below.heap_alloc _ _ _ hg)));have HA:=A0 (Ado (h.keep (w':=w.alloc (.cells #[.slice none 0 0,.int .i64 0,.int .i64 0] 165)) (fun g hg=>Below.heap_alloc _ _ _ hg)) ((xs.length:Int)-1) hb x (by rw[hx];exact Qu _ xs));clear h hx;go_enter Tryz.func248,Tryz.ntmps248;go_wp2_with fail
 refine HL.o.mono ?_;rintro e w0 ⟨rfl,Cz⟩;subst Cz;go_wp2_with fail
 refine HA.o.mono ?_;rintro e w1 ⟨rfl,A1⟩;have hR:=Fq A1 (heap_alloc_new w (.cells #[.slice none 0 0,.int .i64 0,.int .i64 0] 165));have r0:=A2 hR 0 _ rfl;have r1:=A2 hR 1 _ rfl;have r2:=A2 hR 2 _ rfl;have fr:=Bd hR;have lr:=A5 hR;have A4:Hid (Below w.heap.size w w1):=(Below.alloc (Below.refl _ _) (Nat.le_refl _) _).trans (A1.mono z50a);clear A1 hR HL HA;go_wp2;refine bodyPost_ret (v:=.agg #[.slice x.a x.n x.c,.int .i64 (x.pc:Nat),.int .i64 x.base]) (by simp[results,Tryz.results248,go_sem,r0,r1,r2]) rfl ⟨rfl,?_⟩;exact z3ia
theorem Adq(h:Dh 165 3 I7 b o w cs t va vn vc xs)(i:Int)(hi:i<0):Calls Tryz.prog 249 #[.pointer (some ⟨b,o,none⟩),.int .i64 i] w fun e w'=>e=.returned (.tuple #[])/\w'=w:=by
 have c:=Dp h.blk h.cell;have lb:=A5 h.blk;have hv:vn=xs.length:=(C9 h.own).1;subst hv;clear h;go_enter Tryz.func249,Tryz.ntmps249;go_wp2;refine bodyPost_ret (v:=.tuple #[]) (by simp[results,Tryz.results249,go_sem]) rfl ⟨rfl,rfl⟩
theorem Adr(h:Dh 165 3 I7 b o w cs t va vn vc xs)(ho:o<cs.size):Calls Tryz.prog 249 #[.pointer (some ⟨b,o,none⟩),.int .i64 ((xs.length:Int)-1)] w fun e w'=>e=.returned (.tuple #[])/\Jr 165 3 I7 b o w cs t va vn vc xs (xs.length-1) w':=by
 by_cases h0:xs.length=0
 ·refine(Adq h _ z4va).mono ?_;exact z1oa
 ·have:=Adp h (xs.length-1) z4va ho;exact z4ma
theorem Adt(h:Dh 165 3 I7 b o w cs t va vn vc xs)(hb:xs.length<=1000000)(ho:o<cs.size)(x:Eu)(hx:x=xs.getLastD O1):Calls Tryz.prog 206 #[.pointer (some ⟨b,o,none⟩)] w fun e w'=>e=.returned (.agg #[.slice x.a x.n x.c,.int .i64 (x.pc:Nat),.int .i64 x.base])/\Jr 165 3 I7 b o w cs t va vn vc xs (xs.length-1) w':=by
 have lb:=A5 h.blk;have HKeep:=A0 (fun(W:World) (hW:Below w.heap.size w W)=>h.keep (w':=W) hW.block);have HT:=A0 (fun(W:World) (hs:Dh 165 3 I7 b o W cs t va vn vc xs)=>Adv hs hb x hx);have HL:=A0 (fun(W:World) (hs:Dh 165 3 I7 b o W cs t va vn vc xs)=>X4 hs);have HC:=A0 (fun(W:World) (hs:Dh 165 3 I7 b o W cs t va vn vc xs)=>Adr hs ho);have HRl:=A0 (Bn h.own);clear h hx;have Bf:Below w.heap.size w (w.alloc (.cells #[.slice none 0 0,.int .i64 0,.int .i64 0] 165)):=Below.alloc (Below.refl _ _) (Nat.le_refl _) _;have Af:=A0 Bf;clear Bf;go_enter Tryz.func206,Tryz.ntmps206;go_wp2_with fail
 refine(HT.o _ (HKeep.o _ Af.o)).mono ?_;rintro e w1 ⟨rfl,A1⟩;have hR1:=Fq A1 (heap_alloc_new w (.cells #[.slice none 0 0,.int .i64 0,.int .i64 0] 165));have A4:Hid (Below w.heap.size w w1):=Af.o.trans (A1.mono z50a);have F6:=A0 hR1;have E6:=A5 hR1;clear A1 hR1;go_wp2_with fail
 have A8:Below w.heap.size w (w1.alloc (.cells #[.slice x.a x.n x.c,.int .i64 (x.pc:Nat),.int .i64 x.base] 165)):=Below.alloc A4.o z4va _;refine(HL.o _ (HKeep.o _ A8)).mono ?_;rintro e w2 ⟨rfl,Fk⟩;have Ei:w2.heap[w.heap.size]?=some (.cells #[.slice none 0 0,.int .i64 0,.int .i64 0] 165 (0,0)):=by rw[Fk];exact alloc_old F6.o
 have Jd:w2.heap[w1.heap.size]?=some (.cells #[.slice x.a x.n x.c,.int .i64 (x.pc:Nat),.int .i64 x.base] 165 (0,0)):=by rw[Fk];exact heap_alloc_new _ _
 have hB2:Below w.heap.size w w2:=by rw[Fk];exact A8
 have Cd:=A0 Ei;have HT2:=A0 Jd;have Aa:=A0 hB2;have Ev:=A0 (HC.o _ (HKeep.o _ hB2));clear Fk A8 Ei Jd hB2;go_wp2_with fail
 refine Ev.o.mono ?_;rintro e w3 ⟨rfl,C6,hf3⟩;have hlw2:=A5 HT2.o;have hrow:∀k,w.heap.size<=k->(Value.slice va vn vc).ownBlock≠some k:=fun k hk e=>by have:=HRl.o k e;omega
 have I8:=(hf3.block w.heap.size (A5 Cd.o) z4va (hrow _ (Nat.le_refl _))).trans Cd.o;have Iw:=(hf3.block w1.heap.size hlw2 z4va (hrow _ z4va)).trans HT2.o;have r0:=A2 I8 0 _ rfl;have q0:=A2 Iw 0 _ rfl;have r1:=A2 I8 1 _ rfl;have q1:=A2 Iw 1 _ rfl;have r2:=A2 I8 2 _ rfl;have q2:=A2 Iw 2 _ rfl;have fr:=Bd I8;have lr:=A5 I8;have lq:=A5 Iw;have Bc:=A0 C6;have HF3:=A0 hf3;have HRow:=A0 hrow;clear C6 hf3 hrow I8 Iw hlw2;go_wp2;refine bodyPost_ret (v:=.agg #[.slice x.a x.n x.c,.int .i64 (x.pc:Nat),.int .i64 x.base]) (by simp[results,Tryz.results206,go_sem,r0,r1,r2]) rfl ⟨rfl,?_⟩;exact z3na
end
section
open Go.RowKit
open Go.Deep (BT)
structure Jk (D : Nat -> Prop) (w : World) (x : Eu) (f : Fr) : Prop where
 row:Cw D w 251 8 (.slice x.a x.n x.c) f.steps.length (Ek f.steps)
 pc:x.pc=f.pc
 base:x.base=f.base
def Kk(D:Nat->Prop)(w:World):List Eu->List Fr->Prop
 | [],[]=>True
 | x::xs,f::fs=>Jk D w x f/\Kk D w xs fs
 | [],_::_=>False
 | _::_,[]=>False
theorem Jk.keep{D D':Nat->Prop}{w w':World}{x:Eu}{f:Fr}(h:Jk D w x f)(hk:∀g,D g->g<w.heap.size->w'.heap[g]?=w.heap[g]?/\D' g):Jk D' w' x f:=⟨h.row.keep hk,h.pc,h.base⟩
theorem Kk.keep{D D':Nat->Prop}{w w':World}(hk:∀g,D g->g<w.heap.size->w'.heap[g]?=w.heap[g]?/\D' g):∀{xs:List Eu} {fs:List Fr},Kk D w xs fs->Kk D' w' xs fs:=by
 intro xs;induction xs with
 | nil=>intro fs h;cases fs with
  | nil=>trivial
  | cons=>exact h.elim
 | cons x xs ih=>intro fs h;cases fs with
  | nil=>exact h.elim
  | cons f fs=>exact⟨h.1.keep hk,ih h.2⟩
theorem Kk.len{D:Nat->Prop}{w:World}:∀{xs:List Eu} {fs:List Fr},Kk D w xs fs->xs.length=fs.length:=by
 intro xs;induction xs with
 | nil=>intro fs h;cases fs with
  | nil=>rfl
  | cons=>exact h.elim
 | cons x xs ih=>intro fs h;cases fs with
  | nil=>exact h.elim
  | cons f fs=>simp only[List.length_cons];rw[ih h.2]
theorem Kk.app{D:Nat->Prop}{w:World}{x:Eu}{f:Fr}(hx:Jk D w x f):∀{xs:List Eu} {fs:List Fr},Kk D w xs fs->Kk D w (xs++[x]) (fs++[f]):=by
 intro xs;induction xs with
 | nil=>intro fs h;cases fs with
  | nil=>exact⟨hx,trivial⟩
  | cons=>exact h.elim
 | cons y xs ih=>intro fs h;cases fs with
  | nil=>exact h.elim
  | cons g fs=>exact⟨h.1,ih h.2⟩
abbrev AB:=Option Addr×Nat×Nat
def Lh(b:AB):Value:=.slice b.1 b.2.1 b.2.2
structure Tj (β : Nat -> Nat) (ρ : Nat -> Nat) (w : World) (ab : List AB) (arr : List (List PV)) : Prop where
 len:ab.length=arr.length
 at':∀i (h:i<ab.length) (h':i<arr.length),w.heap[β i]?=some (.cells #[Lh ab[i]] 356 (0,0))/\w.ownsRow 0 225 5 (Lh ab[i]) arr[i].length (Bw (C7 β) arr[i])/\ρ (β i)=7+2*i/\(∀g,(Lh ab[i]).ownBlock=some g->ρ g=8+2*i)
def C8(n:Nat)(v:PV):Prop:=match v.r with
 | none=>v.k≠4
 | some i=>v.k=4/\i<n
def El(k:Kn):List Value:=[.bool k.kind,.bool k.whole,.int .i64 (k.like.k:Nat),.bool k.like.y,.int .i64 k.like.n,.string ⟨k.like.t.toArray⟩,.pointer none]
def M0(D:Nat->Prop)(w:World)(p:Option Addr)(f:Option Form):Prop:=match f with
 | none=>p=none
 | some fo=>∃fb sa sn sc ka kn kc,p=some ⟨fb,0,none⟩/\D fb/\w.heap[fb]?=some (.cells #[.int .i64 (fo.slots:Nat),.slice sa sn sc,.slice ka kn kc] 381 (0,0))/\Cw D w 251 8 (.slice sa sn sc) fo.steps.length (Ek fo.steps)/\Cw D w 407 7 (.slice ka kn kc) fo.bet.length (Bw El fo.bet)
theorem M0.keep{D D':Nat->Prop}{w w':World}{p:Option Addr}{f:Option Form}(h:M0 D w p f)(hk:∀g,D g->g<w.heap.size->w'.heap[g]?=w.heap[g]?/\D' g):M0 D' w' p f:=by
 unfold M0 at h ⊢;cases f with
 | none=>exact h
 | some fo=>
  obtain⟨fb,sa,sn,sc,ka,kn,kc,e1,e2,e3,e4,e5⟩:=h;exact⟨fb,sa,sn,sc,ka,kn,kc,e1,(hk fb e2 (A5 e3)).2,(hk fb e2 (A5 e3)).1.trans e3,e4.keep hk,e5.keep hk⟩
def Ip(q:Option Addr×Dv):List Value:=[.int .i64 (q.2.calls:Nat),.pointer q.1,.int .i64 (q.2.fast:Nat),.int .i64 (q.2.drops:Nat)]
def T6(l:List UInt8):List Value:=[.string ⟨l.toArray⟩]
structure MC where
 mb:Nat
 pb:Nat
 P:D7
 ba:Option Addr
 bn:Nat
 bc:Nat
structure Oe where
 la:Option Addr
 ln:Nat
 lc:Nat
 ga:Option Addr
 gn:Nat
 gc:Nat
 va:Option Addr
 vn:Nat
 vc:Nat
 ca:Option Addr
 cn:Nat
 cc:Nat
 oa:Option Addr
 on:Nat
 oc:Nat
def MC.cells(C:MC)(s:Oe)(x:Eu)(fuel cells code line:Nat):Array Value:=#[.pointer (some ⟨C.pb,0,none⟩),.slice C.ba C.bn C.bc,.slice s.la s.ln s.lc,.slice s.ga s.gn s.gc,.slice s.va s.vn s.vc,.slice s.ca s.cn s.cc,.slice x.a x.n x.c,.int .i64 (x.pc:Nat),.int .i64 x.base,.int .i64 (fuel:Nat),.int .i64 (cells:Nat),.slice s.oa s.on s.oc,.int .i64 (code:Nat),.int .i64 (line:Nat)]
def dx(D X:Nat->Prop):Nat->Prop:=fun g=>D g\/X g
structure MC.Mv (C : MC) (D X : Nat -> Prop) (w : World) (m : MS) (ρ β : Nat -> Nat) (s : Oe) (x : Eu) (fv : List Eu) (ab : List AB) (lp : List (Option Addr × Dv)) : Prop where
 cell:w.heap[C.mb]?=some (.cells (C.cells s x m.fuel m.cells m.code m.line) 167 (0,0))
 prog:K3 D w C.pb C.P
 lots:w.ownsRow 0 172 4 (.slice s.la s.ln s.lc) lp.length (Bw Ip lp)
 loto:∀g,(Value.slice s.la s.ln s.lc).ownBlock=some g->ρ g=2
 lotm:m.lots=lp.map Prod.snd
 forms:∀q∈lp,M0 D w q.1 q.2.form
 gl:w.ownsRow 0 225 5 (.slice s.ga s.gn s.gc) m.gl.length (Bw (C7 β) m.gl)
 glo:∀g,(Value.slice s.ga s.gn s.gc).ownBlock=some g->ρ g=3
 vals:w.ownsRow 0 225 5 (.slice s.va s.vn s.vc) m.vals.length (Bw (C7 β) m.vals)
 valo:∀g,(Value.slice s.va s.vn s.vc).ownBlock=some g->ρ g=4
 calls:w.ownsRow 0 165 3 (.slice s.ca s.cn s.cc) fv.length (Bw I7 fv)
 callo:∀g,(Value.slice s.ca s.cn s.cc).ownBlock=some g->ρ g=5
 frs:Kk D w fv m.calls
 now:Jk D w x m.now
 out:w.ownsRow 0 9 1 (.slice s.oa s.on s.oc) m.out.length (Bw T6 m.out)
 outo:∀g,(Value.slice s.oa s.on s.oc).ownBlock=some g->ρ g=6
 arr:Tj β ρ w ab m.arr
 prot:∀g,dx D X g->g<w.heap.size/\ρ g=0
 one:ρ C.mb=1/\∀g,ρ g=1->g=C.mb
 Br:m.vals.length<=100000/\m.calls.length<=100/\m.out.length<=100
 vv:(∀v∈m.vals,C8 m.arr.length v)/\(∀v∈m.gl,C8 m.arr.length v)/\(∀l∈m.arr,∀v∈l,C8 m.arr.length v)
def MC.Ms(C:MC)(D X:Nat->Prop)(β:Nat->Nat)(w:World)(m:MS):Prop:=∃ρ s x fv ab lp,C.Mv D X w m ρ β s x fv ab lp
theorem Tj.keep{β ρ ρ':Nat->Nat}{w w':World}{ab:List AB}{arr:List (List PV)}(h:Tj β ρ w ab arr)(hk:∀g,g<w.heap.size->7<=ρ g->w'.heap[g]?=w.heap[g]?/\ρ' g=ρ g):Tj β ρ' w' ab arr:=by
 refine⟨h.len,fun i h1 h2=>?_⟩;obtain⟨k1,k2,k3,k4⟩:=h.at' i h1 h2;have q:=hk (β i) (A5 k1) z4va;refine⟨q.1.trans k1,B4 k2 (fun g hg hl=>(hk g hl (by rw[k4 g hg];omega)).1),q.2.trans k3,fun g hg=>?_⟩;exact(hk g (Bn k2 g hg) (by rw[k4 g hg];omega)).2.trans (k4 g hg)
variable {C:MC} {D X:Nat->Prop} {w w':World} {m:MS} {ρ β:Nat->Nat} {s:Oe} {x:Eu} {fv:List Eu} {ab:List AB} {lp:List (Option Addr×Dv)}
theorem MC.Mv.Ma(h:C.Mv D X w m ρ β s x fv ab lp):Dh 225 5 (C7 β) C.mb 4 w (C.cells s x m.fuel m.cells m.code m.line) 167 s.va s.vn s.vc m.vals:=
 ⟨h.cell,rfl,h.vals,fun e=>by have:=h.valo _ e;rw[h.one.1]at this;omega⟩
theorem MC.Mv.Mk(h:C.Mv D X w m ρ β s x fv ab lp):Dh 165 3 I7 C.mb 5 w (C.cells s x m.fuel m.cells m.code m.line) 167 s.ca s.cn s.cc fv:=
 ⟨h.cell,rfl,h.calls,fun e=>by have:=h.callo _ e;rw[h.one.1]at this;omega⟩
theorem MC.Mv.lo(h:C.Mv D X w m ρ β s x fv ab lp):C.mb<w.heap.size/\¬dx D X C.mb:=⟨A5 h.cell,fun hd=>by have:=(h.prot _ hd).2;rw[h.one.1]at this;cases this⟩
theorem MC.Mv.F7(h:C.Mv D X w m ρ β s x fv ab lp){c:Nat}(hc:G9 c ρ w w')(h0:c≠0):A3 (dx D X) w w':=hc.Bq h.prot h0
theorem z54a {P:Prop} (h:P:=by rw[h.callo g hg];omega):P:=h
theorem z56a {P:Prop} (h:P:=by rw[h.outo g hg];omega):P:=h
theorem z57a {P:Prop} (h:P:=by rw[h.loto g hg];omega):P:=h
theorem z59a {P:Prop} (h:P:=by rw[h.glo g hg];omega):P:=h
theorem MC.Mv.T3(h:C.Mv D X w m ρ β s x fv ab lp)(hc:G9 4 ρ w w'){va:Option Addr}{vn vc:Nat}{vs:List PV}{x':Eu}{now:Fr}{fuel cells code line:Nat}
  (hcell:w'.heap[C.mb]?=some (.cells (C.cells { s with va:=va,vn:=vn,vc:=vc } x' fuel cells code line) 167 (0,0)))
  (hv:w'.ownsRow 0 225 5 (.slice va vn vc) vs.length (Bw (C7 β) vs)) (hvo:∀g,(Value.slice va vn vc).ownBlock=some g->(Value.slice s.va s.vn s.vc).ownBlock=some g\/w.heap.size<=g) (hx:Jk D w x' now)
  (hn:vs.length<=100000) (hvv:∀v∈vs,C8 m.arr.length v):C.Mv D X w' { m with vals:=vs,now:=now,fuel:=fuel,cells:=cells,code:=code,line:=line } (F2 ρ w.heap.size 4) β { s with va:=va,vn:=vn,vc:=vc } x' fv ab lp:=by
 have hbd:=h.F7 hc z4va;have hk:∀g,D g->g<w.heap.size->w'.heap[g]?=w.heap[g]?/\D g:=fun g hg _=>⟨hbd.block g (.inl hg),hg⟩;refine⟨hcell,h.prog.keep hk,B4 h.lots (fun g hg hl=>hc.block g hl z57a z57a),fun g hg=>by rw[Bm (Bn h.lots g hg)];exact h.loto g hg,h.lotm,fun q hq=>(h.forms q hq).keep hk,
  B4 h.gl (fun g hg hl=>hc.block g hl z59a z59a),fun g hg=>by rw[Bm (Bn h.gl g hg)];exact h.glo g hg,hv,fun g hg=>?_,
  B4 h.calls (fun g hg hl=>hc.block g hl z54a z54a),fun g hg=>by rw[Bm (Bn h.calls g hg)];exact h.callo g hg,h.frs.keep hk,hx.keep hk,
  B4 h.out (fun g hg hl=>hc.block g hl z56a z56a),fun g hg=>by rw[Bm (Bn h.out g hg)];exact h.outo g hg,h.arr.keep (fun g hl h7=>⟨hc.block g hl z4va z4va,Bm hl⟩),
  fun g hg=>⟨Nat.lt_of_lt_of_le (h.prot g hg).1 hc.size,by rw[Bm (h.prot g hg).1];exact(h.prot g hg).2⟩,⟨by rw[Bm h.lo.1];exact h.one.1,fun g hg=>?_⟩,⟨hn,h.Br.2⟩,⟨hvv,h.vv.2⟩⟩
 ·rcases hvo g hg with e|e
  ·rw[Bm (Bn h.vals g e)];exact h.valo g e
  ·exact Hj e
 ·exact z14a
theorem Rx{c:Nat}{mb:Nat}{row:Option Nat}(h:Fp mb row w w')(hone:ρ mb=1)(hr:∀g,row=some g->ρ g=c):G9 c ρ w w':=
 ⟨h.os,h.tape,h.output,h.size,fun k hk h1 h2=>h.block k hk (fun e=>h1 (by rw[e];exact hone)) (fun e=>h2 (hr k e))⟩
theorem Zz{c:Nat}(h:Below w.heap.size w w'):G9 c ρ w w':=⟨h.os,h.tape,h.output,h.size,fun k hk _ _=>h.block k hk⟩
theorem MC.Ms.below(h:C.Ms D X β w m)(hb:Below w.heap.size w w'):C.Ms D X β w' m/\A3 (dx D X) w w':=by
 obtain⟨ρ,s,x,fv,ab,lp,h⟩:=h;exact⟨⟨_,_,_,_,_,_,h.T3 (Zz hb) ((hb.block _ h.lo.1).trans h.cell) (Qz h.vals hb) (fun g hg=>.inl hg) h.now h.Br.1 h.vv.1⟩,h.F7 (c:=4) (Zz hb) z4va⟩
theorem MC.Ms.more(h:C.Ms D X β w m)(hb:Below w.heap.size w w'):C.Ms D (fun g=>X g\/(w.heap.size<=g/\g<w'.heap.size)) β w' m:=by
 obtain⟨ρ,s,x,fv,ab,lp,h⟩:=h;have hk:∀g,D g->g<w.heap.size->w'.heap[g]?=w.heap[g]?/\D g:=fun g hg hl=>⟨hb.block g hl,hg⟩;refine⟨F2 ρ w.heap.size 0,s,x,fv,ab,lp,(hb.block _ h.lo.1).trans h.cell,h.prog.keep hk,Qz h.lots hb,fun g hg=>by rw[Bm (Bn h.lots g hg)];exact h.loto g hg,h.lotm,fun q hq=>(h.forms q hq).keep hk,Qz h.gl hb,fun g hg=>by rw[Bm (Bn h.gl g hg)];exact h.glo g hg,Qz h.vals hb,fun g hg=>by rw[Bm (Bn h.vals g hg)];exact h.valo g hg,Qz h.calls hb,fun g hg=>by rw[Bm (Bn h.calls g hg)];exact h.callo g hg,h.frs.keep hk,h.now.keep hk,Qz h.out hb,fun g hg=>by rw[Bm (Bn h.out g hg)];exact h.outo g hg,h.arr.keep (fun g hl _=>⟨hb.block g hl,Bm hl⟩),?_,⟨by rw[Bm h.lo.1];exact h.one.1,fun g hg=>?_⟩,h.Br,h.vv⟩
 ·intro g hg;rcases hg with hg|hg|hg
  ·have:=h.prot g (.inl hg);exact z2ya
  ·have:=h.prot g (.inr hg);exact z2ya
  ·exact⟨hg.2,Hj hg.1⟩
 ·exact z14a
theorem z55a {P:Prop} (h:P:=by rw[h.valo g hg];omega):P:=h
theorem MC.Ms.less(h:C.Ms D X β w m){X':Nat->Prop}(hX:∀g,X' g->X g)(hk:∀g,g<w.heap.size->(X g->D g)->w'.heap[g]?=w.heap[g]?)(hs:w'.heap.size=w.heap.size):C.Ms D X' β w' m:=by
 obtain⟨ρ,s,x,fv,ab,lp,h⟩:=h;have hz:∀g,g<w.heap.size->ρ g≠0->w'.heap[g]?=w.heap[g]?:=fun g hg h0=>hk g hg (fun hx=>absurd (h.prot g (.inr hx)).2 h0);have hkD:∀g,D g->g<w.heap.size->w'.heap[g]?=w.heap[g]?/\D g:=fun g hg hl=>⟨hk g hl (fun _=>hg),hg⟩;exact⟨ρ,s,x,fv,ab,lp,(hz _ h.lo.1 z5ia).trans h.cell,h.prog.keep hkD,B4 h.lots (fun g hg hl=>hz g hl z57a),h.loto,h.lotm,fun q hq=>(h.forms q hq).keep hkD,B4 h.gl (fun g hg hl=>hz g hl z59a),h.glo,B4 h.vals (fun g hg hl=>hz g hl z55a),h.valo,B4 h.calls (fun g hg hl=>hz g hl z54a),h.callo,h.frs.keep hkD,h.now.keep hkD,B4 h.out (fun g hg hl=>hz g hl z56a),h.outo,h.arr.keep (fun g hl h7=>⟨hz g hl z4va,rfl⟩),fun g hg=>by rw[hs];exact h.prot g (hg.imp id (hX g)),h.one,h.Br,h.vv⟩
end
section
open Go.RowKit
open Go.Deep (BT)
variable {C:MC} {D X:Nat->Prop} {w w':World} {m:MS} {β:Nat->Nat}
def Az(β:Nat->Nat)(v:PV):Value:=.agg #[.int .i64 (v.k:Nat),.bool v.y,.int .i64 v.n,.string ⟨v.t.toArray⟩,.pointer (Bk β v)]
def MP(C:MC)(D X:Nat->Prop)(β:Nat->Nat)(w:World)(m:MS)(r:Value)(e:Ending)(w':World):Prop:=e=.returned r/\C.Ms D X β w' m/\A3 (dx D X) w w'
theorem MC.Ms.len(h:C.Ms D X β w m):Calls Tryz.prog 98 #[.pointer (some ⟨C.mb,4,none⟩)] w fun e w'=>e=.returned (.int .i64 (m.vals.length:Nat))/\w'=w:=by
 obtain⟨ρ,s,x,fv,ab,lp,h⟩:=h;exact Yx h.Ma
theorem MC.Ms.Br(h:C.Ms D X β w m):m.vals.length<=100000/\m.calls.length<=100/\m.out.length<=100:=by
 obtain⟨ρ,s,x,fv,ab,lp,h⟩:=h;exact h.Br
theorem MC.Ms.Au(h:C.Ms D X β w m):C.mb<w.heap.size:=by
 obtain⟨ρ,s,x,fv,ab,lp,h⟩:=h;exact h.lo.1
theorem z2ua {P:Prop} (h:P:=by
  rintro e w1 ⟨rfl,hb⟩;exact⟨rfl,MC.Ms.below ⟨ρ,s,x,fv,ab,lp,h'⟩ hb⟩):P:=h
theorem MC.Ms.at'(h:C.Ms D X β w m)(i:Int):Calls Tryz.prog 195 #[.pointer (some ⟨C.mb,4,none⟩),.int .i64 i] w (MP C D X β w m (Az β (m.at' i))):=by
 obtain⟨ρ,s,x,fv,ab,lp,h'⟩:=h;refine(Yw h'.Ma i (by have:=h'.Br.1;omega) (m.at' i) rfl).mono ?_;exact z2ua
theorem MC.Ms.top(h:C.Ms D X β w m):Calls Tryz.prog 200 #[.pointer (some ⟨C.mb,4,none⟩)] w (MP C D X β w m (Az β m.top)):=by
 obtain⟨ρ,s,x,fv,ab,lp,h'⟩:=h;refine(A4u h'.Ma (by have:=h'.Br.1;omega) m.top rfl).mono ?_;exact z2ua
theorem z3ea {P:Prop} (h:P:=by
  simp only[Value.ownBlock,Option.some.injEq]at hk;rw[←hk];exact hat):P:=h
theorem z5xa {P:Prop} (h:P:=by simp[MC.cells]):P:=h
theorem MC.Ms.push(h:C.Ms D X β w m)(v:PV)(hv:C8 m.arr.length v)(hn:m.vals.length+1<=100000):Calls Tryz.prog 99 #[.pointer (some ⟨C.mb,4,none⟩),Az β v] w (MP C D X β w (m.push v) (.tuple #[])):=by
 obtain⟨ρ,s,x,fv,ab,lp,h⟩:=h;refine(Apv h.Ma z4va v z5xa).mono ?_;rintro e w1 ⟨rfl,g,cap,hs,hat,hf⟩;have hc:G9 4 ρ w w1:=Rx hf h.one.1 h.valo;refine⟨rfl,⟨_,{ s with va:=some ⟨g,0,none⟩,vn:=m.vals.length+1,vc:=cap },x,fv,ab,lp,h.T3 hc ?_ hs.own ?_ h.now z4ya ?_⟩,h.F7 hc z4va⟩
 ·rw[hs.blk];simp[MC.cells]
 ·intro k hk;exact z3ea
 ·intro u hu;simp only[List.mem_append,List.mem_singleton]at hu;rcases hu with hu|hu
  ·exact h.vv.1 u hu
  ·rw[hu];exact hv
theorem MC.Mv.We{ρ:Nat->Nat}{s:Oe}{x:Eu}{fv:List Eu}{ab:List AB}{lp:List (Option Addr×Dv)}(h:C.Mv D X w m ρ β s x fv ab lp){k:Nat}(hp:Jr 225 5 (C7 β) C.mb 4 w (C.cells s x m.fuel m.cells m.code m.line) 167 s.va s.vn s.vc m.vals k w'):C.Ms D X β w' { m with vals:=m.vals.take k }/\A3 (dx D X) w w':=by
 obtain⟨hs,hf⟩:=hp;have hc:G9 4 ρ w w':=Rx hf h.one.1 h.valo;refine⟨⟨_,{ s with va:=s.va,vn:=k,vc:=s.vc },x,fv,ab,lp,h.T3 hc ?_ hs.own (fun g hg=>.inl ((Mi _ _ _ _).trans hg)) h.now (by have:=h.Br.1;simp;omega) (fun u hu=>h.vv.1 u (List.mem_of_mem_take hu))⟩,h.F7 hc z4va⟩;rw[hs.blk];simp[MC.cells]
theorem Yl{α:Type}(l:List α):l.take (l.length-1)=l.dropLast:=by rw[List.dropLast_eq_take]
theorem z5oa {P:Prop} (h:P:=by have:=h.Br.1;omega):P:=h
theorem MC.Ms.pop(h:C.Ms D X β w m):Calls Tryz.prog 197 #[.pointer (some ⟨C.mb,4,none⟩)] w (MP C D X β w m.pop (Az β m.top)):=by
 obtain⟨ρ,s,x,fv,ab,lp,h⟩:=h;refine(A4t h.Ma z5oa z5xa m.top rfl).mono ?_;rintro e w1 ⟨rfl,hp⟩;have:=h.We hp;rw[Yl]at this;exact⟨rfl,this⟩
theorem MC.Ms.cut(h:C.Ms D X β w m)(n:Int):Calls Tryz.prog 205 #[.pointer (some ⟨C.mb,4,none⟩),.int .i64 n] w (MP C D X β w (m.cut n) (.tuple #[])):=by
 obtain⟨ρ,s,x,fv,ab,lp,h⟩:=h;by_cases h0:n<0
 ·refine(A4r h.Ma n h0).mono ?_;rintro e w1 ⟨rfl,rfl⟩;refine⟨rfl,?_,A3.refl _ _⟩;have:m.cut n=m:=by unfold MS.cut;rw[if_pos h0]
  rw[this];exact⟨ρ,s,x,fv,ab,lp,h⟩
 ·have he:m.cut n={ m with vals:=m.vals.take n.toNat }:=by unfold MS.cut;rw[if_neg h0]
  rw[he];by_cases h1:n.toNat<=m.vals.length
  ·have:=A4q h.Ma n.toNat h1 z5xa;rw[show((n.toNat:Nat):Int)=n by omega]at this;refine this.mono ?_;rintro e w1 ⟨rfl,hp⟩;exact⟨rfl,h.We hp⟩
  ·refine(Aps h.Ma n z4va).mono ?_;rintro e w1 ⟨rfl,rfl⟩;refine⟨rfl,?_,A3.refl _ _⟩;rw[List.take_of_length_le z4va];exact⟨ρ,s,x,fv,ab,lp,h⟩
theorem Aga{α:Type}{l:List α}{i:Nat}{u v:α}(h:v∈l.set i u):v∈l\/v=u:=List.mem_or_eq_of_mem_set h
theorem MC.Ms.put(h:C.Ms D X β w m)(i:Int)(v:PV)(hv:C8 m.arr.length v):Calls Tryz.prog 196 #[.pointer (some ⟨C.mb,4,none⟩),.int .i64 i,Az β v] w (MP C D X β w (m.put i v) (.tuple #[])):=by
 obtain⟨ρ,s,x,fv,ab,lp,h'⟩:=h;by_cases h0:0<=i/\i.toNat<m.vals.length
 ·have:=Apw h'.Ma i.toNat h0.2 v;rw[show((i.toNat:Nat):Int)=i by omega]at this;refine this.mono ?_;rintro e w1 ⟨rfl,hs,hf⟩;have hc:G9 4 ρ w w1:=Rx hf h'.one.1 h'.valo;have he:m.put i v={ m with vals:=m.vals.set i.toNat v }:=by unfold MS.put;rw[if_neg z4va]
  rw[he];refine⟨rfl,⟨_,s,x,fv,ab,lp,h'.T3 hc ?_ hs.own (fun g hg=>.inl hg) h'.now (by have:=h'.Br.1;simp;omega) (fun u hu=>(Aga hu).elim (h'.vv.1 u) (fun e=>by rw[e];exact hv))⟩,h'.F7 hc z4va⟩;exact hs.blk
 ·have he:m.put i v=m:=by
   unfold MS.put;by_cases h1:i<0
   ·rw[if_pos h1]
   ·rw[if_neg h1,List.set_eq_of_length_le z4va]
  rw[he];refine(Apx h'.Ma i z4va v).mono ?_;exact z2ua
end
section
set_option maxRecDepth 100000
open Go.RowKit
open Go.Deep (BT)
variable {C:MC} {D X:Nat->Prop} {w w':World} {m:MS} {ρ β:Nat->Nat} {s:Oe} {x:Eu} {fv:List Eu} {ab:List AB} {lp:List (Option Addr×Dv)}
def Ab(i:Ac):Value:=.agg #[.int .i64 (i.op:Nat),.int .i64 i.arg,.int .i64 (i.line:Nat),.int .i64 (i.v.k:Nat),.bool i.v.y,.int .i64 i.v.n,.string ⟨i.v.t.toArray⟩,.pointer none]
theorem MC.Mv.plain(h:C.Mv D X w m ρ β s x fv ab lp){x':Eu}{now:Fr}{fuel cells code line:Nat}(hx:Jk D w x' now)(hcell:w'.heap[C.mb]?=some (.cells (C.cells s x' fuel cells code line) 167 (0,0)))(hk:∀g,g<w.heap.size->g≠C.mb->w'.heap[g]?=w.heap[g]?)(hs:w.heap.size<=w'.heap.size)(ho:w'.os=w.os)(ht:w'.tape=w.tape)(hu:w'.output=w.output) :
  C.Ms D X β w' { m with now:=now,fuel:=fuel,cells:=cells,code:=code,line:=line }/\A3 (dx D X) w w':=by
 have hc:G9 4 ρ w w':=⟨ho,ht,hu,hs,fun k hk' h1 _=>hk k hk' (fun e=>h1 (by rw[e];exact h.one.1))⟩;exact⟨⟨_,s,x',fv,ab,lp,h.T3 hc hcell (B4 h.vals (fun g hg hl=>hk g hl (fun e=>by have:=h.valo g hg;rw[e,h.one.1]at this;omega))) (fun g hg=>.inl hg) hx h.Br.1 h.vv.1⟩,h.F7 hc z4va⟩
theorem Qj{w:World}{b:Nat}{a0 a1 a2 a3 a4 a5 a6 a7 a8 a9 a10 a11 a12 To:Value}{t:TypeId}(h:w.heap[b]?=some (.cells #[a0,a1,a2,a3,a4,a5,a6,a7,a8,a9,a10,a11,a12,To] t (0,0))) :
  w.cell? ⟨b,0,none⟩=some a0/\w.cell? ⟨b,1,none⟩=some a1/\w.cell? ⟨b,2,none⟩=some a2/\w.cell? ⟨b,3,none⟩=some a3/\w.cell? ⟨b,4,none⟩=some a4/\w.cell? ⟨b,5,none⟩=some a5/\w.cell? ⟨b,6,none⟩=some a6/\w.cell? ⟨b,7,none⟩=some a7/\w.cell? ⟨b,8,none⟩=some a8/\w.cell? ⟨b,9,none⟩=some a9/\w.cell? ⟨b,10,none⟩=some a10/\w.cell? ⟨b,11,none⟩=some a11/\w.cell? ⟨b,12,none⟩=some a12/\w.cell? ⟨b,13,none⟩=some To/\(∀o,w.frozen? ⟨b,o,none⟩=false)/\b<w.heap.size:=
 ⟨A2 h 0 _ rfl,A2 h 1 _ rfl,A2 h 2 _ rfl,A2 h 3 _ rfl,A2 h 4 _ rfl,A2 h 5 _ rfl,A2 h 6 _ rfl,A2 h 7 _ rfl,A2 h 8 _ rfl,A2 h 9 _ rfl,A2 h 10 _ rfl,A2 h 11 _ rfl,A2 h 12 _ rfl,A2 h 13 _ rfl,Bd h,A5 h⟩
theorem Gw(h:C.Ms D X β w m)(code:Nat)(i:Ac):Calls Tryz.prog 199 #[.pointer (some ⟨C.mb,0,none⟩),.int .i64 (code:Nat),Ab i] w (MP C D X β w (m.fail code i) (.tuple #[])):=by
 obtain⟨ρ,s,x,fv,ab,lp,h⟩:=h;obtain⟨c0,c1,c2,c3,c4,c5,c6,c7,c8,c9,c10,c11,c12,c13,fz,lb⟩:=Qj (show w.heap[C.mb]?=some (.cells #[_,_,_,_,_,_,_,_,_,_,_,_,_,_] _ (0,0)) from h.cell);have HH:=A0 h;clear h c0 c1 c2 c3 c4 c5 c6 c7 c8 c9 c10 c11;unfold Ab;go_enter Tryz.func199,Tryz.ntmps199;go_wp2;go_end0;have hcl:(((w.setCell ⟨C.mb,12,none⟩ (.int .i64 (code:Nat))).setCell ⟨C.mb,13,none⟩ (.int .i64 (i.line:Nat))).alloc (.cells #[.int .i64 (i.op:Nat),.int .i64 i.arg,.int .i64 (i.line:Nat),.int .i64 (i.v.k:Nat),.bool i.v.y,.int .i64 i.v.n,.string ⟨i.v.t.toArray⟩,.pointer none] 251)).heap[C.mb]?=some (.cells (C.cells s x (m.fuel) (m.cells) (code) (i.line)) 167 (0,0)):=by
  rw[Below.heap_alloc _ _ _ z4za,(heap_set (j:=13) (heap_set (j:=12) HH.o.cell (.int .i64 (code:Nat))) (.int .i64 (i.line:Nat)))];simp[MC.cells]
 have hkk:∀g,g<w.heap.size->g≠C.mb->(((w.setCell ⟨C.mb,12,none⟩ (.int .i64 (code:Nat))).setCell ⟨C.mb,13,none⟩ (.int .i64 (i.line:Nat))).alloc (.cells #[.int .i64 (i.op:Nat),.int .i64 i.arg,.int .i64 (i.line:Nat),.int .i64 (i.v.k:Nat),.bool i.v.y,.int .i64 i.v.n,.string ⟨i.v.t.toArray⟩,.pointer none] 251)).heap[g]?=w.heap[g]?:=by
  intro g hg hne;rw[Below.heap_alloc _ _ _ z4za,Below.heap_setCell _ _ _ _ z5ma,Below.heap_setCell _ _ _ _ z5ma]
 have hpl:=HH.o.plain (now:=m.now) (fuel:=m.fuel) (cells:=m.cells) (code:=code) (line:=i.line) (x':=x) HH.o.now hcl hkk z58a rfl rfl rfl;exact⟨rfl,hpl⟩
theorem z22a {P:Prop} (h:P:=by
  intro g hg hne;rw[Below.heap_alloc _ _ _ z4za,Below.heap_setCell _ _ _ _ z5ma]):P:=h
theorem Uj(h:C.Ms D X β w m)(i:Ac)(hf:m.fuel≠0)(hb:m.fuel<=100000):Calls Tryz.prog 198 #[.pointer (some ⟨C.mb,0,none⟩),Ab i] w (MP C D X β w { m with fuel:=m.fuel-1 } (.bool true)):=by
 obtain⟨ρ,s,x,fv,ab,lp,h⟩:=h;obtain⟨c0,c1,c2,c3,c4,c5,c6,c7,c8,c9,c10,c11,c12,c13,fz,lb⟩:=Qj (show w.heap[C.mb]?=some (.cells #[_,_,_,_,_,_,_,_,_,_,_,_,_,_] _ (0,0)) from h.cell);have HH:=A0 h;have t0:((m.fuel:Int)==0)=false:=by rw[beq_eq_false_iff_ne];omega
 have HFu:Hid (((m.fuel-1:Nat):Int)=(m.fuel:Int)-1):=by show _=_;omega
 clear h c0 c1 c2 c3 c4 c5 c6 c7 c8 c10 c11 c12 c13;unfold Ab;go_enter Tryz.func198,Tryz.ntmps198;go_wp2;go_ret;rw[←HFu.o];have hcl:((w.setCell ⟨C.mb,9,none⟩ (.int .i64 ((m.fuel-1:Nat):Nat))).alloc (.cells #[.int .i64 (i.op:Nat),.int .i64 i.arg,.int .i64 (i.line:Nat),.int .i64 (i.v.k:Nat),.bool i.v.y,.int .i64 i.v.n,.string ⟨i.v.t.toArray⟩,.pointer none] 251)).heap[C.mb]?=some (.cells (C.cells s x (m.fuel-1) (m.cells) (m.code) (m.line)) 167 (0,0)):=by
  rw[Below.heap_alloc _ _ _ z4za,(heap_set (j:=9) HH.o.cell (.int .i64 ((m.fuel-1:Nat):Nat)))];simp[MC.cells]
 have hkk:∀g,g<w.heap.size->g≠C.mb->((w.setCell ⟨C.mb,9,none⟩ (.int .i64 ((m.fuel-1:Nat):Nat))).alloc (.cells #[.int .i64 (i.op:Nat),.int .i64 i.arg,.int .i64 (i.line:Nat),.int .i64 (i.v.k:Nat),.bool i.v.y,.int .i64 i.v.n,.string ⟨i.v.t.toArray⟩,.pointer none] 251)).heap[g]?=w.heap[g]?:=by
  exact z22a
 have hpl:=HH.o.plain (now:=m.now) (fuel:=m.fuel-1) (cells:=m.cells) (code:=m.code) (line:=m.line) (x':=x) HH.o.now hcl hkk z58a rfl rfl rfl;exact⟨rfl,hpl⟩
theorem z2ia {P:Prop} (h:P:=by
  go_wp2_with fail
  refine HF.o.mono ?_;rintro e w1 ⟨rfl,h1,h2⟩;have A7:=A0 h1;have A4:Hid (A3 (dx D X) w w1):=Af.o.trans h2;clear h1 h2;go_wp2;go_ret;exact⟨rfl,A7.o,A4.o⟩):P:=h
theorem A23(h:C.Ms D X β w m)(i:Ac)(hf:m.fuel=0):Calls Tryz.prog 198 #[.pointer (some ⟨C.mb,0,none⟩),Ab i] w (MP C D X β w (m.fail 8 i) (.bool false)):=by
 have Bf:Below w.heap.size w (w.alloc (.cells #[.int .i64 (i.op:Nat),.int .i64 i.arg,.int .i64 (i.line:Nat),.int .i64 (i.v.k:Nat),.bool i.v.y,.int .i64 i.v.n,.string ⟨i.v.t.toArray⟩,.pointer none] 251)):=Below.alloc (Below.refl _ _) (Nat.le_refl _) _;obtain⟨h0,hd0⟩:=h.below Bf;have HF:=A0 (Gw h0 8 i);have Af:=A0 hd0;obtain⟨ρ,s,x,fv,ab,lp,h⟩:=h;obtain⟨c0,c1,c2,c3,c4,c5,c6,c7,c8,c9,c10,c11,c12,c13,fz,lb⟩:=Qj (show w.heap[C.mb]?=some (.cells #[_,_,_,_,_,_,_,_,_,_,_,_,_,_] _ (0,0)) from h.cell);have HH:=A0 h;have t0:((m.fuel:Int)==0)=true:=by rw[hf];rfl
 have lx:=heap_alloc_new w (.cells #[.int .i64 (i.op:Nat),.int .i64 i.arg,.int .i64 (i.line:Nat),.int .i64 (i.v.k:Nat),.bool i.v.y,.int .i64 i.v.n,.string ⟨i.v.t.toArray⟩,.pointer none] 251);clear h c0 c1 c2 c3 c4 c5 c6 c7 c8 c10 c11 c12 c13 h0 hd0 Bf hf;unfold Ab at *;go_enter Tryz.func198,Tryz.ntmps198;exact z2ia
end
section
set_option maxRecDepth 100000
open Go.RowKit
open Go.Deep (BT)
variable {C:MC} {D X:Nat->Prop} {w w':World} {m:MS} {β:Nat->Nat}
theorem Rm(a0 a1 a2 a3 a4:Value)(w:World):(Instr.field 225 (.agg #[a0,a1,a2,a3,a4]) 0).run Tryz.prog w=.ok a0 w:=by kernel_rfl
theorem A4n(a0 a1 a2 a3 a4:Value)(w:World):(Instr.field 225 (.agg #[a0,a1,a2,a3,a4]) 2).run Tryz.prog w=.ok a2 w:=by kernel_rfl
theorem Rv{w w':World}(h:Below w.drew.heap.size w.drew w'):Below w.heap.size w w':=⟨h.os,h.tape,h.output,h.size,h.block⟩
theorem M7(h:C.Ms D X β w m)(n:Int)(hn:m.vals.length+1<=100000):Calls Tryz.prog 252 #[.pointer (some ⟨C.mb,0,none⟩),.int .i64 n] w (MP C D X β w (m.push (ofInt n)) (.tuple #[])):=by
 have lb:=h.Au;have HP:=A0 (fun(W:World) (hb:Below w.heap.size w W)=>((h.below hb).1.push (ofInt n) (by simp[C8,ofInt]) hn));have HB:=A0 (fun(W:World) (hb:Below w.heap.size w W)=>(h.below hb).2);clear h;go_enter Tryz.func252,Tryz.ntmps252;go_wp2;go_region_law (first
  | (refine Eo rfl 99 _ _ rfl #[.pointer (some ⟨C.mb,4,none⟩),.agg #[.int .i64 2,.bool false,.int .i64 n,.string ⟨#[]⟩,.pointer none]] z4xa Bv.o ?_;rintro e w2 ⟨rfl,h2,h3⟩;refine⟨_,rfl,?_⟩;have Ai:=A0 h2;have Aa:Hid (A3 (dx D X) w w2):=A4.o.trans h3;clear h2 h3)
  | (refine Eo rfl 85 _ _ rfl #[.int .i64 n] z4xa (Un n _) ?_;rintro e w1 ⟨rfl,hb1'⟩;refine⟨_,rfl,?_⟩;have A1:=Rv hb1';have Bv:=A0 (HP.o w1 A1);have A4:=A0 (HB.o w1 A1);have Bj:=A1.size;clear A1 hb1'))
 all_goals go_wp2
 all_goals go_end0
 all_goals exact⟨rfl,Ai.o,Aa.o⟩
theorem Ji(h:C.Ms D X β w m)(y:Bool)(hn:m.vals.length+1<=100000):Calls Tryz.prog 253 #[.pointer (some ⟨C.mb,0,none⟩),.bool y] w (MP C D X β w (m.push (ofBool y)) (.tuple #[])):=by
 have lb:=h.Au;have HP:=A0 (fun(W:World) (hb:Below w.heap.size w W)=>((h.below hb).1.push (ofBool y) (by simp[C8,ofBool]) hn));have HB:=A0 (fun(W:World) (hb:Below w.heap.size w W)=>(h.below hb).2);clear h;go_enter Tryz.func253,Tryz.ntmps253;go_wp2;go_region_law (first
  | (refine Eo rfl 99 _ _ rfl #[.pointer (some ⟨C.mb,4,none⟩),.agg #[.int .i64 1,.bool y,.int .i64 0,.string ⟨#[]⟩,.pointer none]] z4xa Bv.o ?_;rintro e w2 ⟨rfl,h2,h3⟩;refine⟨_,rfl,?_⟩;have Ai:=A0 h2;have Aa:Hid (A3 (dx D X) w w2):=A4.o.trans h3;clear h2 h3)
  | (refine Eo rfl 87 _ _ rfl #[.bool y] z4xa (Xs y _) ?_;rintro e w1 ⟨rfl,hb1'⟩;refine⟨_,rfl,?_⟩;have A1:=Rv hb1';have Bv:=A0 (HP.o w1 A1);have A4:=A0 (HB.o w1 A1);have Bj:=A1.size;clear A1 hb1'))
 all_goals go_wp2
 all_goals go_end0
 all_goals exact⟨rfl,Ai.o,Aa.o⟩
theorem z15a {P:Prop} (h:P:=by
  clear hq F1;generalize m.at' ((m.vals.length:Int)-2)=u at *;go_enter Tryz.func250,Tryz.ntmps250;go_wp2_with fail
  refine HL.o.mono ?_;rintro e w ⟨rfl,rfl⟩;go_wp2_with fail
  refine HA1.o.mono ?_;rintro e w1 ⟨rfl,h1,h2⟩;have A7:=A0 h1;have A4:=A0 h2;have Bj:=h1.Au;clear h1 h2;unfold Az;go_wp2_with fail
  refine(HA2.o w1 A7.o).mono ?_;rintro e w2 ⟨rfl,h1,h2⟩;have Ai:=A0 h1;have Aa:Hid (A3 (dx D X) w w2):=A4.o.trans h2;clear h1 h2;unfold Az;go_wp2;go_ret;rw[HE.o];exact⟨rfl,Ai.o,Aa.o⟩):P:=h
theorem Jh(h:C.Ms D X β w m)(k:Nat):Calls Tryz.prog 250 #[.pointer (some ⟨C.mb,0,none⟩),.int .i64 (k:Nat)] w (MP C D X β w m (.bool (m.both k))):=by
 have lb:=h.Au;have HL:=A0 h.len;have hfew:=h.Br.1;have HA1:=A0 (h.at' ((m.vals.length:Int)-1));have HA2:=A0 (fun(W:World) (hs:C.Ms D X β W m)=>hs.at' ((m.vals.length:Int)-1-1));have h2e:m.at' ((m.vals.length:Int)-1-1)=m.at' ((m.vals.length:Nat)-2):=by rw[show((m.vals.length:Nat):Int)-1-1=(m.vals.length:Nat)-2 by omega]
 rw[h2e]at HA2;clear h2e;have htop:m.at' ((m.vals.length:Int)-1)=m.top:=(Qu Ag m.vals).symm;rw[htop]at HA1;have vf0:=Rm;clear h htop;cases hq:(m.top.k==k)
 ·have t1:(((m.top.k:Nat):Int)==(k:Int))=false:=by rw[beq_eq_false_iff_ne]at hq ⊢;omega
  have HE:Hid (m.both k=false):=by show _=_;unfold MS.both;rw[hq];rfl
  clear hq;go_enter Tryz.func250,Tryz.ntmps250;go_wp2_with fail
  refine HL.o.mono ?_;rintro e w ⟨rfl,rfl⟩;go_wp2_with fail
  refine HA1.o.mono ?_;rintro e w1 ⟨rfl,h1,h2⟩;have A7:=A0 h1;have A4:=A0 h2;have Bj:=h1.Au;clear h1 h2;unfold Az;go_wp2;go_ret;rw[HE.o];exact z3ja
 ·cases F1:((m.at' ((m.vals.length:Int)-2)).k==k)
  ·have t1:(((m.top.k:Nat):Int)==(k:Int))=true:=by rw[beq_iff_eq]at hq ⊢;omega
   have t2:((((m.at' ((m.vals.length:Int)-2)).k:Nat):Int)==(k:Int))=false:=by rw[beq_eq_false_iff_ne]at F1 ⊢;omega
   have HE:Hid (m.both k=false):=by show _=_;unfold MS.both;rw[hq,F1];rfl
   exact z15a
  ·have t1:(((m.top.k:Nat):Int)==(k:Int))=true:=by rw[beq_iff_eq]at hq ⊢;omega
   have t2:((((m.at' ((m.vals.length:Int)-2)).k:Nat):Int)==(k:Int))=true:=by rw[beq_iff_eq]at F1 ⊢;omega
   have HE:Hid (m.both k=true):=by show _=_;unfold MS.both;rw[hq,F1];rfl
   exact z15a
end
end Go.Proofs.YtjdlndhfaaolaaaGreatDoor
