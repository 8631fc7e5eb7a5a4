import Derived.Shelf.Strconv.AppendIntPublic10
import Derived.Shelf.Strconv.ParseIntPublic10
import Derived.Test.YtjdlndhfaaolaaaGreatDoorX22
set_option maxHeartbeats 20000000
namespace Go.Proofs.YtjdlndhfaaolaaaGreatDoor
section
open Go.RowKit
open Go.Deep (BT)
def C5{α:Type}(f:α->List Value)(xs:List α):List Value:=xs.flatMap f
variable {α:Type} {f:α->List Value} {sz:Nat}
theorem On(x:α)(r:List α):C5 f (x::r)=f x++C5 f r:=by simp[C5]
theorem Sa(a b:List α):C5 f (a++b)=C5 f a++C5 f b:=by simp[C5]
theorem Uc(x:α):C5 f [x]=f x:=by simp[C5]
theorem N6(hf:∀x,(f x).length=sz)(xs:List α):(C5 f xs).length=xs.length*sz:=by
 induction xs with
 | nil=>simp[C5]
 | cons x r ih=>rw[On,List.length_append,ih,hf,List.length_cons,Nat.add_mul];omega
theorem G5(hf:∀x,(f x).length=sz)(xs:List α):∀(i j:Nat) (h:i<xs.length),j<sz->(C5 f xs)[i*sz+j]?=(f xs[i])[j]?:=by
 induction xs with
 | nil=>intro i j h;simp at h
 | cons x r ih=>
  intro i j h hj;rw[On];have hl:=hf x;cases i with
  | zero=>rw[List.getElem?_append_left z4sa];simp
  | succ i=>
   rw[List.getElem?_append_right (by rw[hl,Nat.add_mul];omega),hl,show(i+1)*sz+j-sz=i*sz+j by rw[Nat.add_mul];omega];exact ih i j z5ta hj
theorem A37(hf:∀x,(f x).length=sz):∀(xs:List α) (m:Nat),(C5 f xs).take (m*sz)=C5 f (xs.take m):=by
 intro xs;induction xs with
 | nil=>intro m;simp[C5]
 | cons x r ih=>
  intro m;cases m with
  | zero=>simp[C5]
  | succ m=>rw[On,List.take_succ_cons,On,show(m+1)*sz=(f x).length+m*sz by rw[hf,Nat.add_mul];omega,List.take_length_add_append,ih]
theorem Ud(hf:∀x,(f x).length=sz)(y:α):∀(xs:List α) (i:Nat),i<xs.length->C5 f (xs.set i y)=(C5 f xs).take (i*sz)++f y++(C5 f xs).drop ((i+1)*sz):=by
 intro xs;induction xs with
 | nil=>intro i h;simp at h
 | cons x r ih=>
  intro i h;have hl:=hf x;cases i with
  | zero=>rw[List.set_cons_zero,On,On,Nat.zero_mul,List.take_zero,List.nil_append,Nat.zero_add,Nat.one_mul,←hl,List.drop_left]
  | succ i=>
   have e1:(f x++C5 f r).take ((i+1)*sz)=f x++(C5 f r).take (i*sz):=by rw[show(i+1)*sz=(f x).length+i*sz by rw[hl,Nat.add_mul];omega,List.take_length_add_append]
   have e2:(f x++C5 f r).drop ((i+1+1)*sz)=(C5 f r).drop ((i+1)*sz):=by rw[show(i+1+1)*sz=(f x).length+(i+1)*sz by rw[hl,Nat.add_mul (i+1)];omega,List.drop_length_add_append]
   rw[List.set_cons_succ,On,On,ih i z5ta,e1,e2];simp only[List.append_assoc]
structure E9 {α : Type} (T : TypeId) (sz : Nat) (f : α -> List Value) (b o : Nat) (w : World) (cs : Array Value) (t : TypeId) (va : Option Addr) (vn vc : Nat) (xs : List α) : Prop where
 blk:w.heap[b]?=some (.cells cs t (0,0))
 cell:cs[o]?=some (.slice va vn vc)
 own:w.ownsRow 0 T sz (.slice va vn vc) xs.length (C5 f xs)
 ne:(Value.slice va vn vc).ownBlock≠some b
def Zy{α:Type}(T:TypeId)(sz:Nat)(f:α->List Value)(b o:Nat)(w:World)(cs:Array Value)(t:TypeId)(va:Option Addr)(vn vc:Nat)(xs:List α)(u:α)(w':World):Prop:=
 ∃g cap,E9 T sz f b o w' (cs.setIfInBounds o (.slice (some ⟨g,0,none⟩) (xs.length+1) cap)) t (some ⟨g,0,none⟩) (xs.length+1) cap (xs++[u])/\((Value.slice va vn vc).ownBlock=some g\/w.heap.size<=g)/\Ia b (Value.slice va vn vc).ownBlock w w'
def K1{α:Type}(T:TypeId)(sz:Nat)(f:α->List Value)(b o:Nat)(w:World)(cs:Array Value)(t:TypeId)(va:Option Addr)(vn vc:Nat)(xs:List α)(m:Nat)(w':World):Prop:=
 E9 T sz f b o w' (cs.setIfInBounds o (.slice va m vc)) t va m vc (xs.take m)/\Ia b (Value.slice va vn vc).ownBlock w w'
theorem E9.keep{α:Type}{T:TypeId}{sz:Nat}{f:α->List Value}{b o:Nat}{w w':World}{cs:Array Value}{t:TypeId}{va:Option Addr}{vn vc:Nat}{xs:List α}(h:E9 T sz f b o w cs t va vn vc xs)(hk:∀g,g<w.heap.size->w'.heap[g]?=w.heap[g]?):E9 T sz f b o w' cs t va vn vc xs:=
 ⟨(hk b (A6 h.blk)).trans h.blk,h.cell,B2 h.own (fun g _ hl=>hk g hl),h.ne⟩
theorem Ia.below{b:Nat}{row:Option Nat}{w w1 w2:World}(hb:Below w.heap.size w w1)(h:Ia b row w1 w2):Ia b row w w2:=
 ⟨h.os.trans hb.os,h.tape.trans hb.tape,h.output.trans hb.output,Nat.le_trans hb.size h.size,fun k hk h1 h2=>(h.block k (Nat.lt_of_lt_of_le hk hb.size) h1 h2).trans (hb.block k hk)⟩
theorem Xl(g:Nat)(t:TypeId)(fr:Nat×Nat):∀(vs:List Value) (o:Nat) (cur:Array Value) (w:World),w.heap[g]?=some (.cells cur t fr)->o+vs.length<=cur.size->
  ∃cur',(w.setCells g o vs).heap[g]?=some (.cells cur' t fr)/\cur'.size=cur.size/\cur'.toList=cur.toList.take o++vs++cur.toList.drop (o+vs.length):=by
 intro vs;induction vs with
 | nil=>intro o cur w h hl;exact⟨cur,h,rfl,by simp⟩
 | cons v r ih=>
  intro o cur w h hl;simp only[List.length_cons]at hl;obtain⟨cur',h1,h2,h3⟩:=ih (o+1) _ _ (heap_set (j:=o) h v) z4za;refine⟨cur',h1,by rw[h2];simp,?_⟩;rw[h3];simp only[Array.toList_setIfInBounds,List.length_cons];have hol:o<cur.toList.length:=by simp;omega
  rw[List.drop_set_of_lt z4sa,List.take_succ_eq_append_getElem (by simpa using hol),List.take_set_of_le (Nat.le_refl _)];simp only[List.getElem_set_self,List.append_assoc,List.cons_append,List.nil_append];rw[show o+1+r.length=o+(r.length+1) by omega]
theorem A4f{α:Type}(C B:List α)(a b n:Nat)(hab:a+B.length=b)(hbn:b<=n)(hn:n<=C.length):(C.take a++B++C.drop b).take n=(C.take n).take a++B++(C.take n).drop b:=by
 have hl:(C.take a++B).length=b:=by simp;omega
 have e1:(C.take a++B++C.drop b).take n=(C.take a++B)++(C.drop b).take (n-b):=by
  rw[List.take_append,List.take_of_length_le z4sa,hl]
 rw[e1,List.take_take,Nat.min_eq_left z4sa,List.drop_take]
def Nh{α:Type}(T:TypeId)(sz:Nat)(f:α->List Value)(b o:Nat)(w:World)(cs:Array Value)(t:TypeId)(va:Option Addr)(vn vc:Nat)(ys:List α)(w':World):Prop:=
 E9 T sz f b o w' cs t va vn vc ys/\Ia b (Value.slice va vn vc).ownBlock w w'
theorem z3ca {P:Prop} (h:P:=by
  rw[List.length_set,k3,Ud hf u xs i hi,←ht,hf,←hadd];exact A4f _ _ _ _ _ (by rw[hf];omega) hin z4sa):P:=h
theorem E9.putRow{α:Type}{T:TypeId}{sz:Nat}{f:α->List Value}{b o:Nat}{w w0:World}{cs:Array Value}{t:TypeId}{va:Option Addr}{vn vc:Nat}{xs:List α}(h:E9 T sz f b o w0 cs t va vn vc xs)(hf:∀x,(f x).length=sz)(i:Nat)(hi:i<xs.length)(u:α)(hb:Below w.heap.size w w0) :
  ∀g,va=some ⟨g,0,none⟩->Nh T sz f b o w cs t va vn vc (xs.set i u) (w0.setCells g (i*sz) (f u)):=by
 intro g hg;subst hg;obtain⟨hl,⟨h2,h3⟩|⟨g',cap,cur,hv,_,hgc,hcap,hmx,hsz,ht⟩⟩:=h.own
 ·cases h2
 injection hv with e1 e2 e3;injection e1 with e1;injection e1 with e1;subst e1 e3;have hin:(i+1)*sz<=xs.length*sz:=Nat.mul_le_mul_right _ hi;have hin2:xs.length*sz<=vc*sz:=Nat.mul_le_mul_right _ hcap;have hadd:(i+1)*sz=i*sz+sz:=by rw[Nat.add_mul,Nat.one_mul]
 obtain⟨cur',k1,k2,k3⟩:=Xl g T (0,0) (f u) (i*sz) cur w0 hgc (by rw[hf];omega);obtain⟨f1,f2,f3,f4,f5⟩:=N7 g (f u) (i*sz) w0;have hgb:g≠b:=fun e=>h.ne z5qa;refine⟨⟨(f5 b (fun e=>hgb e.symm)).trans h.blk,h.cell,⟨by rw[N6 hf],.inr ⟨g,vc,cur',?_,Nat.zero_le _,k1,?_,hmx,by rw[k2];exact hsz,?_⟩⟩,h.ne⟩,⟨f1.trans hb.os,f2.trans hb.tape,f3.trans hb.output,by rw[f4];exact hb.size,fun k hk h1 h2=>(f5 k (fun e=>h2 (by rw[e];rfl))).trans (hb.block k hk)⟩⟩
 ·rw[List.length_set,e2]
 ·rw[List.length_set];exact hcap
 ·have hcl:cur.toList.length=vc*sz:=by simpa using hsz
  exact z3ca
theorem Nh.alloc{α:Type}{T:TypeId}{sz:Nat}{f:α->List Value}{b o:Nat}{w w3:World}{cs:Array Value}{t:TypeId}{va:Option Addr}{vn vc:Nat}{ys:List α}(h:Nh T sz f b o w cs t va vn vc ys w3)(hl:b<w.heap.size)(hr:∀k,(Value.slice va vn vc).ownBlock=some k->k<w.heap.size)(x:Obj):Nh T sz f b o w cs t va vn vc ys (w3.alloc x):=by
 have hk:∀k,k<w.heap.size->(w3.alloc x).heap[k]?=w3.heap[k]?:=fun k hk=>Below.heap_alloc _ _ _ (Nat.lt_of_lt_of_le hk h.2.size);exact⟨⟨(hk b hl).trans h.1.blk,h.1.cell,B2 h.1.own (fun k hk' _=>hk k (hr k hk')),h.1.ne⟩,⟨h.2.os,h.2.tape,h.2.output,by simp;have:=h.2.size;omega,fun k h1 h2 h3=>(hk k h1).trans (h.2.block k h1 h2 h3)⟩⟩
theorem Nh.drew{α:Type}{T:TypeId}{sz:Nat}{f:α->List Value}{b o:Nat}{w w3:World}{cs:Array Value}{t:TypeId}{va:Option Addr}{vn vc:Nat}{ys:List α}(h:Nh T sz f b o w cs t va vn vc ys w3):Nh T sz f b o w cs t va vn vc ys w3.drew:=
 ⟨⟨h.1.blk,h.1.cell,B2 h.1.own (fun _ _ _=>rfl),h.1.ne⟩,⟨h.2.os,h.2.tape,h.2.output,h.2.size,h.2.block⟩⟩
theorem K1.res{α:Type}{T:TypeId}{sz:Nat}{f:α->List Value}{b o:Nat}{w w2 w3:World}{cs:Array Value}{t:TypeId}{va:Option Addr}{vn vc:Nat}{xs:List α}{m:Nat}(h:K1 T sz f b o w2 cs t va vn vc xs m w3)(hb:Below w.heap.size w w2):K1 T sz f b o w cs t va vn vc xs m w3:=⟨h.1,Ia.below hb h.2⟩
theorem K1.set{α:Type}{T:TypeId}{sz:Nat}{f:α->List Value}{b o:Nat}{w w3:World}{cs:Array Value}{t:TypeId}{va:Option Addr}{vn vc:Nat}{xs:List α}{m:Nat}(h:K1 T sz f b o w cs t va vn vc xs m w3)(hl:b<w.heap.size)(hr:∀k,(Value.slice va vn vc).ownBlock=some k->k<w.heap.size){p:Addr}(hp:w.heap.size<=p.block)(v:Value):K1 T sz f b o w cs t va vn vc xs m (w3.setCell p v):=by
 have hk:∀k,k<w.heap.size->(w3.setCell p v).heap[k]?=w3.heap[k]?:=fun k hk=>Below.heap_setCell _ _ _ _ z4sa;exact⟨⟨(hk b hl).trans h.1.blk,h.1.cell,B2 h.1.own (fun k hk' _=>hk k (hr k ((Nv _ _ _ _).trans hk'))),h.1.ne⟩,⟨h.2.os,h.2.tape,h.2.output,by simp[World.setCell];exact h.2.size,fun k h1 h2 h3=>(hk k h1).trans (h.2.block k h1 h2 h3)⟩⟩
theorem Xu{α:Type}(z:α)(xs:List α):xs.getLastD z=if((xs.length:Int)-1)<0 then z else(xs[((xs.length:Int)-1).toNat]?).getD z:=by
 rw[List.getLastD_eq_getLast?,List.getLast?_eq_getElem?];by_cases h:xs.length=0
 ·rw[if_pos z4sa,List.getElem?_eq_none z4sa];rfl
 ·rw[if_neg z4sa,show((xs.length:Int)-1).toNat=xs.length-1 by omega]
theorem A5i(z:Array Value)(n:Nat):(Builtin.zeroCells z n).toList.length=n*z.size:=by simp[Builtin.zeroCells]
theorem Ap1{z:Array Value}(hz:0<z.size)(h1:∀v∈z.toList,v.oneCell'=true)(n:Nat):∀v∈(Builtin.zeroCells z n).toList,v.oneCell'=true:=by
 intro v hv;simp only[Builtin.zeroCells,Array.toList_map,List.mem_map]at hv;obtain⟨i,_,rfl⟩:=hv;have hlt:i % z.size<z.size:=Nat.mod_lt _ hz;rw[getElem!_pos z _ hlt];exact h1 _ (Array.getElem_mem_toList hlt)
theorem A3a{P:Program}(w:World)(t e ty:TypeId)(z:Value)(ht:P.underlying t=some (.slice e))(hv:∀w,(zeroValue e).run P w=.ok z w)(hz:0<z.cells.size)(h1:∀v∈z.cells.toList,v.oneCell'=true)(b o n c:Nat)(hn:0<n)
  (hc:∀j,j<n*z.cells.size->(w.cell? ⟨b,o+j,none⟩).isSome=true) (hf:∀j,j<n*z.cells.size->w.frozen? ⟨b,o+j,none⟩=false) :
  (Builtin.clear_ #[t] ty #[.slice (some ⟨b,o,none⟩) n c]).run P w=.ok (.tuple #[]) (w.setCells b o (Builtin.zeroCells z.cells n).toList):=by
 have hst:=run_storeCells_cells (P:=P) b o (Builtin.zeroCells z.cells n).toList 0 w (by rw[A5i];simpa using hc) (by rw[A5i];simpa using hf) (Ap1 hz h1 n);simp only[Nat.add_zero]at hst;obtain⟨m,rfl⟩:∃m,n=m+1:=⟨n-1,by omega⟩;simp[Builtin.clear_,run_underlying ht,hv,hst]
end
section
set_option maxRecDepth 100000
open Go.RowKit
open Go.Deep (BT)
variable {β:Nat->Nat}{b o:Nat}{w:World}{cs:Array Value}{t:TypeId}{va:Option Addr}{vn vc:Nat}{xs:List PV}
def B5(β:Nat->Nat)(v:PV):Option Addr:=match v.r with
 | none=>none
 | some i=>some ⟨β i,0,none⟩
def By(β:Nat->Nat)(v:PV):List Value:=[.int .i64 (v.k:Nat),.bool v.y,.int .i64 v.n,.string ⟨v.t.toArray⟩,.pointer (B5 β v)]
theorem Tn:(Tryz.prog.info? 225).map (fun i=>(i.zero,i.size,i.bytes))=some (some (.agg #[.int .i64 0,.bool false,.int .i64 0,.string ⟨#[]⟩,.pointer none]),5,48):=by kernel_rfl
theorem Zn(h:E9 225 5 (By β) b o w cs t va vn vc xs):Calls Tryz.prog 98 #[.pointer (some ⟨b,o,none⟩)] w fun e w'=>e=.returned (.int .i64 (xs.length:Nat))/\w'=w:=by
 have c:=Ea h.blk h.cell;have lb:=A6 h.blk;have hv:vn=xs.length:=(Cf h.own).1;subst hv;clear h;go_enter Tryz.func98,Tryz.ntmps98;exact z46a
theorem An4(h:E9 225 5 (By β) b o w cs t va vn vc xs)(i:Nat)(hi:i<xs.length)(hb:xs.length<=100000000000):Calls Tryz.prog 195 #[.pointer (some ⟨b,o,none⟩),.int .i64 (i:Nat)] w fun e w'=>e=.returned (.agg #[.int .i64 ((xs[i]).k:Nat),.bool (xs[i]).y,.int .i64 (xs[i]).n,.string ⟨(xs[i]).t.toArray⟩,.pointer (B5 β (xs[i]))])/\Below w.heap.size w w':=by
 have c:=Ea h.blk h.cell;have lb:=A6 h.blk;have hv:vn=xs.length:=(Cf h.own).1;subst hv;obtain⟨g,rfl,hvn9,hcap,lg,hcell⟩:=Hg h.own z4sa;clear hvn9;have d0:=hcell (i*5+0) _ ((G5 (sz:=5) (fun _=>rfl) xs i 0 hi z4sa).trans rfl);have d1:=hcell (i*5+1) _ ((G5 (sz:=5) (fun _=>rfl) xs i 1 hi z4sa).trans rfl);have d2:=hcell (i*5+2) _ ((G5 (sz:=5) (fun _=>rfl) xs i 2 hi z4sa).trans rfl);have d3:=hcell (i*5+3) _ ((G5 (sz:=5) (fun _=>rfl) xs i 3 hi z4sa).trans rfl);have d4:=hcell (i*5+4) _ ((G5 (sz:=5) (fun _=>rfl) xs i 4 hi z4sa).trans rfl);rw[Nat.add_zero]at d0;clear h hcell;generalize xs[i]=x at *;go_enter Tryz.func195,Tryz.ntmps195;go_wp2;refine bodyPost_ret (v:=.agg #[.int .i64 (x.k:Nat),.bool x.y,.int .i64 x.n,.string ⟨x.t.toArray⟩,.pointer (B5 β x)]) (by simp[results,Tryz.results195,go_sem]) rfl ⟨rfl,?_⟩;exact Below.alloc (Below.refl _ _) (Nat.le_refl _) _
theorem z1fa {P:Prop} (h:P:=by
  clear hi;go_enter Tryz.func195,Tryz.ntmps195;go_wp2;refine bodyPost_ret (v:=.agg #[.int .i64 0,.bool false,.int .i64 0,.string ⟨#[]⟩,.pointer none]) (by simp[results,Tryz.results195,go_sem]) rfl ⟨rfl,?_⟩;repeat (first|exact Below.refl _ _|refine Below.alloc ?_ z4wa _|refine Below.setCell ?_ z4wa _|refine Below.drew ?_)):P:=h
theorem A4z(h:E9 225 5 (By β) b o w cs t va vn vc xs)(i:Int)(hi:i<0\/(xs.length:Int)<=i):Calls Tryz.prog 195 #[.pointer (some ⟨b,o,none⟩),.int .i64 i] w fun e w'=>e=.returned (.agg #[.int .i64 0,.bool false,.int .i64 0,.string ⟨#[]⟩,.pointer none])/\Below w.heap.size w w':=by
 have c:=Ea h.blk h.cell;have lb:=A6 h.blk;have hv:vn=xs.length:=(Cf h.own).1;subst hv;clear h;by_cases h0:i<0
 ·exact z1fa
 ·have h1:(xs.length:Int)<=i:=by omega
  exact z1fa
theorem A4w(h:E9 225 5 (By β) b o w cs t va vn vc xs)(i:Int)(hb:xs.length<=100000000000)(x:PV)(hx:x=if i<0 then Bp else(xs[i.toNat]?).getD Bp):Calls Tryz.prog 195 #[.pointer (some ⟨b,o,none⟩),.int .i64 i] w fun e w'=>e=.returned (.agg #[.int .i64 (x.k:Nat),.bool x.y,.int .i64 x.n,.string ⟨x.t.toArray⟩,.pointer (B5 β x)])/\Below w.heap.size w w':=by
 by_cases h0:i<0
 ·rw[if_pos h0]at hx;subst hx;exact A4z h i (.inl h0)
 ·rw[if_neg h0]at hx;by_cases h1:i.toNat<xs.length
  ·rw[List.getElem?_eq_getElem h1]at hx;have:=An4 h i.toNat h1 hb;rw[show((i.toNat:Nat):Int)=i by omega]at this;rw[hx];exact this
  ·rw[List.getElem?_eq_none z4sa]at hx;subst hx;exact A4z h i (.inr z4sa)
theorem z0ma {P:Prop} (h:P:=by
  have hgb:g≠b:=by
   rcases HAt.o with e|e
   ·intro e2;rw[e2]at e;exact HNe.o e
   ·omega
  refine⟨rfl,g,cap,⟨heap_set A4.o _,?_,?_,by simp only[Value.ownBlock,ne_eq,Option.some.injEq];exact hgb⟩,HAt.o.imp id (fun e=>by omega),⟨HGrow.o.os.trans Ae.o.os,HGrow.o.tape.trans Ae.o.tape,HGrow.o.output.trans Ae.o.output,by have:=HGrow.o.size;have:=HXb.o;simp[World.setCell];omega,fun k hk hkb hkr=>?_⟩⟩
  ·exact z28a
  ·rw[List.length_append,Sa,Uc];exact z2za
  ·have hkx:=HXb.o;exact((Below.heap_setCell _ _ _ _ (by exact hkb)).trans (HGrow.o.block k z4sa (fun e=>hkr e.symm))).trans (Ae.o.block k z4sa)):P:=h
theorem An5(h:E9 225 5 (By β) b o w cs t va vn vc xs)(hn:xs.length<=99999999999)(u:PV)(ho:o<cs.size):Calls Tryz.prog 99 #[.pointer (some ⟨b,o,none⟩),.agg #[.int .i64 (u.k:Nat),.bool u.y,.int .i64 u.n,.string ⟨u.t.toArray⟩,.pointer (B5 β u)]] w fun e w'=>e=.returned (.tuple #[])/\Zy 225 5 (By β) b o w cs t va vn vc xs u w':=by
 have hS0:E9 225 5 (By β) b o (w.alloc (.cells #[.int .i64 (u.k:Nat),.bool u.y,.int .i64 u.n,.string ⟨u.t.toArray⟩,.pointer (B5 β u)] 225)) cs t va vn vc xs:=h.keep (fun g hg=>Below.heap_alloc _ _ _ hg);have Bv:Below w.heap.size w (w.alloc (.cells #[.int .i64 (u.k:Nat),.bool u.y,.int .i64 u.n,.string ⟨u.t.toArray⟩,.pointer (B5 β u)] 225)):=Below.alloc (Below.refl _ _) (Nat.le_refl _) _;have Hf:=heap_alloc_new w (.cells #[.int .i64 (u.k:Nat),.bool u.y,.int .i64 u.n,.string ⟨u.t.toArray⟩,.pointer (B5 β u)] 225);have hlr:=Bg h.own;clear h;generalize hW:w.alloc (.cells #[.int .i64 (u.k:Nat),.bool u.y,.int .i64 u.n,.string ⟨u.t.toArray⟩,.pointer (B5 β u)] 225)=w0 at *;generalize hxb:w.heap.size=xb at *;have HW:=A0 hW;have HXb:=A0 hxb;have Ae:=A0 Bv;have hsz0:=Bv.size;clear hW Bv;have c:=Ea hS0.blk hS0.cell;have lb:=A6 hS0.blk;have hv:vn=xs.length:=(Cf hS0.own).1;subst hv;have x0:=A7 Hf 0 _ rfl;have x1:=A7 Hf 1 _ rfl;have x2:=A7 Hf 2 _ rfl;have x3:=A7 Hf 3 _ rfl;have x4:=A7 Hf 4 _ rfl;have lx:=A6 Hf;have hown:w0.drew.ownsRow 0 225 5 (.slice va xs.length vc) xs.length (C5 (By β) xs):=B2 hS0.own (fun _ _ _=>rfl);have HH:=A0 hS0;have HNe:=A0 hS0.ne;have HLr:=A0 hlr;clear hS0 Hf hxb hlr;go_enter Tryz.func99,Tryz.ntmps99;go_wp2;rw[HW.o,HXb.o];go_region_law (refine Nw _ w0.heap.size #[.int .i64 (u.k:Nat),.bool u.y,.int .i64 u.n,.string ⟨u.t.toArray⟩,.pointer (B5 β u)] 225 (heap_alloc_new w0.drew _) rfl (.tmp 8) (.tmp 10) 158 rfl 0 5 48 _ Tryz.underlying158 Tn rfl z4sa (.slice va xs.length vc) xs.length (C5 (By β) xs) rfl rfl (hown.alloc _) rfl (fun v hv=>by simp at hv;rcases hv with rfl|rfl|rfl|rfl|rfl <;> rfl) z4sa z4sa (Nat.zero_le _) ?_;intro g cap w1 Es hgrow' hat' hg;have Fw:=Md (World.grownBy_alloc w0.drew _ none) hgrow';have hgrow:w0.grownBy w1 (Value.slice va xs.length vc).ownBlock:=⟨Fw.os,Fw.tape,Fw.output,Fw.size,Fw.block⟩;clear Fw;have hat:(Value.slice va xs.length vc).ownBlock=some g\/w0.heap.size<=g:=hat'.imp id (fun e=>by rw[e];simp);have A1:=(hgrow.block b lb (fun e=>HNe.o e.symm)).trans HH.o.blk;have c1:=Ea A1 HH.o.cell;have f1:=Ci A1;have Bk:=A6 A1;have A4:=A0 A1;have HOwn1:=A0 Es;have HGrow:=A0 hgrow;have HAt:=A0 hat;clear A1 Es hgrow hat hgrow' hat')
 all_goals go_wp2
 all_goals go_end0
 all_goals
  exact z0ma
theorem A4x(h:E9 225 5 (By β) b o w cs t va vn vc xs)(m:Nat)(hm:m<=xs.length)(ho:o<cs.size):Calls Tryz.prog 205 #[.pointer (some ⟨b,o,none⟩),.int .i64 (m:Nat)] w fun e w'=>e=.returned (.tuple #[])/\K1 225 5 (By β) b o w cs t va vn vc xs m w':=by
 have c:=Ea h.blk h.cell;have lb:=A6 h.blk;have hv:vn=xs.length:=(Cf h.own).1;subst hv;have fz:=Ci h.blk;have HH:=A0 h;have HNe:=A0 h.ne;by_cases he:m=xs.length
 ·subst he;clear h;go_enter Tryz.func205,Tryz.ntmps205;go_wp2;refine bodyPost_ret (v:=.tuple #[]) (by simp[results,Tryz.results205,go_sem]) rfl ⟨rfl,?_,Ia.refl _ _ _⟩;exact z2aa
 ·obtain⟨hl,⟨h2,h3⟩|⟨g,cap,cur,hv,_,hg,hcap',hmx,hsz,ht⟩⟩:=h.own
  ·omega
  ·injection hv with e1 e2 e3;subst e1 e3;have hgb:g≠b:=fun e=>h.ne z5qa;have fg:=Ci hg;have lg:=A6 hg;have hzs:(.agg #[.int .i64 0,.bool false,.int .i64 0,.string ⟨#[]⟩,.pointer none]:Value).cells.size=5:=rfl;have hmul:m*5+(xs.length-m)*5=xs.length*5:=by omega
   have hcs:∀j,j<(xs.length-m)*(.agg #[.int .i64 0,.bool false,.int .i64 0,.string ⟨#[]⟩,.pointer none]:Value).cells.size->(w.cell? ⟨g,m*5+j,none⟩).isSome=true:=by
    intro j hj;rw[hzs]at hj;rw[cell_of_row w g (m*5+j) cur _ _ hg,Array.getElem?_eq_getElem z4sa];rfl
   have hcl:∀ty,(Builtin.clear_ #[158] ty #[.slice (some ⟨g,m*5,none⟩) (xs.length-m) (vc-m)]).run Tryz.prog w=.ok (.tuple #[]) (w.setCells g (m*5) (Builtin.zeroCells (.agg #[.int .i64 0,.bool false,.int .i64 0,.string ⟨#[]⟩,.pointer none]:Value).cells (xs.length-m)).toList):=
    fun ty=>A3a w 158 225 ty (.agg #[.int .i64 0,.bool false,.int .i64 0,.string ⟨#[]⟩,.pointer none]) Tryz.underlying158 Tryz.zeroValue225 (by rw[hzs];omega) (fun v hv=>by simp[Value.cells]at hv;rcases hv with rfl|rfl|rfl|rfl|rfl <;> rfl) g (m*5) (xs.length-m) (vc-m) z4sa hcs (fun j hj=>fg _)
   obtain⟨cur',k1,k2,k3⟩:=Qd g 225 (0,0) (Builtin.zeroCells (.agg #[.int .i64 0,.bool false,.int .i64 0,.string ⟨#[]⟩,.pointer none]:Value).cells (xs.length-m)).toList (m*5) cur w hg;obtain⟨f1,f2,f3,f4,f5⟩:=N7 g (Builtin.zeroCells (.agg #[.int .i64 0,.bool false,.int .i64 0,.string ⟨#[]⟩,.pointer none]:Value).cells (xs.length-m)).toList (m*5) w;have A1:=(f5 b (fun e=>hgb e.symm)).trans h.blk;have Iy:=A0 k1;have HK3:=A0 (k3 (m*5) (Nat.le_refl _));have HF:=A0 (And.intro f1 (And.intro f2 (And.intro f3 (And.intro f4 f5))));have HT:=A0 ht;have HSz:=A0 (k2.trans hsz);have hlen9:=hcap';clear h hcs hg ht k1 k2 k3 f1 f2 f3 f5 hl hsz hzs hmul;have c1:=Ea A1 HH.o.cell;have g1:=Ci A1;have Bk:=A6 A1;have A4:=A0 A1;clear A1 f4;generalize w.setCells g (m*5) (Builtin.zeroCells (.agg #[.int .i64 0,.bool false,.int .i64 0,.string ⟨#[]⟩,.pointer none]:Value).cells (xs.length-m)).toList=w1 at *;go_enter Tryz.func205,Tryz.ntmps205;go_wp2;go_end0;obtain⟨p1,p2,p3,p4,p5⟩:=HF.o;have hset:∀k,k≠b->(w1.setCell ⟨b,o,none⟩ (.slice (some ⟨g,0,none⟩) m vc)).heap[k]?=w1.heap[k]?:=fun k hk=>Below.heap_setCell _ _ _ _ z6ga;refine⟨rfl,⟨heap_set A4.o _,?_,⟨?_,.inr ⟨g,vc,cur',?_,Nat.zero_le _,(hset g hgb).trans Iy.o,?_,hmx,HSz.o,?_⟩⟩,?_⟩,⟨p1,p2,p3,by simp[World.setCell];omega,fun k hk hkb hkr=>?_⟩⟩
   ·exact z28a
   ·exact N6 (f:=(By β)) (sz:=5) (fun _=>rfl) _
   ·rw[List.length_take,Nat.min_eq_left hm]
   ·exact z4ja
   ·rw[List.length_take,Nat.min_eq_left hm,HK3.o,←A37 (sz:=5) (fun _=>rfl),←HT.o,List.take_take,Nat.min_eq_left z4sa]
   ·exact z3fa
   ·exact(hset k hkb).trans (p5 k (fun e=>hkr (by rw[e];rfl)))
theorem z36a {P:Prop} (h:P:=by
  repeat (first|exact A4.o|refine Below.alloc ?_ z4wa _|refine Below.setCell ?_ z4wa _|refine Below.drew ?_)):P:=h
theorem A51(h:E9 225 5 (By β) b o w cs t va vn vc xs)(hb:xs.length<=100000000000)(x:PV)(hx:x=xs.getLastD Bp):Calls Tryz.prog 200 #[.pointer (some ⟨b,o,none⟩)] w fun e w'=>e=.returned (.agg #[.int .i64 (x.k:Nat),.bool x.y,.int .i64 x.n,.string ⟨x.t.toArray⟩,.pointer (B5 β x)])/\Below w.heap.size w w':=by
 have lb:=A6 h.blk;have HL:=A0 (Zn (h.keep (w':=w.alloc (.cells #[.int .i64 0,.bool false,.int .i64 0,.string ⟨#[]⟩,.pointer none] 225)) (fun g hg=>Below.heap_alloc _ _ _ hg)));have HA:=A0 (A4w (h.keep (w':=w.alloc (.cells #[.int .i64 0,.bool false,.int .i64 0,.string ⟨#[]⟩,.pointer none] 225)) (fun g hg=>Below.heap_alloc _ _ _ hg)) ((xs.length:Int)-1) hb x (by rw[hx];exact Xu _ xs));clear h hx;go_enter Tryz.func200,Tryz.ntmps200;go_wp2_with fail
 refine HL.o.mono ?_;rintro e w0 ⟨rfl,Dz⟩;subst Dz;go_wp2_with fail
 refine HA.o.mono ?_;rintro e w1 ⟨rfl,A1⟩;have hR:=Fu A1 (heap_alloc_new w (.cells #[.int .i64 0,.bool false,.int .i64 0,.string ⟨#[]⟩,.pointer none] 225));have r0:=A7 hR 0 _ rfl;have r1:=A7 hR 1 _ rfl;have r2:=A7 hR 2 _ rfl;have r3:=A7 hR 3 _ rfl;have r4:=A7 hR 4 _ rfl;have fr:=Ci hR;have lr:=A6 hR;have A4:Hid (Below w.heap.size w w1):=(Below.alloc (Below.refl _ _) (Nat.le_refl _) _).trans (A1.mono z4wa);clear A1 hR HL HA;go_wp2;refine bodyPost_ret (v:=.agg #[.int .i64 (x.k:Nat),.bool x.y,.int .i64 x.n,.string ⟨x.t.toArray⟩,.pointer (B5 β x)]) (by simp[results,Tryz.results200,go_sem,r0,r1,r2,r3,r4]) rfl ⟨rfl,?_⟩;exact z36a
theorem z2ra {P:Prop} (h:P:=by
  go_enter Tryz.func205,Tryz.ntmps205;go_wp2;refine bodyPost_ret (v:=.tuple #[]) (by simp[results,Tryz.results205,go_sem]) rfl ⟨rfl,rfl⟩):P:=h
theorem A4y(h:E9 225 5 (By β) b o w cs t va vn vc xs)(i:Int)(hi:i<0):Calls Tryz.prog 205 #[.pointer (some ⟨b,o,none⟩),.int .i64 i] w fun e w'=>e=.returned (.tuple #[])/\w'=w:=by
 have c:=Ea h.blk h.cell;have lb:=A6 h.blk;have hv:vn=xs.length:=(Cf h.own).1;subst hv;clear h;exact z2ra
theorem An2(h:E9 225 5 (By β) b o w cs t va vn vc xs)(i:Int)(hi:(xs.length:Int)<=i):Calls Tryz.prog 205 #[.pointer (some ⟨b,o,none⟩),.int .i64 i] w fun e w'=>e=.returned (.tuple #[])/\w'=w:=by
 have c:=Ea h.blk h.cell;have lb:=A6 h.blk;have hv:vn=xs.length:=(Cf h.own).1;subst hv;clear h;have h0:¬i<0:=by omega
 exact z2ra
theorem z1ka {P:Prop} (h:P:=by
  rintro e w' ⟨rfl,rfl⟩;have hvn:vn=xs.length:=(Cf h.own).1;refine⟨rfl,?_,Ia.refl _ _ _⟩;have hx:xs=[]:=List.length_eq_zero_iff.1 h0;subst hx;simp only[List.length_nil]at hvn;subst hvn;show E9 _ _ _ b o w' (cs.setIfInBounds o (.slice va 0 vc)) t va 0 vc [];rw[Oo h.cell];exact h):P:=h
theorem z4ma {P:Prop} (h:P:=by
  rw[show(((xs.length-1:Nat)):Int)=(xs.length:Int)-1 by omega]at this;exact this):P:=h
theorem An3(h:E9 225 5 (By β) b o w cs t va vn vc xs)(ho:o<cs.size):Calls Tryz.prog 205 #[.pointer (some ⟨b,o,none⟩),.int .i64 ((xs.length:Int)-1)] w fun e w'=>e=.returned (.tuple #[])/\K1 225 5 (By β) b o w cs t va vn vc xs (xs.length-1) w':=by
 by_cases h0:xs.length=0
 ·refine(A4y h _ z4sa).mono ?_;exact z1ka
 ·have:=A4x h (xs.length-1) z4sa ho;exact z4ma
theorem z3aa {P:Prop} (h:P:=by
  have hcut:=K1.res ⟨Be.o,HF3.o⟩ Aa.o;repeat (first|exact hcut|refine K1.set ?_ lb HRl.o (Nat.le_refl _) _)):P:=h
theorem A50(h:E9 225 5 (By β) b o w cs t va vn vc xs)(hb:xs.length<=100000000000)(ho:o<cs.size)(x:PV)(hx:x=xs.getLastD Bp):Calls Tryz.prog 197 #[.pointer (some ⟨b,o,none⟩)] w fun e w'=>e=.returned (.agg #[.int .i64 (x.k:Nat),.bool x.y,.int .i64 x.n,.string ⟨x.t.toArray⟩,.pointer (B5 β x)])/\K1 225 5 (By β) b o w cs t va vn vc xs (xs.length-1) w':=by
 have lb:=A6 h.blk;have HKeep:=A0 (fun(W:World) (hW:Below w.heap.size w W)=>h.keep (w':=W) hW.block);have HT:=A0 (fun(W:World) (hs:E9 225 5 (By β) b o W cs t va vn vc xs)=>A51 hs hb x hx);have HL:=A0 (fun(W:World) (hs:E9 225 5 (By β) b o W cs t va vn vc xs)=>Zn hs);have HC:=A0 (fun(W:World) (hs:E9 225 5 (By β) b o W cs t va vn vc xs)=>An3 hs ho);have HRl:=A0 (Bg h.own);clear h hx;have Bv:Below w.heap.size w (w.alloc (.cells #[.int .i64 0,.bool false,.int .i64 0,.string ⟨#[]⟩,.pointer none] 225)):=Below.alloc (Below.refl _ _) (Nat.le_refl _) _;have Ae:=A0 Bv;clear Bv;go_enter Tryz.func197,Tryz.ntmps197;go_wp2_with fail
 refine(HT.o _ (HKeep.o _ Ae.o)).mono ?_;rintro e w1 ⟨rfl,A1⟩;have hR1:=Fu A1 (heap_alloc_new w (.cells #[.int .i64 0,.bool false,.int .i64 0,.string ⟨#[]⟩,.pointer none] 225));have A4:Hid (Below w.heap.size w w1):=Ae.o.trans (A1.mono z4wa);have Jj:=A0 hR1;have ls1:=A6 hR1;clear A1 hR1;go_wp2_with fail
 have A9:Below w.heap.size w (w1.alloc (.cells #[.int .i64 (x.k:Nat),.bool x.y,.int .i64 x.n,.string ⟨x.t.toArray⟩,.pointer (B5 β x)] 225)):=Below.alloc A4.o z4sa _;refine(HL.o _ (HKeep.o _ A9)).mono ?_;rintro e w2 ⟨rfl,Fx⟩;have Eg:w2.heap[w.heap.size]?=some (.cells #[.int .i64 0,.bool false,.int .i64 0,.string ⟨#[]⟩,.pointer none] 225 (0,0)):=by rw[Fx];exact alloc_old Jj.o
 have Il:w2.heap[w1.heap.size]?=some (.cells #[.int .i64 (x.k:Nat),.bool x.y,.int .i64 x.n,.string ⟨x.t.toArray⟩,.pointer (B5 β x)] 225 (0,0)):=by rw[Fx];exact heap_alloc_new _ _
 have hB2:Below w.heap.size w w2:=by rw[Fx];exact A9
 have Dv:=A0 Eg;have HT2:=A0 Il;have Aa:=A0 hB2;have Ed:=A0 (HC.o _ (HKeep.o _ hB2));clear Fx A9 Eg Il hB2;go_wp2_with fail
 refine Ed.o.mono ?_;rintro e w3 ⟨rfl,C0,hf3⟩;have hlw2:=A6 HT2.o;have hrow:∀k,w.heap.size<=k->(Value.slice va vn vc).ownBlock≠some k:=fun k hk e=>by have:=HRl.o k e;omega
 have Ie:=(hf3.block w.heap.size (A6 Dv.o) z4sa (hrow _ (Nat.le_refl _))).trans Dv.o;have I2:=(hf3.block w1.heap.size hlw2 z4sa (hrow _ z4sa)).trans HT2.o;have r0:=A7 Ie 0 _ rfl;have q0:=A7 I2 0 _ rfl;have r1:=A7 Ie 1 _ rfl;have q1:=A7 I2 1 _ rfl;have r2:=A7 Ie 2 _ rfl;have q2:=A7 I2 2 _ rfl;have r3:=A7 Ie 3 _ rfl;have q3:=A7 I2 3 _ rfl;have r4:=A7 Ie 4 _ rfl;have q4:=A7 I2 4 _ rfl;have fr:=Ci Ie;have lr:=A6 Ie;have lq:=A6 I2;have Be:=A0 C0;have HF3:=A0 hf3;have HRow:=A0 hrow;clear C0 hf3 hrow Ie I2 hlw2;go_wp2;refine bodyPost_ret (v:=.agg #[.int .i64 (x.k:Nat),.bool x.y,.int .i64 x.n,.string ⟨x.t.toArray⟩,.pointer (B5 β x)]) (by simp[results,Tryz.results197,go_sem,r0,r1,r2,r3,r4]) rfl ⟨rfl,?_⟩;exact z3aa
theorem z4oa {P:Prop} (h:P:=by
  clear hi;go_enter Tryz.func196,Tryz.ntmps196;go_wp2;go_end0;exact⟨rfl,Bv⟩):P:=h
theorem An7(h:E9 225 5 (By β) b o w cs t va vn vc xs)(i:Int)(hi:i<0\/(xs.length:Int)<=i)(u:PV):Calls Tryz.prog 196 #[.pointer (some ⟨b,o,none⟩),.int .i64 i,.agg #[.int .i64 (u.k:Nat),.bool u.y,.int .i64 u.n,.string ⟨u.t.toArray⟩,.pointer (B5 β u)]] w fun e w'=>e=.returned (.tuple #[])/\Below w.heap.size w w':=by
 have c:=Ea h.blk h.cell;have lb:=A6 h.blk;have hv:vn=xs.length:=(Cf h.own).1;subst hv;clear h;have Bv:Below w.heap.size w (w.alloc (.cells #[.int .i64 (u.k:Nat),.bool u.y,.int .i64 u.n,.string ⟨u.t.toArray⟩,.pointer (B5 β u)] 225)):=Below.alloc (Below.refl _ _) (Nat.le_refl _) _;by_cases h0:i<0
 ·have t0:decide (0<=i)=false:=decide_eq_false z4sa;exact z4oa
 ·have h1:(xs.length:Int)<=i:=by omega
  exact z4oa
theorem An6(h:E9 225 5 (By β) b o w cs t va vn vc xs)(i:Nat)(hi:i<xs.length)(u:PV):Calls Tryz.prog 196 #[.pointer (some ⟨b,o,none⟩),.int .i64 (i:Nat),.agg #[.int .i64 (u.k:Nat),.bool u.y,.int .i64 u.n,.string ⟨u.t.toArray⟩,.pointer (B5 β u)]] w fun e w'=>e=.returned (.tuple #[])/\Nh 225 5 (By β) b o w cs t va vn vc (xs.set i u) w':=by
 have c:=Ea h.blk h.cell;have lb:=A6 h.blk;have hv:vn=xs.length:=(Cf h.own).1;subst hv;have hput:=h.putRow (w:=w) (fun _=>rfl) i hi u (Below.refl _ _);obtain⟨hl,⟨h2,h3⟩|⟨g,cap,cur,hv,_,hg,hcap',hmx,hsz,ht⟩⟩:=h.own
 ·omega
 injection hv with e1 e2 e3;subst e1 e3;have HPut:=A0 (hput g rfl);have hgb:g≠b:=fun e=>h.ne z5qa;have fg:=Ci hg;have lg:=A6 hg;have y0:w.cell? ⟨g,i*5+0,none⟩=some (cur[i*5+0]):=by rw[cell_of_row w g (i*5+0) cur _ _ hg,Array.getElem?_eq_getElem z4sa]
 generalize cur[i*5+0]=z0 at y0;have y1:w.cell? ⟨g,i*5+1,none⟩=some (cur[i*5+1]):=by rw[cell_of_row w g (i*5+1) cur _ _ hg,Array.getElem?_eq_getElem z4sa]
 generalize cur[i*5+1]=z1 at y1;have y2:w.cell? ⟨g,i*5+2,none⟩=some (cur[i*5+2]):=by rw[cell_of_row w g (i*5+2) cur _ _ hg,Array.getElem?_eq_getElem z4sa]
 generalize cur[i*5+2]=z2 at y2;have y3:w.cell? ⟨g,i*5+3,none⟩=some (cur[i*5+3]):=by rw[cell_of_row w g (i*5+3) cur _ _ hg,Array.getElem?_eq_getElem z4sa]
 generalize cur[i*5+3]=z3 at y3;have y4:w.cell? ⟨g,i*5+4,none⟩=some (cur[i*5+4]):=by rw[cell_of_row w g (i*5+4) cur _ _ hg,Array.getElem?_eq_getElem z4sa]
 generalize cur[i*5+4]=z4 at y4;rw[Nat.add_zero]at y0;clear h hput ht hsz hmx hg hl;go_enter Tryz.func196,Tryz.ntmps196;go_wp2;go_region
 all_goals go_wp2
 all_goals go_end0
 all_goals exact⟨rfl,Nh.drew (HPut.o.alloc lb (fun k hk=>by simp only[Value.ownBlock,Option.some.injEq]at hk;rw[←hk];exact lg) _)⟩
end
end Go.Proofs.YtjdlndhfaaolaaaGreatDoor
