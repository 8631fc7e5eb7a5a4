import Derived.Test.YtjdlndhfaaolaaaGreatDoorT14
import Derived.Test.YtjdlndhfaaolaaaGreatDoorT33
set_option maxHeartbeats 20000000
namespace Go.Proofs.YtjdlndhfaaolaaaGreatDoor
section
open Go.RowKit
open Go.Deep (BT)
def C0{α:Type}(f:α->List Value)(xs:List α):List Value:=xs.flatMap f
variable {α:Type} {f:α->List Value} {sz:Nat}
theorem Ou(x:α)(r:List α):C0 f (x::r)=f x++C0 f r:=by simp[C0]
theorem Qr(a b:List α):C0 f (a++b)=C0 f a++C0 f b:=by simp[C0]
theorem Sb(x:α):C0 f [x]=f x:=by simp[C0]
theorem Lh(hf:∀x,(f x).length=sz)(xs:List α):(C0 f xs).length=xs.length*sz:=by
 induction xs with
 | nil=>simp[C0]
 | cons x r ih=>rw[Ou,List.length_append,ih,hf,List.length_cons,Nat.add_mul];omega
theorem D6(hf:∀x,(f x).length=sz)(xs:List α):∀(i j:Nat) (h:i<xs.length),j<sz->(C0 f xs)[i*sz+j]?=(f xs[i])[j]?:=by
 induction xs with
 | nil=>intro i j h;simp at h
 | cons x r ih=>
  intro i j h hj;rw[Ou];have hl:=hf x;cases i with
  | zero=>rw[List.getElem?_append_left z51a];simp
  | succ i=>
   rw[List.getElem?_append_right (by rw[hl,Nat.add_mul];omega),hl,show(i+1)*sz+j-sz=i*sz+j by rw[Nat.add_mul];omega];exact ih i j z68a hj
theorem Xu(hf:∀x,(f x).length=sz):∀(xs:List α) (m:Nat),(C0 f xs).take (m*sz)=C0 f (xs.take m):=by
 intro xs;induction xs with
 | nil=>intro m;simp[C0]
 | cons x r ih=>
  intro m;cases m with
  | zero=>simp[C0]
  | succ m=>rw[Ou,List.take_succ_cons,Ou,show(m+1)*sz=(f x).length+m*sz by rw[hf,Nat.add_mul];omega,List.take_length_add_append,ih]
theorem Uh(hf:∀x,(f x).length=sz)(y:α):∀(xs:List α) (i:Nat),i<xs.length->C0 f (xs.set i y)=(C0 f xs).take (i*sz)++f y++(C0 f xs).drop ((i+1)*sz):=by
 intro xs;induction xs with
 | nil=>intro i h;simp at h
 | cons x r ih=>
  intro i h;have hl:=hf x;cases i with
  | zero=>rw[List.set_cons_zero,Ou,Ou,Nat.zero_mul,List.take_zero,List.nil_append,Nat.zero_add,Nat.one_mul,<-hl,List.drop_left]
  | succ i=>
   have e1:(f x++C0 f r).take ((i+1)*sz)=f x++(C0 f r).take (i*sz):=by rw[show(i+1)*sz=(f x).length+i*sz by rw[hl,Nat.add_mul];omega,List.take_length_add_append]
   have e2:(f x++C0 f r).drop ((i+1+1)*sz)=(C0 f r).drop ((i+1)*sz):=by rw[show(i+1+1)*sz=(f x).length+(i+1)*sz by rw[hl,Nat.add_mul (i+1)];omega,List.drop_length_add_append]
   rw[List.set_cons_succ,Ou,Ou,ih i z68a,e1,e2];simp only[List.append_assoc]
structure Di {α : Type} (T : TypeId) (sz : Nat) (f : α -> List Value) (b o : Nat) (w : World) (cs : Array Value) (t : TypeId) (va : Option Addr) (vn vc : Nat) (xs : List α) : Prop where
 blk:w.heap[b]?=some (.cells cs t (0,0))
 cell:cs[o]?=some (.slice va vn vc)
 own:w.ownsRow 0 T sz (.slice va vn vc) xs.length (C0 f xs)
 ne:(Value.slice va vn vc).ownBlock≠some b
def Vb{α:Type}(T:TypeId)(sz:Nat)(f:α->List Value)(b o:Nat)(w:World)(cs:Array Value)(t:TypeId)(va:Option Addr)(vn vc:Nat)(xs:List α)(u:α)(w':World):Prop:=
 ∃g cap,Di T sz f b o w' (cs.setIfInBounds o (.slice (some ⟨g,0,none⟩) (xs.length+1) cap)) t (some ⟨g,0,none⟩) (xs.length+1) cap (xs++[u])/\((Value.slice va vn vc).ownBlock=some g\/w.heap.size<=g)/\Ft b (Value.slice va vn vc).ownBlock w w'
def Jp{α:Type}(T:TypeId)(sz:Nat)(f:α->List Value)(b o:Nat)(w:World)(cs:Array Value)(t:TypeId)(va:Option Addr)(vn vc:Nat)(xs:List α)(m:Nat)(w':World):Prop:=
 Di T sz f b o w' (cs.setIfInBounds o (.slice va m vc)) t va m vc (xs.take m)/\Ft b (Value.slice va vn vc).ownBlock w w'
theorem Di.keep{α:Type}{T:TypeId}{sz:Nat}{f:α->List Value}{b o:Nat}{w w':World}{cs:Array Value}{t:TypeId}{va:Option Addr}{vn vc:Nat}{xs:List α}(h:Di T sz f b o w cs t va vn vc xs)(hk:∀g,g<w.heap.size->w'.heap[g]?=w.heap[g]?):Di T sz f b o w' cs t va vn vc xs:=
 ⟨(hk b (A5 h.blk)).trans h.blk,h.cell,B8 h.own (fun g _ hl=>hk g hl),h.ne⟩
theorem Ft.below{b:Nat}{row:Option Nat}{w w1 w2:World}(hb:Below w.heap.size w w1)(h:Ft b row w1 w2):Ft b row w w2:=
 ⟨h.os.trans hb.os,h.tape.trans hb.tape,h.output.trans hb.output,Nat.le_trans hb.size h.size,fun k hk h1 h2=>(h.block k (Nat.lt_of_lt_of_le hk hb.size) h1 h2).trans (hb.block k hk)⟩
theorem Tx(g:Nat)(t:TypeId)(fr:Nat×Nat):∀(vs:List Value) (o:Nat) (cur:Array Value) (w:World),w.heap[g]?=some (.cells cur t fr)->o+vs.length<=cur.size->
  ∃cur',(w.setCells g o vs).heap[g]?=some (.cells cur' t fr)/\cur'.size=cur.size/\cur'.toList=cur.toList.take o++vs++cur.toList.drop (o+vs.length):=by
 intro vs;induction vs with
 | nil=>intro o cur w h hl;exact⟨cur,h,rfl,by simp⟩
 | cons v r ih=>
  intro o cur w h hl;simp only[List.length_cons]at hl;obtain⟨cur',h1,h2,h3⟩:=ih (o+1) _ _ (heap_set (j:=o) h v) z54a;refine⟨cur',h1,by rw[h2];simp,?_⟩;rw[h3];simp only[Array.toList_setIfInBounds,List.length_cons];have hol:o<cur.toList.length:=by simp;omega
  rw[List.drop_set_of_lt z51a,List.take_succ_eq_append_getElem (by simpa using hol),List.take_set_of_le (Nat.le_refl _)];simp only[List.getElem_set_self,List.append_assoc,List.cons_append,List.nil_append];rw[show o+1+r.length=o+(r.length+1) by omega]
theorem A49{α:Type}(C B:List α)(a b n:Nat)(hab:a+B.length=b)(hbn:b<=n)(hn:n<=C.length):(C.take a++B++C.drop b).take n=(C.take n).take a++B++(C.take n).drop b:=by
 have hl:(C.take a++B).length=b:=by simp;omega
 have e1:(C.take a++B++C.drop b).take n=(C.take a++B)++(C.drop b).take (n-b):=by
  rw[List.take_append,List.take_of_length_le z51a,hl]
 rw[e1,List.take_take,Nat.min_eq_left z51a,List.drop_take]
def Nh{α:Type}(T:TypeId)(sz:Nat)(f:α->List Value)(b o:Nat)(w:World)(cs:Array Value)(t:TypeId)(va:Option Addr)(vn vc:Nat)(ys:List α)(w':World):Prop:=
 Di T sz f b o w' cs t va vn vc ys/\Ft b (Value.slice va vn vc).ownBlock w w'
theorem z3qa {P:Prop} (h:P:=by
  rw[List.length_set,k3,Uh hf u xs i hi,<-ht,hf,<-hadd];exact A49 _ _ _ _ _ (by rw[hf];omega) hin z51a):P:=h
theorem Di.putRow{α:Type}{T:TypeId}{sz:Nat}{f:α->List Value}{b o:Nat}{w w0:World}{cs:Array Value}{t:TypeId}{va:Option Addr}{vn vc:Nat}{xs:List α}(h:Di T sz f b o w0 cs t va vn vc xs)(hf:∀x,(f x).length=sz)(i:Nat)(hi:i<xs.length)(u:α)(hb:Below w.heap.size w w0) :
  ∀g,va=some ⟨g,0,none⟩->Nh T sz f b o w cs t va vn vc (xs.set i u) (w0.setCells g (i*sz) (f u)):=by
 intro g hg;subst hg;obtain⟨hl,⟨h2,h3⟩|⟨g',cap,cur,hv,_,hgc,hcap,hmx,hsz,ht⟩⟩:=h.own
 ·cases h2
 injection hv with e1 e2 e3;injection e1 with e1;injection e1 with e1;subst e1 e3;have hin:(i+1)*sz<=xs.length*sz:=Nat.mul_le_mul_right _ hi;have hin2:xs.length*sz<=vc*sz:=Nat.mul_le_mul_right _ hcap;have hadd:(i+1)*sz=i*sz+sz:=by rw[Nat.add_mul,Nat.one_mul]
 obtain⟨cur',k1,k2,k3⟩:=Tx g T (0,0) (f u) (i*sz) cur w0 hgc (by rw[hf];omega);obtain⟨f1,f2,f3,f4,f5⟩:=Kk g (f u) (i*sz) w0;have hgb:g≠b:=fun e=>h.ne z5xa;refine⟨⟨(f5 b (fun e=>hgb e.symm)).trans h.blk,h.cell,⟨by rw[Lh hf],.inr ⟨g,vc,cur',?_,Nat.zero_le _,k1,?_,hmx,by rw[k2];exact hsz,?_⟩⟩,h.ne⟩,⟨f1.trans hb.os,f2.trans hb.tape,f3.trans hb.output,by rw[f4];exact hb.size,fun k hk h1 h2=>(f5 k (fun e=>h2 (by rw[e];rfl))).trans (hb.block k hk)⟩⟩
 ·rw[List.length_set,e2]
 ·rw[List.length_set];exact hcap
 ·have hcl:cur.toList.length=vc*sz:=by simpa using hsz
  exact z3qa
theorem Nh.alloc{α:Type}{T:TypeId}{sz:Nat}{f:α->List Value}{b o:Nat}{w w3:World}{cs:Array Value}{t:TypeId}{va:Option Addr}{vn vc:Nat}{ys:List α}(h:Nh T sz f b o w cs t va vn vc ys w3)(hl:b<w.heap.size)(hr:∀k,(Value.slice va vn vc).ownBlock=some k->k<w.heap.size)(x:Obj):Nh T sz f b o w cs t va vn vc ys (w3.alloc x):=by
 have hk:∀k,k<w.heap.size->(w3.alloc x).heap[k]?=w3.heap[k]?:=fun k hk=>Below.heap_alloc _ _ _ (Nat.lt_of_lt_of_le hk h.2.size);exact⟨⟨(hk b hl).trans h.1.blk,h.1.cell,B8 h.1.own (fun k hk' _=>hk k (hr k hk')),h.1.ne⟩,⟨h.2.os,h.2.tape,h.2.output,by simp;have:=h.2.size;omega,fun k h1 h2 h3=>(hk k h1).trans (h.2.block k h1 h2 h3)⟩⟩
theorem Nh.drew{α:Type}{T:TypeId}{sz:Nat}{f:α->List Value}{b o:Nat}{w w3:World}{cs:Array Value}{t:TypeId}{va:Option Addr}{vn vc:Nat}{ys:List α}(h:Nh T sz f b o w cs t va vn vc ys w3):Nh T sz f b o w cs t va vn vc ys w3.drew:=
 ⟨⟨h.1.blk,h.1.cell,B8 h.1.own (fun _ _ _=>rfl),h.1.ne⟩,⟨h.2.os,h.2.tape,h.2.output,h.2.size,h.2.block⟩⟩
theorem Jp.res{α:Type}{T:TypeId}{sz:Nat}{f:α->List Value}{b o:Nat}{w w2 w3:World}{cs:Array Value}{t:TypeId}{va:Option Addr}{vn vc:Nat}{xs:List α}{m:Nat}(h:Jp T sz f b o w2 cs t va vn vc xs m w3)(hb:Below w.heap.size w w2):Jp T sz f b o w cs t va vn vc xs m w3:=⟨h.1,Ft.below hb h.2⟩
theorem Jp.set{α:Type}{T:TypeId}{sz:Nat}{f:α->List Value}{b o:Nat}{w w3:World}{cs:Array Value}{t:TypeId}{va:Option Addr}{vn vc:Nat}{xs:List α}{m:Nat}(h:Jp T sz f b o w cs t va vn vc xs m w3)(hl:b<w.heap.size)(hr:∀k,(Value.slice va vn vc).ownBlock=some k->k<w.heap.size){p:Addr}(hp:w.heap.size<=p.block)(v:Value):Jp T sz f b o w cs t va vn vc xs m (w3.setCell p v):=by
 have hk:∀k,k<w.heap.size->(w3.setCell p v).heap[k]?=w3.heap[k]?:=fun k hk=>Below.heap_setCell _ _ _ _ z51a;exact⟨⟨(hk b hl).trans h.1.blk,h.1.cell,B8 h.1.own (fun k hk' _=>hk k (hr k ((Mb _ _ _ _).trans hk'))),h.1.ne⟩,⟨h.2.os,h.2.tape,h.2.output,by simp[World.setCell];exact h.2.size,fun k h1 h2 h3=>(hk k h1).trans (h.2.block k h1 h2 h3)⟩⟩
theorem Qe{α:Type}(z:α)(xs:List α):xs.getLastD z=if((xs.length:Int)-1)<0 then z else(xs[((xs.length:Int)-1).toNat]?).getD z:=by
 rw[List.getLastD_eq_getLast?,List.getLast?_eq_getElem?];by_cases h:xs.length=0
 ·rw[if_pos z51a,List.getElem?_eq_none z51a];rfl
 ·rw[if_neg z51a,show((xs.length:Int)-1).toNat=xs.length-1 by omega]
theorem A54(z:Array Value)(n:Nat):(Builtin.zeroCells z n).toList.length=n*z.size:=by simp[Builtin.zeroCells]
theorem Ara{z:Array Value}(hz:0<z.size)(h1:∀v∈z.toList,v.oneCell'=true)(n:Nat):∀v∈(Builtin.zeroCells z n).toList,v.oneCell'=true:=by
 intro v hv;simp only[Builtin.zeroCells,Array.toList_map,List.mem_map]at hv;obtain⟨i,_,rfl⟩:=hv;have hlt:i % z.size<z.size:=Nat.mod_lt _ hz;rw[getElem!_pos z _ hlt];exact h1 _ (Array.getElem_mem_toList hlt)
theorem Xw{P:Program}(w:World)(t e ty:TypeId)(z:Value)(ht:P.underlying t=some (.slice e))(hv:∀w,(zeroValue e).run P w=.ok z w)(hz:0<z.cells.size)(h1:∀v∈z.cells.toList,v.oneCell'=true)(b o n c:Nat)(hn:0<n)
  (hc:∀j,j<n*z.cells.size->(w.cell? ⟨b,o+j,none⟩).isSome=true) (hf:∀j,j<n*z.cells.size->w.frozen? ⟨b,o+j,none⟩=false) :
  (Builtin.clear_ #[t] ty #[.slice (some ⟨b,o,none⟩) n c]).run P w=.ok (.tuple #[]) (w.setCells b o (Builtin.zeroCells z.cells n).toList):=by
 have hst:=run_storeCells_cells (P:=P) b o (Builtin.zeroCells z.cells n).toList 0 w (by rw[A54];simpa using hc) (by rw[A54];simpa using hf) (Ara hz h1 n);simp only[Nat.add_zero]at hst;obtain⟨m,rfl⟩:∃m,n=m+1:=⟨n-1,by omega⟩;simp[Builtin.clear_,run_underlying ht,hv,hst]
end
section
set_option maxRecDepth 100000
open Go.RowKit
open Go.Deep (BT)
variable {β:Nat->Nat}{b o:Nat}{w:World}{cs:Array Value}{t:TypeId}{va:Option Addr}{vn vc:Nat}{xs:List PV}
def Bq(β:Nat->Nat)(v:PV):Option Addr:=match v.r with
 | none=>none
 | some i=>some ⟨β i,0,none⟩
def Cb(β:Nat->Nat)(v:PV):List Value:=[.int .i64 (v.k:Nat),.bool v.y,.int .i64 v.n,.string ⟨v.t.toArray⟩,.pointer (Bq β v)]
theorem Tz:(Tryz.prog.info? 225).map (fun i=>(i.zero,i.size,i.bytes))=some (some (.agg #[.int .i64 0,.bool false,.int .i64 0,.string ⟨#[]⟩,.pointer none]),5,48):=by kernel_rfl
theorem Yo(h:Di 225 5 (Cb β) b o w cs t va vn vc xs):Calls Tryz.prog 98 #[.pointer (some ⟨b,o,none⟩)] w fun e w'=>e=.returned (.int .i64 (xs.length:Nat))/\w'=w:=by
 have c:=Dq h.blk h.cell;have lb:=A5 h.blk;have hv:vn=xs.length:=(Cg h.own).1;subst hv;clear h;go_enter Tryz.func98,Tryz.ntmps98;exact z0xa
theorem z44a {P:Prop} (h:P:=by
  exact Below.alloc (Below.refl _ _) (Nat.le_refl _) _):P:=h
theorem Ape(h:Di 225 5 (Cb β) b o w cs t va vn vc xs)(i:Nat)(hi:i<xs.length)(hb:xs.length<=1000000):Calls Tryz.prog 195 #[.pointer (some ⟨b,o,none⟩),.int .i64 (i:Nat)] w fun e w'=>e=.returned (.agg #[.int .i64 ((xs[i]).k:Nat),.bool (xs[i]).y,.int .i64 (xs[i]).n,.string ⟨(xs[i]).t.toArray⟩,.pointer (Bq β (xs[i]))])/\Below w.heap.size w w':=by
 have c:=Dq h.blk h.cell;have lb:=A5 h.blk;have hv:vn=xs.length:=(Cg h.own).1;subst hv;obtain⟨g,rfl,hvn9,hcap,lg,hcell⟩:=G2 h.own z51a;clear hvn9;have d0:=hcell (i*5+0) _ ((D6 (sz:=5) (fun _=>rfl) xs i 0 hi z51a).trans rfl);have d1:=hcell (i*5+1) _ ((D6 (sz:=5) (fun _=>rfl) xs i 1 hi z51a).trans rfl);have d2:=hcell (i*5+2) _ ((D6 (sz:=5) (fun _=>rfl) xs i 2 hi z51a).trans rfl);have d3:=hcell (i*5+3) _ ((D6 (sz:=5) (fun _=>rfl) xs i 3 hi z51a).trans rfl);have d4:=hcell (i*5+4) _ ((D6 (sz:=5) (fun _=>rfl) xs i 4 hi z51a).trans rfl);rw[Nat.add_zero]at d0;clear h hcell;generalize xs[i]=x at *;go_enter Tryz.func195,Tryz.ntmps195;go_wp2;refine bodyPost_ret (v:=.agg #[.int .i64 (x.k:Nat),.bool x.y,.int .i64 x.n,.string ⟨x.t.toArray⟩,.pointer (Bq β x)]) (by simp[results,Tryz.results195,go_sem]) rfl ⟨rfl,?_⟩;exact z44a
theorem z1ya {P:Prop} (h:P:=by
  clear hi;go_enter Tryz.func195,Tryz.ntmps195;go_wp2;refine bodyPost_ret (v:=.agg #[.int .i64 0,.bool false,.int .i64 0,.string ⟨#[]⟩,.pointer none]) (by simp[results,Tryz.results195,go_sem]) rfl ⟨rfl,?_⟩;exact z03a):P:=h
theorem A4n(h:Di 225 5 (Cb β) b o w cs t va vn vc xs)(i:Int)(hi:i<0\/(xs.length:Int)<=i):Calls Tryz.prog 195 #[.pointer (some ⟨b,o,none⟩),.int .i64 i] w fun e w'=>e=.returned (.agg #[.int .i64 0,.bool false,.int .i64 0,.string ⟨#[]⟩,.pointer none])/\Below w.heap.size w w':=by
 have c:=Dq h.blk h.cell;have lb:=A5 h.blk;have hv:vn=xs.length:=(Cg h.own).1;subst hv;clear h;by_cases h0:i<0
 ·exact z1ya
 ·have h1:(xs.length:Int)<=i:=by omega
  exact z1ya
theorem z3ma {P:Prop} (h:P:=by
  rw[show((i.toNat:Nat):Int)=i by omega]at this;rw[hx];exact this):P:=h
theorem Yn(h:Di 225 5 (Cb β) b o w cs t va vn vc xs)(i:Int)(hb:xs.length<=1000000)(x:PV)(hx:x=if i<0 then Ab else(xs[i.toNat]?).getD Ab):Calls Tryz.prog 195 #[.pointer (some ⟨b,o,none⟩),.int .i64 i] w fun e w'=>e=.returned (.agg #[.int .i64 (x.k:Nat),.bool x.y,.int .i64 x.n,.string ⟨x.t.toArray⟩,.pointer (Bq β x)])/\Below w.heap.size w w':=by
 by_cases h0:i<0
 ·rw[if_pos h0]at hx;subst hx;exact A4n h i (.inl h0)
 ·rw[if_neg h0]at hx;by_cases h1:i.toNat<xs.length
  ·rw[List.getElem?_eq_getElem h1]at hx;have:=Ape h i.toNat h1 hb;exact z3ma
  ·rw[List.getElem?_eq_none z51a]at hx;subst hx;exact A4n h i (.inr z51a)
theorem Apf(h:Di 225 5 (Cb β) b o w cs t va vn vc xs)(hn:xs.length<=900000)(u:PV)(ho:o<cs.size):Calls Tryz.prog 99 #[.pointer (some ⟨b,o,none⟩),.agg #[.int .i64 (u.k:Nat),.bool u.y,.int .i64 u.n,.string ⟨u.t.toArray⟩,.pointer (Bq β u)]] w fun e w'=>e=.returned (.tuple #[])/\Vb 225 5 (Cb β) b o w cs t va vn vc xs u w':=by
 have Gz:Di 225 5 (Cb β) b o (w.alloc (.cells #[.int .i64 (u.k:Nat),.bool u.y,.int .i64 u.n,.string ⟨u.t.toArray⟩,.pointer (Bq β u)] 225)) cs t va vn vc xs:=h.keep (fun g hg=>Below.heap_alloc _ _ _ hg);have Bj:Below w.heap.size w (w.alloc (.cells #[.int .i64 (u.k:Nat),.bool u.y,.int .i64 u.n,.string ⟨u.t.toArray⟩,.pointer (Bq β u)] 225)):=Below.alloc (Below.refl _ _) (Nat.le_refl _) _;have Fc:=heap_alloc_new w (.cells #[.int .i64 (u.k:Nat),.bool u.y,.int .i64 u.n,.string ⟨u.t.toArray⟩,.pointer (Bq β u)] 225);have hlr:=Bs h.own;clear h;generalize hW:w.alloc (.cells #[.int .i64 (u.k:Nat),.bool u.y,.int .i64 u.n,.string ⟨u.t.toArray⟩,.pointer (Bq β u)] 225)=w0 at *;generalize hxb:w.heap.size=xb at *;have HW:=A0 hW;have HXb:=A0 hxb;have Ah:=A0 Bj;have hsz0:=Bj.size;clear hW Bj;have c:=Dq Gz.blk Gz.cell;have lb:=A5 Gz.blk;have hv:vn=xs.length:=(Cg Gz.own).1;subst hv;have x0:=A2 Fc 0 _ rfl;have x1:=A2 Fc 1 _ rfl;have x2:=A2 Fc 2 _ rfl;have x3:=A2 Fc 3 _ rfl;have x4:=A2 Fc 4 _ rfl;have lx:=A5 Fc;have hown:w0.drew.ownsRow 0 225 5 (.slice va xs.length vc) xs.length (C0 (Cb β) xs):=B8 Gz.own (fun _ _ _=>rfl);have HH:=A0 Gz;have HNe:=A0 Gz.ne;have HLr:=A0 hlr;clear Gz Fc hxb hlr;go_enter Tryz.func99,Tryz.ntmps99;go_wp2;rw[HW.o,HXb.o];go_region_law (refine N6 _ w0.heap.size #[.int .i64 (u.k:Nat),.bool u.y,.int .i64 u.n,.string ⟨u.t.toArray⟩,.pointer (Bq β u)] 225 (heap_alloc_new w0.drew _) rfl (.tmp 8) (.tmp 10) 158 rfl 0 5 48 _ Tryz.underlying158 Tz rfl z51a (.slice va xs.length vc) xs.length (C0 (Cb β) xs) rfl rfl (hown.alloc _) rfl (fun v hv=>by simp at hv;rcases hv with rfl|rfl|rfl|rfl|rfl <;> rfl) z51a z51a (Nat.zero_le _) ?_;intro g cap w1 F0 hgrow' hat' hg;have F5:=Lx (World.grownBy_alloc w0.drew _ none) hgrow';have hgrow:w0.grownBy w1 (Value.slice va xs.length vc).ownBlock:=⟨F5.os,F5.tape,F5.output,F5.size,F5.block⟩;clear F5;have hat:(Value.slice va xs.length vc).ownBlock=some g\/w0.heap.size<=g:=hat'.imp id (fun e=>by rw[e];simp);have A1:=(hgrow.block b lb (fun e=>HNe.o e.symm)).trans HH.o.blk;have c1:=Dq A1 HH.o.cell;have f1:=Bh A1;have Bp:=A5 A1;have A4:=A0 A1;have HOwn1:=A0 F0;have HGrow:=A0 hgrow;have HAt:=A0 hat;clear A1 F0 hgrow hat hgrow' hat')
 all_goals go_wp2
 all_goals go_end0
 all_goals
  have hgb:g≠b:=by
   rcases HAt.o with e|e
   ·intro e2;rw[e2]at e;exact HNe.o e
   ·omega
  refine⟨rfl,g,cap,⟨heap_set A4.o _,?_,?_,by simp only[Value.ownBlock,ne_eq,Option.some.injEq];exact hgb⟩,HAt.o.imp id (fun e=>by omega),⟨HGrow.o.os.trans Ah.o.os,HGrow.o.tape.trans Ah.o.tape,HGrow.o.output.trans Ah.o.output,by have:=HGrow.o.size;have:=HXb.o;simp[World.setCell];omega,fun k hk hkb hkr=>?_⟩⟩
  ·exact z1za
  ·rw[List.length_append,Qr,Sb];exact z3fa
  ·have hkx:=HXb.o;exact((Below.heap_setCell _ _ _ _ (by exact hkb)).trans (HGrow.o.block k z51a (fun e=>hkr e.symm))).trans (Ah.o.block k z51a)
theorem z3sa {P:Prop} (h:P:=by
  exact(hset k hkb).trans (p5 k (fun e=>hkr (by rw[e];rfl)))):P:=h
theorem A4l(h:Di 225 5 (Cb β) b o w cs t va vn vc xs)(m:Nat)(hm:m<=xs.length)(ho:o<cs.size):Calls Tryz.prog 205 #[.pointer (some ⟨b,o,none⟩),.int .i64 (m:Nat)] w fun e w'=>e=.returned (.tuple #[])/\Jp 225 5 (Cb β) b o w cs t va vn vc xs m w':=by
 have c:=Dq h.blk h.cell;have lb:=A5 h.blk;have hv:vn=xs.length:=(Cg h.own).1;subst hv;have fz:=Bh h.blk;have HH:=A0 h;have HNe:=A0 h.ne;by_cases he:m=xs.length
 ·subst he;clear h;go_enter Tryz.func205,Tryz.ntmps205;go_wp2;refine bodyPost_ret (v:=.tuple #[]) (by simp[results,Tryz.results205,go_sem]) rfl ⟨rfl,?_,Ft.refl _ _ _⟩;exact z25a
 ·obtain⟨hl,⟨h2,h3⟩|⟨g,cap,cur,hv,_,hg,hcap',hmx,hsz,ht⟩⟩:=h.own
  ·omega
  ·injection hv with e1 e2 e3;subst e1 e3;have hgb:g≠b:=fun e=>h.ne z5xa;have fg:=Bh hg;have lg:=A5 hg;have hzs:(.agg #[.int .i64 0,.bool false,.int .i64 0,.string ⟨#[]⟩,.pointer none]:Value).cells.size=5:=rfl;have hmul:m*5+(xs.length-m)*5=xs.length*5:=by omega
   have hcs:∀j,j<(xs.length-m)*(.agg #[.int .i64 0,.bool false,.int .i64 0,.string ⟨#[]⟩,.pointer none]:Value).cells.size->(w.cell? ⟨g,m*5+j,none⟩).isSome=true:=by
    intro j hj;rw[hzs]at hj;rw[cell_of_row w g (m*5+j) cur _ _ hg,Array.getElem?_eq_getElem z51a];rfl
   have hcl:∀ty,(Builtin.clear_ #[158] ty #[.slice (some ⟨g,m*5,none⟩) (xs.length-m) (vc-m)]).run Tryz.prog w=.ok (.tuple #[]) (w.setCells g (m*5) (Builtin.zeroCells (.agg #[.int .i64 0,.bool false,.int .i64 0,.string ⟨#[]⟩,.pointer none]:Value).cells (xs.length-m)).toList):=
    fun ty=>Xw w 158 225 ty (.agg #[.int .i64 0,.bool false,.int .i64 0,.string ⟨#[]⟩,.pointer none]) Tryz.underlying158 Tryz.zeroValue225 (by rw[hzs];omega) (fun v hv=>by simp[Value.cells]at hv;rcases hv with rfl|rfl|rfl|rfl|rfl <;> rfl) g (m*5) (xs.length-m) (vc-m) z51a hcs (fun j hj=>fg _)
   obtain⟨cur',k1,k2,k3⟩:=P9 g 225 (0,0) (Builtin.zeroCells (.agg #[.int .i64 0,.bool false,.int .i64 0,.string ⟨#[]⟩,.pointer none]:Value).cells (xs.length-m)).toList (m*5) cur w hg;obtain⟨f1,f2,f3,f4,f5⟩:=Kk g (Builtin.zeroCells (.agg #[.int .i64 0,.bool false,.int .i64 0,.string ⟨#[]⟩,.pointer none]:Value).cells (xs.length-m)).toList (m*5) w;have A1:=(f5 b (fun e=>hgb e.symm)).trans h.blk;have Hz:=A0 k1;have HK3:=A0 (k3 (m*5) (Nat.le_refl _));have HF:=A0 (And.intro f1 (And.intro f2 (And.intro f3 (And.intro f4 f5))));have HT:=A0 ht;have HSz:=A0 (k2.trans hsz);have hlen9:=hcap';clear h hcs hg ht k1 k2 k3 f1 f2 f3 f5 hl hsz hzs hmul;have c1:=Dq A1 HH.o.cell;have g1:=Bh A1;have Bp:=A5 A1;have A4:=A0 A1;clear A1 f4;generalize w.setCells g (m*5) (Builtin.zeroCells (.agg #[.int .i64 0,.bool false,.int .i64 0,.string ⟨#[]⟩,.pointer none]:Value).cells (xs.length-m)).toList=w1 at *;go_enter Tryz.func205,Tryz.ntmps205;go_wp2;go_end0;obtain⟨p1,p2,p3,p4,p5⟩:=HF.o;have hset:∀k,k≠b->(w1.setCell ⟨b,o,none⟩ (.slice (some ⟨g,0,none⟩) m vc)).heap[k]?=w1.heap[k]?:=fun k hk=>Below.heap_setCell _ _ _ _ z5za;refine⟨rfl,⟨heap_set A4.o _,?_,⟨?_,.inr ⟨g,vc,cur',?_,Nat.zero_le _,(hset g hgb).trans Hz.o,?_,hmx,HSz.o,?_⟩⟩,?_⟩,⟨p1,p2,p3,by simp[World.setCell];omega,fun k hk hkb hkr=>?_⟩⟩
   ·exact z1za
   ·exact Lh (f:=(Cb β)) (sz:=5) (fun _=>rfl) _
   ·exact z40a
   ·exact z3oa
   ·rw[List.length_take,Nat.min_eq_left hm,HK3.o,<-Xu (sz:=5) (fun _=>rfl),<-HT.o,List.take_take,Nat.min_eq_left z51a]
   ·exact z2pa
   ·exact z3sa
theorem z3la {P:Prop} (h:P:=by
  repeat (first|exact A4.o|refine Below.alloc ?_ z56a _|refine Below.setCell ?_ z56a _|refine Below.drew ?_)):P:=h
theorem A4p(h:Di 225 5 (Cb β) b o w cs t va vn vc xs)(hb:xs.length<=1000000)(x:PV)(hx:x=xs.getLastD Ab):Calls Tryz.prog 200 #[.pointer (some ⟨b,o,none⟩)] w fun e w'=>e=.returned (.agg #[.int .i64 (x.k:Nat),.bool x.y,.int .i64 x.n,.string ⟨x.t.toArray⟩,.pointer (Bq β x)])/\Below w.heap.size w w':=by
 have lb:=A5 h.blk;have HL:=A0 (Yo (h.keep (w':=w.alloc (.cells #[.int .i64 0,.bool false,.int .i64 0,.string ⟨#[]⟩,.pointer none] 225)) (fun g hg=>Below.heap_alloc _ _ _ hg)));have HA:=A0 (Yn (h.keep (w':=w.alloc (.cells #[.int .i64 0,.bool false,.int .i64 0,.string ⟨#[]⟩,.pointer none] 225)) (fun g hg=>Below.heap_alloc _ _ _ hg)) ((xs.length:Int)-1) hb x (by rw[hx];exact Qe _ xs));clear h hx;go_enter Tryz.func200,Tryz.ntmps200;go_wp2_with fail
 refine HL.o.mono ?_;rintro e w0 ⟨rfl,D5⟩;subst D5;go_wp2_with fail
 refine HA.o.mono ?_;rintro e w1 ⟨rfl,A1⟩;have hR:=Fu A1 (heap_alloc_new w (.cells #[.int .i64 0,.bool false,.int .i64 0,.string ⟨#[]⟩,.pointer none] 225));have r0:=A2 hR 0 _ rfl;have r1:=A2 hR 1 _ rfl;have r2:=A2 hR 2 _ rfl;have r3:=A2 hR 3 _ rfl;have r4:=A2 hR 4 _ rfl;have fr:=Bh hR;have lr:=A5 hR;have A4:Hid (Below w.heap.size w w1):=(Below.alloc (Below.refl _ _) (Nat.le_refl _) _).trans (A1.mono z56a);clear A1 hR HL HA;go_wp2;refine bodyPost_ret (v:=.agg #[.int .i64 (x.k:Nat),.bool x.y,.int .i64 x.n,.string ⟨x.t.toArray⟩,.pointer (Bq β x)]) (by simp[results,Tryz.results200,go_sem,r0,r1,r2,r3,r4]) rfl ⟨rfl,?_⟩;exact z3la
theorem z2xa {P:Prop} (h:P:=by
  go_enter Tryz.func205,Tryz.ntmps205;go_wp2;refine bodyPost_ret (v:=.tuple #[]) (by simp[results,Tryz.results205,go_sem]) rfl ⟨rfl,rfl⟩):P:=h
theorem A4m(h:Di 225 5 (Cb β) b o w cs t va vn vc xs)(i:Int)(hi:i<0):Calls Tryz.prog 205 #[.pointer (some ⟨b,o,none⟩),.int .i64 i] w fun e w'=>e=.returned (.tuple #[])/\w'=w:=by
 have c:=Dq h.blk h.cell;have lb:=A5 h.blk;have hv:vn=xs.length:=(Cg h.own).1;subst hv;clear h;exact z2xa
theorem Apc(h:Di 225 5 (Cb β) b o w cs t va vn vc xs)(i:Int)(hi:(xs.length:Int)<=i):Calls Tryz.prog 205 #[.pointer (some ⟨b,o,none⟩),.int .i64 i] w fun e w'=>e=.returned (.tuple #[])/\w'=w:=by
 have c:=Dq h.blk h.cell;have lb:=A5 h.blk;have hv:vn=xs.length:=(Cg h.own).1;subst hv;clear h;have h0:¬i<0:=by omega
 exact z2xa
theorem z1oa {P:Prop} (h:P:=by
  rintro e w' ⟨rfl,rfl⟩;have hvn:vn=xs.length:=(Cg h.own).1;refine⟨rfl,?_,Ft.refl _ _ _⟩;have hx:xs=[]:=List.length_eq_zero_iff.1 h0;subst hx;simp only[List.length_nil]at hvn;subst hvn;show Di _ _ _ b o w' (cs.setIfInBounds o (.slice va 0 vc)) t va 0 vc [];rw[Ny h.cell];exact h):P:=h
theorem z4sa {P:Prop} (h:P:=by
  rw[show(((xs.length-1:Nat)):Int)=(xs.length:Int)-1 by omega]at this;exact this):P:=h
theorem Apd(h:Di 225 5 (Cb β) b o w cs t va vn vc xs)(ho:o<cs.size):Calls Tryz.prog 205 #[.pointer (some ⟨b,o,none⟩),.int .i64 ((xs.length:Int)-1)] w fun e w'=>e=.returned (.tuple #[])/\Jp 225 5 (Cb β) b o w cs t va vn vc xs (xs.length-1) w':=by
 by_cases h0:xs.length=0
 ·refine(A4m h _ z51a).mono ?_;exact z1oa
 ·have:=A4l h (xs.length-1) z51a ho;exact z4sa
theorem z3pa {P:Prop} (h:P:=by
  have hcut:=Jp.res ⟨Bg.o,HF3.o⟩ Aa.o;repeat (first|exact hcut|refine Jp.set ?_ lb HRl.o (Nat.le_refl _) _)):P:=h
theorem A4o(h:Di 225 5 (Cb β) b o w cs t va vn vc xs)(hb:xs.length<=1000000)(ho:o<cs.size)(x:PV)(hx:x=xs.getLastD Ab):Calls Tryz.prog 197 #[.pointer (some ⟨b,o,none⟩)] w fun e w'=>e=.returned (.agg #[.int .i64 (x.k:Nat),.bool x.y,.int .i64 x.n,.string ⟨x.t.toArray⟩,.pointer (Bq β x)])/\Jp 225 5 (Cb β) b o w cs t va vn vc xs (xs.length-1) w':=by
 have lb:=A5 h.blk;have HKeep:=A0 (fun(W:World) (hW:Below w.heap.size w W)=>h.keep (w':=W) hW.block);have HT:=A0 (fun(W:World) (hs:Di 225 5 (Cb β) b o W cs t va vn vc xs)=>A4p hs hb x hx);have HL:=A0 (fun(W:World) (hs:Di 225 5 (Cb β) b o W cs t va vn vc xs)=>Yo hs);have HC:=A0 (fun(W:World) (hs:Di 225 5 (Cb β) b o W cs t va vn vc xs)=>Apd hs ho);have HRl:=A0 (Bs h.own);clear h hx;have Bj:Below w.heap.size w (w.alloc (.cells #[.int .i64 0,.bool false,.int .i64 0,.string ⟨#[]⟩,.pointer none] 225)):=Below.alloc (Below.refl _ _) (Nat.le_refl _) _;have Ah:=A0 Bj;clear Bj;go_enter Tryz.func197,Tryz.ntmps197;go_wp2_with fail
 refine(HT.o _ (HKeep.o _ Ah.o)).mono ?_;rintro e w1 ⟨rfl,A1⟩;have hR1:=Fu A1 (heap_alloc_new w (.cells #[.int .i64 0,.bool false,.int .i64 0,.string ⟨#[]⟩,.pointer none] 225));have A4:Hid (Below w.heap.size w w1):=Ah.o.trans (A1.mono z56a);have F8:=A0 hR1;have E5:=A5 hR1;clear A1 hR1;go_wp2_with fail
 have A8:Below w.heap.size w (w1.alloc (.cells #[.int .i64 (x.k:Nat),.bool x.y,.int .i64 x.n,.string ⟨x.t.toArray⟩,.pointer (Bq β x)] 225)):=Below.alloc A4.o z51a _;refine(HL.o _ (HKeep.o _ A8)).mono ?_;rintro e w2 ⟨rfl,Fo⟩;have Ej:w2.heap[w.heap.size]?=some (.cells #[.int .i64 0,.bool false,.int .i64 0,.string ⟨#[]⟩,.pointer none] 225 (0,0)):=by rw[Fo];exact alloc_old F8.o
 have Jb:w2.heap[w1.heap.size]?=some (.cells #[.int .i64 (x.k:Nat),.bool x.y,.int .i64 x.n,.string ⟨x.t.toArray⟩,.pointer (Bq β x)] 225 (0,0)):=by rw[Fo];exact heap_alloc_new _ _
 have hB2:Below w.heap.size w w2:=by rw[Fo];exact A8
 have Ci:=A0 Ej;have HT2:=A0 Jb;have Aa:=A0 hB2;have Fb:=A0 (HC.o _ (HKeep.o _ hB2));clear Fo A8 Ej Jb hB2;go_wp2_with fail
 refine Fb.o.mono ?_;rintro e w3 ⟨rfl,Ca,hf3⟩;have hlw2:=A5 HT2.o;have hrow:∀k,w.heap.size<=k->(Value.slice va vn vc).ownBlock≠some k:=fun k hk e=>by have:=HRl.o k e;omega
 have I4:=(hf3.block w.heap.size (A5 Ci.o) z51a (hrow _ (Nat.le_refl _))).trans Ci.o;have Iu:=(hf3.block w1.heap.size hlw2 z51a (hrow _ z51a)).trans HT2.o;have r0:=A2 I4 0 _ rfl;have q0:=A2 Iu 0 _ rfl;have r1:=A2 I4 1 _ rfl;have q1:=A2 Iu 1 _ rfl;have r2:=A2 I4 2 _ rfl;have q2:=A2 Iu 2 _ rfl;have r3:=A2 I4 3 _ rfl;have q3:=A2 Iu 3 _ rfl;have r4:=A2 I4 4 _ rfl;have q4:=A2 Iu 4 _ rfl;have fr:=Bh I4;have lr:=A5 I4;have lq:=A5 Iu;have Bg:=A0 Ca;have HF3:=A0 hf3;have HRow:=A0 hrow;clear Ca hf3 hrow I4 Iu hlw2;go_wp2;refine bodyPost_ret (v:=.agg #[.int .i64 (x.k:Nat),.bool x.y,.int .i64 x.n,.string ⟨x.t.toArray⟩,.pointer (Bq β x)]) (by simp[results,Tryz.results197,go_sem,r0,r1,r2,r3,r4]) rfl ⟨rfl,?_⟩;exact z3pa
theorem z4wa {P:Prop} (h:P:=by
  clear hi;go_enter Tryz.func196,Tryz.ntmps196;go_wp2;go_end0;exact⟨rfl,Bj⟩):P:=h
theorem Aph(h:Di 225 5 (Cb β) b o w cs t va vn vc xs)(i:Int)(hi:i<0\/(xs.length:Int)<=i)(u:PV):Calls Tryz.prog 196 #[.pointer (some ⟨b,o,none⟩),.int .i64 i,.agg #[.int .i64 (u.k:Nat),.bool u.y,.int .i64 u.n,.string ⟨u.t.toArray⟩,.pointer (Bq β u)]] w fun e w'=>e=.returned (.tuple #[])/\Below w.heap.size w w':=by
 have c:=Dq h.blk h.cell;have lb:=A5 h.blk;have hv:vn=xs.length:=(Cg h.own).1;subst hv;clear h;have Bj:Below w.heap.size w (w.alloc (.cells #[.int .i64 (u.k:Nat),.bool u.y,.int .i64 u.n,.string ⟨u.t.toArray⟩,.pointer (Bq β u)] 225)):=Below.alloc (Below.refl _ _) (Nat.le_refl _) _;by_cases h0:i<0
 ·have t0:decide (0<=i)=false:=decide_eq_false z51a;exact z4wa
 ·have h1:(xs.length:Int)<=i:=by omega
  exact z4wa
theorem Apg(h:Di 225 5 (Cb β) b o w cs t va vn vc xs)(i:Nat)(hi:i<xs.length)(u:PV):Calls Tryz.prog 196 #[.pointer (some ⟨b,o,none⟩),.int .i64 (i:Nat),.agg #[.int .i64 (u.k:Nat),.bool u.y,.int .i64 u.n,.string ⟨u.t.toArray⟩,.pointer (Bq β u)]] w fun e w'=>e=.returned (.tuple #[])/\Nh 225 5 (Cb β) b o w cs t va vn vc (xs.set i u) w':=by
 have c:=Dq h.blk h.cell;have lb:=A5 h.blk;have hv:vn=xs.length:=(Cg h.own).1;subst hv;have hput:=h.putRow (w:=w) (fun _=>rfl) i hi u (Below.refl _ _);obtain⟨hl,⟨h2,h3⟩|⟨g,cap,cur,hv,_,hg,hcap',hmx,hsz,ht⟩⟩:=h.own
 ·omega
 injection hv with e1 e2 e3;subst e1 e3;have HPut:=A0 (hput g rfl);have hgb:g≠b:=fun e=>h.ne z5xa;have fg:=Bh hg;have lg:=A5 hg;have y0:w.cell? ⟨g,i*5+0,none⟩=some (cur[i*5+0]):=by rw[cell_of_row w g (i*5+0) cur _ _ hg,Array.getElem?_eq_getElem z51a]
 generalize cur[i*5+0]=z0 at y0;have y1:w.cell? ⟨g,i*5+1,none⟩=some (cur[i*5+1]):=by rw[cell_of_row w g (i*5+1) cur _ _ hg,Array.getElem?_eq_getElem z51a]
 generalize cur[i*5+1]=z1 at y1;have y2:w.cell? ⟨g,i*5+2,none⟩=some (cur[i*5+2]):=by rw[cell_of_row w g (i*5+2) cur _ _ hg,Array.getElem?_eq_getElem z51a]
 generalize cur[i*5+2]=z2 at y2;have y3:w.cell? ⟨g,i*5+3,none⟩=some (cur[i*5+3]):=by rw[cell_of_row w g (i*5+3) cur _ _ hg,Array.getElem?_eq_getElem z51a]
 generalize cur[i*5+3]=z3 at y3;have y4:w.cell? ⟨g,i*5+4,none⟩=some (cur[i*5+4]):=by rw[cell_of_row w g (i*5+4) cur _ _ hg,Array.getElem?_eq_getElem z51a]
 generalize cur[i*5+4]=z4 at y4;rw[Nat.add_zero]at y0;clear h hput ht hsz hmx hg hl;go_enter Tryz.func196,Tryz.ntmps196;go_wp2;go_region
 all_goals go_wp2
 all_goals go_end0
 all_goals exact⟨rfl,Nh.drew (HPut.o.alloc lb (fun k hk=>by simp only[Value.ownBlock,Option.some.injEq]at hk;rw[<-hk];exact lg) _)⟩
end
section
set_option maxRecDepth 100000
open Go.RowKit
open Go.Deep (BT)
structure Eu where
 a:Option Addr
 n:Nat
 c:Nat
 pc:Nat
 base:Int
def Ns:Eu:=⟨none,0,0,0,0⟩
def I3(x:Eu):List Value:=[.slice x.a x.n x.c,.int .i64 (x.pc:Nat),.int .i64 x.base]
theorem Ady:(Tryz.prog.info? 165).map (fun i=>(i.zero,i.size,i.bytes))=some (some (.agg #[.slice none 0 0,.int .i64 0,.int .i64 0]),3,40):=by kernel_rfl
variable {b o:Nat}{w:World}{cs:Array Value}{t:TypeId}{va:Option Addr}{vn vc:Nat}{xs:List Eu}
theorem Wo(h:Di 165 3 I3 b o w cs t va vn vc xs):Calls Tryz.prog 202 #[.pointer (some ⟨b,o,none⟩)] w fun e w'=>e=.returned (.int .i64 (xs.length:Nat))/\w'=w:=by
 have c:=Dq h.blk h.cell;have lb:=A5 h.blk;have hv:vn=xs.length:=(Cg h.own).1;subst hv;clear h;go_enter Tryz.func202,Tryz.ntmps202;exact z0xa
theorem Ade(h:Di 165 3 I3 b o w cs t va vn vc xs)(i:Nat)(hi:i<xs.length)(hb:xs.length<=1000000):Calls Tryz.prog 280 #[.pointer (some ⟨b,o,none⟩),.int .i64 (i:Nat)] w fun e w'=>e=.returned (.agg #[.slice (xs[i]).a (xs[i]).n (xs[i]).c,.int .i64 ((xs[i]).pc:Nat),.int .i64 (xs[i]).base])/\Below w.heap.size w w':=by
 have c:=Dq h.blk h.cell;have lb:=A5 h.blk;have hv:vn=xs.length:=(Cg h.own).1;subst hv;obtain⟨g,rfl,hvn9,hcap,lg,hcell⟩:=G2 h.own z51a;clear hvn9;have d0:=hcell (i*3+0) _ ((D6 (sz:=3) (fun _=>rfl) xs i 0 hi z51a).trans rfl);have d1:=hcell (i*3+1) _ ((D6 (sz:=3) (fun _=>rfl) xs i 1 hi z51a).trans rfl);have d2:=hcell (i*3+2) _ ((D6 (sz:=3) (fun _=>rfl) xs i 2 hi z51a).trans rfl);rw[Nat.add_zero]at d0;clear h hcell;generalize xs[i]=x at *;go_enter Tryz.func280,Tryz.ntmps280;go_wp2;refine bodyPost_ret (v:=.agg #[.slice x.a x.n x.c,.int .i64 (x.pc:Nat),.int .i64 x.base]) (by simp[results,Tryz.results280,go_sem]) rfl ⟨rfl,?_⟩;exact z44a
theorem z2da {P:Prop} (h:P:=by
  clear hi;go_enter Tryz.func280,Tryz.ntmps280;go_wp2;refine bodyPost_ret (v:=.agg #[.slice none 0 0,.int .i64 0,.int .i64 0]) (by simp[results,Tryz.results280,go_sem]) rfl ⟨rfl,?_⟩;exact z03a):P:=h
theorem A0r(h:Di 165 3 I3 b o w cs t va vn vc xs)(i:Int)(hi:i<0\/(xs.length:Int)<=i):Calls Tryz.prog 280 #[.pointer (some ⟨b,o,none⟩),.int .i64 i] w fun e w'=>e=.returned (.agg #[.slice none 0 0,.int .i64 0,.int .i64 0])/\Below w.heap.size w w':=by
 have c:=Dq h.blk h.cell;have lb:=A5 h.blk;have hv:vn=xs.length:=(Cg h.own).1;subst hv;clear h;by_cases h0:i<0
 ·exact z2da
 ·have h1:(xs.length:Int)<=i:=by omega
  exact z2da
theorem Ad9(h:Di 165 3 I3 b o w cs t va vn vc xs)(i:Int)(hb:xs.length<=1000000)(x:Eu)(hx:x=if i<0 then Ns else(xs[i.toNat]?).getD Ns):Calls Tryz.prog 280 #[.pointer (some ⟨b,o,none⟩),.int .i64 i] w fun e w'=>e=.returned (.agg #[.slice x.a x.n x.c,.int .i64 (x.pc:Nat),.int .i64 x.base])/\Below w.heap.size w w':=by
 by_cases h0:i<0
 ·rw[if_pos h0]at hx;subst hx;exact A0r h i (.inl h0)
 ·rw[if_neg h0]at hx;by_cases h1:i.toNat<xs.length
  ·rw[List.getElem?_eq_getElem h1]at hx;have:=Ade h i.toNat h1 hb;exact z3ma
  ·rw[List.getElem?_eq_none z51a]at hx;subst hx;exact A0r h i (.inr z51a)
theorem Adg(h:Di 165 3 I3 b o w cs t va vn vc xs)(hn:xs.length<=900000)(u:Eu)(ho:o<cs.size):Calls Tryz.prog 203 #[.pointer (some ⟨b,o,none⟩),.agg #[.slice u.a u.n u.c,.int .i64 (u.pc:Nat),.int .i64 u.base]] w fun e w'=>e=.returned (.tuple #[])/\Vb 165 3 I3 b o w cs t va vn vc xs u w':=by
 have Gz:Di 165 3 I3 b o (w.alloc (.cells #[.slice u.a u.n u.c,.int .i64 (u.pc:Nat),.int .i64 u.base] 165)) cs t va vn vc xs:=h.keep (fun g hg=>Below.heap_alloc _ _ _ hg);have Bj:Below w.heap.size w (w.alloc (.cells #[.slice u.a u.n u.c,.int .i64 (u.pc:Nat),.int .i64 u.base] 165)):=Below.alloc (Below.refl _ _) (Nat.le_refl _) _;have Fc:=heap_alloc_new w (.cells #[.slice u.a u.n u.c,.int .i64 (u.pc:Nat),.int .i64 u.base] 165);have hlr:=Bs h.own;clear h;generalize hW:w.alloc (.cells #[.slice u.a u.n u.c,.int .i64 (u.pc:Nat),.int .i64 u.base] 165)=w0 at *;generalize hxb:w.heap.size=xb at *;have HW:=A0 hW;have HXb:=A0 hxb;have Ah:=A0 Bj;have hsz0:=Bj.size;clear hW Bj;have c:=Dq Gz.blk Gz.cell;have lb:=A5 Gz.blk;have hv:vn=xs.length:=(Cg Gz.own).1;subst hv;have x0:=A2 Fc 0 _ rfl;have x1:=A2 Fc 1 _ rfl;have x2:=A2 Fc 2 _ rfl;have lx:=A5 Fc;have hown:w0.drew.ownsRow 0 165 3 (.slice va xs.length vc) xs.length (C0 I3 xs):=B8 Gz.own (fun _ _ _=>rfl);have HH:=A0 Gz;have HNe:=A0 Gz.ne;have HLr:=A0 hlr;clear Gz Fc hxb hlr;go_enter Tryz.func203,Tryz.ntmps203;go_wp2;rw[HW.o,HXb.o];go_region_law (refine N6 _ w0.heap.size #[.slice u.a u.n u.c,.int .i64 (u.pc:Nat),.int .i64 u.base] 165 (heap_alloc_new w0.drew _) rfl (.tmp 8) (.tmp 10) 161 rfl 0 3 40 _ Tryz.underlying161 Ady rfl z51a (.slice va xs.length vc) xs.length (C0 I3 xs) rfl rfl (hown.alloc _) rfl (fun v hv=>by simp at hv;rcases hv with rfl|rfl|rfl <;> rfl) z51a z51a (Nat.zero_le _) ?_;intro g cap w1 F0 hgrow' hat' hg;have F5:=Lx (World.grownBy_alloc w0.drew _ none) hgrow';have hgrow:w0.grownBy w1 (Value.slice va xs.length vc).ownBlock:=⟨F5.os,F5.tape,F5.output,F5.size,F5.block⟩;clear F5;have hat:(Value.slice va xs.length vc).ownBlock=some g\/w0.heap.size<=g:=hat'.imp id (fun e=>by rw[e];simp);have A1:=(hgrow.block b lb (fun e=>HNe.o e.symm)).trans HH.o.blk;have c1:=Dq A1 HH.o.cell;have f1:=Bh A1;have Bp:=A5 A1;have A4:=A0 A1;have HOwn1:=A0 F0;have HGrow:=A0 hgrow;have HAt:=A0 hat;clear A1 F0 hgrow hat hgrow' hat')
 all_goals go_wp2
 all_goals go_end0
 all_goals
  have hgb:g≠b:=by
   rcases HAt.o with e|e
   ·intro e2;rw[e2]at e;exact HNe.o e
   ·omega
  refine⟨rfl,g,cap,⟨heap_set A4.o _,?_,?_,by simp only[Value.ownBlock,ne_eq,Option.some.injEq];exact hgb⟩,HAt.o.imp id (fun e=>by omega),⟨HGrow.o.os.trans Ah.o.os,HGrow.o.tape.trans Ah.o.tape,HGrow.o.output.trans Ah.o.output,by have:=HGrow.o.size;have:=HXb.o;simp[World.setCell];omega,fun k hk hkb hkr=>?_⟩⟩
  ·exact z1za
  ·rw[List.length_append,Qr,Sb];exact z3fa
  ·have hkx:=HXb.o;exact((Below.heap_setCell _ _ _ _ (by exact hkb)).trans (HGrow.o.block k z51a (fun e=>hkr e.symm))).trans (Ah.o.block k z51a)
theorem Ada(h:Di 165 3 I3 b o w cs t va vn vc xs)(m:Nat)(hm:m<=xs.length)(ho:o<cs.size):Calls Tryz.prog 249 #[.pointer (some ⟨b,o,none⟩),.int .i64 (m:Nat)] w fun e w'=>e=.returned (.tuple #[])/\Jp 165 3 I3 b o w cs t va vn vc xs m w':=by
 have c:=Dq h.blk h.cell;have lb:=A5 h.blk;have hv:vn=xs.length:=(Cg h.own).1;subst hv;have fz:=Bh h.blk;have HH:=A0 h;have HNe:=A0 h.ne;by_cases he:m=xs.length
 ·subst he;clear h;go_enter Tryz.func249,Tryz.ntmps249;go_wp2;refine bodyPost_ret (v:=.tuple #[]) (by simp[results,Tryz.results249,go_sem]) rfl ⟨rfl,?_,Ft.refl _ _ _⟩;exact z25a
 ·obtain⟨hl,⟨h2,h3⟩|⟨g,cap,cur,hv,_,hg,hcap',hmx,hsz,ht⟩⟩:=h.own
  ·omega
  ·injection hv with e1 e2 e3;subst e1 e3;have hgb:g≠b:=fun e=>h.ne z5xa;have fg:=Bh hg;have lg:=A5 hg;have hzs:(.agg #[.slice none 0 0,.int .i64 0,.int .i64 0]:Value).cells.size=3:=rfl;have hmul:m*3+(xs.length-m)*3=xs.length*3:=by omega
   have hcs:∀j,j<(xs.length-m)*(.agg #[.slice none 0 0,.int .i64 0,.int .i64 0]:Value).cells.size->(w.cell? ⟨g,m*3+j,none⟩).isSome=true:=by
    intro j hj;rw[hzs]at hj;rw[cell_of_row w g (m*3+j) cur _ _ hg,Array.getElem?_eq_getElem z51a];rfl
   have hcl:∀ty,(Builtin.clear_ #[161] ty #[.slice (some ⟨g,m*3,none⟩) (xs.length-m) (vc-m)]).run Tryz.prog w=.ok (.tuple #[]) (w.setCells g (m*3) (Builtin.zeroCells (.agg #[.slice none 0 0,.int .i64 0,.int .i64 0]:Value).cells (xs.length-m)).toList):=
    fun ty=>Xw w 161 165 ty (.agg #[.slice none 0 0,.int .i64 0,.int .i64 0]) Tryz.underlying161 Tryz.zeroValue165 (by rw[hzs];omega) (fun v hv=>by simp[Value.cells]at hv;rcases hv with rfl|rfl|rfl <;> rfl) g (m*3) (xs.length-m) (vc-m) z51a hcs (fun j hj=>fg _)
   obtain⟨cur',k1,k2,k3⟩:=P9 g 165 (0,0) (Builtin.zeroCells (.agg #[.slice none 0 0,.int .i64 0,.int .i64 0]:Value).cells (xs.length-m)).toList (m*3) cur w hg;obtain⟨f1,f2,f3,f4,f5⟩:=Kk g (Builtin.zeroCells (.agg #[.slice none 0 0,.int .i64 0,.int .i64 0]:Value).cells (xs.length-m)).toList (m*3) w;have A1:=(f5 b (fun e=>hgb e.symm)).trans h.blk;have Hz:=A0 k1;have HK3:=A0 (k3 (m*3) (Nat.le_refl _));have HF:=A0 (And.intro f1 (And.intro f2 (And.intro f3 (And.intro f4 f5))));have HT:=A0 ht;have HSz:=A0 (k2.trans hsz);have hlen9:=hcap';clear h hcs hg ht k1 k2 k3 f1 f2 f3 f5 hl hsz hzs hmul;have c1:=Dq A1 HH.o.cell;have g1:=Bh A1;have Bp:=A5 A1;have A4:=A0 A1;clear A1 f4;generalize w.setCells g (m*3) (Builtin.zeroCells (.agg #[.slice none 0 0,.int .i64 0,.int .i64 0]:Value).cells (xs.length-m)).toList=w1 at *;go_enter Tryz.func249,Tryz.ntmps249;go_wp2;go_end0;obtain⟨p1,p2,p3,p4,p5⟩:=HF.o;have hset:∀k,k≠b->(w1.setCell ⟨b,o,none⟩ (.slice (some ⟨g,0,none⟩) m vc)).heap[k]?=w1.heap[k]?:=fun k hk=>Below.heap_setCell _ _ _ _ z5za;refine⟨rfl,⟨heap_set A4.o _,?_,⟨?_,.inr ⟨g,vc,cur',?_,Nat.zero_le _,(hset g hgb).trans Hz.o,?_,hmx,HSz.o,?_⟩⟩,?_⟩,⟨p1,p2,p3,by simp[World.setCell];omega,fun k hk hkb hkr=>?_⟩⟩
   ·exact z1za
   ·exact Lh (f:=I3) (sz:=3) (fun _=>rfl) _
   ·exact z40a
   ·exact z3oa
   ·rw[List.length_take,Nat.min_eq_left hm,HK3.o,<-Xu (sz:=3) (fun _=>rfl),<-HT.o,List.take_take,Nat.min_eq_left z51a]
   ·exact z2pa
   ·exact z3sa
theorem Adh(h:Di 165 3 I3 b o w cs t va vn vc xs)(hb:xs.length<=1000000)(x:Eu)(hx:x=xs.getLastD Ns):Calls Tryz.prog 248 #[.pointer (some ⟨b,o,none⟩)] w fun e w'=>e=.returned (.agg #[.slice x.a x.n x.c,.int .i64 (x.pc:Nat),.int .i64 x.base])/\Below w.heap.size w w':=by
 have lb:=A5 h.blk;have HL:=A0 (Wo (h.keep (w':=w.alloc (.cells #[.slice none 0 0,.int .i64 0,.int .i64 0] 165)) (fun g hg=>Below.heap_alloc _ _ _ hg)));have HA:=A0 (Ad9 (h.keep (w':=w.alloc (.cells #[.slice none 0 0,.int .i64 0,.int .i64 0] 165)) (fun g hg=>Below.heap_alloc _ _ _ hg)) ((xs.length:Int)-1) hb x (by rw[hx];exact Qe _ xs));clear h hx;go_enter Tryz.func248,Tryz.ntmps248;go_wp2_with fail
 refine HL.o.mono ?_;rintro e w0 ⟨rfl,D5⟩;subst D5;go_wp2_with fail
 refine HA.o.mono ?_;rintro e w1 ⟨rfl,A1⟩;have hR:=Fu A1 (heap_alloc_new w (.cells #[.slice none 0 0,.int .i64 0,.int .i64 0] 165));have r0:=A2 hR 0 _ rfl;have r1:=A2 hR 1 _ rfl;have r2:=A2 hR 2 _ rfl;have fr:=Bh hR;have lr:=A5 hR;have A4:Hid (Below w.heap.size w w1):=(Below.alloc (Below.refl _ _) (Nat.le_refl _) _).trans (A1.mono z56a);clear A1 hR HL HA;go_wp2;refine bodyPost_ret (v:=.agg #[.slice x.a x.n x.c,.int .i64 (x.pc:Nat),.int .i64 x.base]) (by simp[results,Tryz.results248,go_sem,r0,r1,r2]) rfl ⟨rfl,?_⟩;exact z3la
theorem Adb(h:Di 165 3 I3 b o w cs t va vn vc xs)(i:Int)(hi:i<0):Calls Tryz.prog 249 #[.pointer (some ⟨b,o,none⟩),.int .i64 i] w fun e w'=>e=.returned (.tuple #[])/\w'=w:=by
 have c:=Dq h.blk h.cell;have lb:=A5 h.blk;have hv:vn=xs.length:=(Cg h.own).1;subst hv;clear h;go_enter Tryz.func249,Tryz.ntmps249;go_wp2;refine bodyPost_ret (v:=.tuple #[]) (by simp[results,Tryz.results249,go_sem]) rfl ⟨rfl,rfl⟩
theorem Adc(h:Di 165 3 I3 b o w cs t va vn vc xs)(ho:o<cs.size):Calls Tryz.prog 249 #[.pointer (some ⟨b,o,none⟩),.int .i64 ((xs.length:Int)-1)] w fun e w'=>e=.returned (.tuple #[])/\Jp 165 3 I3 b o w cs t va vn vc xs (xs.length-1) w':=by
 by_cases h0:xs.length=0
 ·refine(Adb h _ z51a).mono ?_;exact z1oa
 ·have:=Ada h (xs.length-1) z51a ho;exact z4sa
theorem Adf(h:Di 165 3 I3 b o w cs t va vn vc xs)(hb:xs.length<=1000000)(ho:o<cs.size)(x:Eu)(hx:x=xs.getLastD Ns):Calls Tryz.prog 206 #[.pointer (some ⟨b,o,none⟩)] w fun e w'=>e=.returned (.agg #[.slice x.a x.n x.c,.int .i64 (x.pc:Nat),.int .i64 x.base])/\Jp 165 3 I3 b o w cs t va vn vc xs (xs.length-1) w':=by
 have lb:=A5 h.blk;have HKeep:=A0 (fun(W:World) (hW:Below w.heap.size w W)=>h.keep (w':=W) hW.block);have HT:=A0 (fun(W:World) (hs:Di 165 3 I3 b o W cs t va vn vc xs)=>Adh hs hb x hx);have HL:=A0 (fun(W:World) (hs:Di 165 3 I3 b o W cs t va vn vc xs)=>Wo hs);have HC:=A0 (fun(W:World) (hs:Di 165 3 I3 b o W cs t va vn vc xs)=>Adc hs ho);have HRl:=A0 (Bs h.own);clear h hx;have Bj:Below w.heap.size w (w.alloc (.cells #[.slice none 0 0,.int .i64 0,.int .i64 0] 165)):=Below.alloc (Below.refl _ _) (Nat.le_refl _) _;have Ah:=A0 Bj;clear Bj;go_enter Tryz.func206,Tryz.ntmps206;go_wp2_with fail
 refine(HT.o _ (HKeep.o _ Ah.o)).mono ?_;rintro e w1 ⟨rfl,A1⟩;have hR1:=Fu A1 (heap_alloc_new w (.cells #[.slice none 0 0,.int .i64 0,.int .i64 0] 165));have A4:Hid (Below w.heap.size w w1):=Ah.o.trans (A1.mono z56a);have F8:=A0 hR1;have E5:=A5 hR1;clear A1 hR1;go_wp2_with fail
 have A8:Below w.heap.size w (w1.alloc (.cells #[.slice x.a x.n x.c,.int .i64 (x.pc:Nat),.int .i64 x.base] 165)):=Below.alloc A4.o z51a _;refine(HL.o _ (HKeep.o _ A8)).mono ?_;rintro e w2 ⟨rfl,Fo⟩;have Ej:w2.heap[w.heap.size]?=some (.cells #[.slice none 0 0,.int .i64 0,.int .i64 0] 165 (0,0)):=by rw[Fo];exact alloc_old F8.o
 have Jb:w2.heap[w1.heap.size]?=some (.cells #[.slice x.a x.n x.c,.int .i64 (x.pc:Nat),.int .i64 x.base] 165 (0,0)):=by rw[Fo];exact heap_alloc_new _ _
 have hB2:Below w.heap.size w w2:=by rw[Fo];exact A8
 have Ci:=A0 Ej;have HT2:=A0 Jb;have Aa:=A0 hB2;have Fb:=A0 (HC.o _ (HKeep.o _ hB2));clear Fo A8 Ej Jb hB2;go_wp2_with fail
 refine Fb.o.mono ?_;rintro e w3 ⟨rfl,Ca,hf3⟩;have hlw2:=A5 HT2.o;have hrow:∀k,w.heap.size<=k->(Value.slice va vn vc).ownBlock≠some k:=fun k hk e=>by have:=HRl.o k e;omega
 have I4:=(hf3.block w.heap.size (A5 Ci.o) z51a (hrow _ (Nat.le_refl _))).trans Ci.o;have Iu:=(hf3.block w1.heap.size hlw2 z51a (hrow _ z51a)).trans HT2.o;have r0:=A2 I4 0 _ rfl;have q0:=A2 Iu 0 _ rfl;have r1:=A2 I4 1 _ rfl;have q1:=A2 Iu 1 _ rfl;have r2:=A2 I4 2 _ rfl;have q2:=A2 Iu 2 _ rfl;have fr:=Bh I4;have lr:=A5 I4;have lq:=A5 Iu;have Bg:=A0 Ca;have HF3:=A0 hf3;have HRow:=A0 hrow;clear Ca hf3 hrow I4 Iu hlw2;go_wp2;refine bodyPost_ret (v:=.agg #[.slice x.a x.n x.c,.int .i64 (x.pc:Nat),.int .i64 x.base]) (by simp[results,Tryz.results206,go_sem,r0,r1,r2]) rfl ⟨rfl,?_⟩;exact z3pa
end
section
open Go.RowKit
open Go.Deep (BT)
structure Ji (D : Nat -> Prop) (w : World) (x : Eu) (f : Fr) : Prop where
 row:Cz D w 251 8 (.slice x.a x.n x.c) f.steps.length (El f.steps)
 pc:x.pc=f.pc
 base:x.base=f.base
def Kc(D:Nat->Prop)(w:World):List Eu->List Fr->Prop
 | [],[]=>True
 | x::xs,f::fs=>Ji D w x f/\Kc D w xs fs
 | [],_::_=>False
 | _::_,[]=>False
theorem Ji.keep{D D':Nat->Prop}{w w':World}{x:Eu}{f:Fr}(h:Ji D w x f)(hk:∀g,D g->g<w.heap.size->w'.heap[g]?=w.heap[g]?/\D' g):Ji D' w' x f:=⟨h.row.keep hk,h.pc,h.base⟩
theorem Kc.keep{D D':Nat->Prop}{w w':World}(hk:∀g,D g->g<w.heap.size->w'.heap[g]?=w.heap[g]?/\D' g):∀{xs:List Eu} {fs:List Fr},Kc D w xs fs->Kc D' w' xs fs:=by
 intro xs;induction xs with
 | nil=>intro fs h;cases fs with
  | nil=>trivial
  | cons=>exact h.elim
 | cons x xs ih=>intro fs h;cases fs with
  | nil=>exact h.elim
  | cons f fs=>exact⟨h.1.keep hk,ih h.2⟩
theorem Kc.len{D:Nat->Prop}{w:World}:∀{xs:List Eu} {fs:List Fr},Kc D w xs fs->xs.length=fs.length:=by
 intro xs;induction xs with
 | nil=>intro fs h;cases fs with
  | nil=>rfl
  | cons=>exact h.elim
 | cons x xs ih=>intro fs h;cases fs with
  | nil=>exact h.elim
  | cons f fs=>simp only[List.length_cons];rw[ih h.2]
theorem Kc.app{D:Nat->Prop}{w:World}{x:Eu}{f:Fr}(hx:Ji D w x f):∀{xs:List Eu} {fs:List Fr},Kc D w xs fs->Kc D w (xs++[x]) (fs++[f]):=by
 intro xs;induction xs with
 | nil=>intro fs h;cases fs with
  | nil=>exact⟨hx,trivial⟩
  | cons=>exact h.elim
 | cons y xs ih=>intro fs h;cases fs with
  | nil=>exact h.elim
  | cons g fs=>exact⟨h.1,ih h.2⟩
abbrev AB:=Option Addr×Nat×Nat
def La(b:AB):Value:=.slice b.1 b.2.1 b.2.2
structure Su (β : Nat -> Nat) (ρ : Nat -> Nat) (w : World) (ab : List AB) (arr : List (List PV)) : Prop where
 len:ab.length=arr.length
 at':∀i (h:i<ab.length) (h':i<arr.length),w.heap[β i]?=some (.cells #[La ab[i]] 356 (0,0))/\w.ownsRow 0 225 5 (La ab[i]) arr[i].length (C0 (Cb β) arr[i])/\ρ (β i)=7+2*i/\(∀g,(La ab[i]).ownBlock=some g->ρ g=8+2*i)
def Cc(n:Nat)(v:PV):Prop:=match v.r with
 | none=>v.k≠4
 | some i=>v.k=4/\i<n
def En(k:Kn):List Value:=[.bool k.kind,.bool k.whole,.int .i64 (k.like.k:Nat),.bool k.like.y,.int .i64 k.like.n,.string ⟨k.like.t.toArray⟩,.pointer none]
def Lt(D:Nat->Prop)(w:World)(p:Option Addr)(f:Option Form):Prop:=match f with
 | none=>p=none
 | some fo=>∃fb sa sn sc ka kn kc,p=some ⟨fb,0,none⟩/\D fb/\w.heap[fb]?=some (.cells #[.int .i64 (fo.slots:Nat),.slice sa sn sc,.slice ka kn kc] 381 (0,0))/\Cz D w 251 8 (.slice sa sn sc) fo.steps.length (El fo.steps)/\Cz D w 407 7 (.slice ka kn kc) fo.bet.length (C0 En fo.bet)
theorem Lt.keep{D D':Nat->Prop}{w w':World}{p:Option Addr}{f:Option Form}(h:Lt D w p f)(hk:∀g,D g->g<w.heap.size->w'.heap[g]?=w.heap[g]?/\D' g):Lt D' w' p f:=by
 unfold Lt at h ⊢;cases f with
 | none=>exact h
 | some fo=>
  obtain⟨fb,sa,sn,sc,ka,kn,kc,e1,e2,e3,e4,e5⟩:=h;exact⟨fb,sa,sn,sc,ka,kn,kc,e1,(hk fb e2 (A5 e3)).2,(hk fb e2 (A5 e3)).1.trans e3,e4.keep hk,e5.keep hk⟩
def Im(q:Option Addr×Ey):List Value:=[.int .i64 (q.2.calls:Nat),.pointer q.1,.int .i64 (q.2.fast:Nat),.int .i64 (q.2.drops:Nat)]
def Si(l:List UInt8):List Value:=[.string ⟨l.toArray⟩]
structure MC where
 mb:Nat
 pb:Nat
 P:Dl
 ba:Option Addr
 bn:Nat
 bc:Nat
structure O4 where
 la:Option Addr
 ln:Nat
 lc:Nat
 ga:Option Addr
 gn:Nat
 gc:Nat
 va:Option Addr
 vn:Nat
 vc:Nat
 ca:Option Addr
 cn:Nat
 cc:Nat
 oa:Option Addr
 on:Nat
 oc:Nat
def MC.cells(C:MC)(s:O4)(x:Eu)(fuel cells code line:Nat):Array Value:=#[.pointer (some ⟨C.pb,0,none⟩),.slice C.ba C.bn C.bc,.slice s.la s.ln s.lc,.slice s.ga s.gn s.gc,.slice s.va s.vn s.vc,.slice s.ca s.cn s.cc,.slice x.a x.n x.c,.int .i64 (x.pc:Nat),.int .i64 x.base,.int .i64 (fuel:Nat),.int .i64 (cells:Nat),.slice s.oa s.on s.oc,.int .i64 (code:Nat),.int .i64 (line:Nat)]
def dx(D X:Nat->Prop):Nat->Prop:=fun g=>D g\/X g
structure MC.Mv (C : MC) (D X : Nat -> Prop) (w : World) (m : MS) (ρ β : Nat -> Nat) (s : O4) (x : Eu) (fv : List Eu) (ab : List AB) (lp : List (Option Addr × Ey)) : Prop where
 cell:w.heap[C.mb]?=some (.cells (C.cells s x m.fuel m.cells m.code m.line) 167 (0,0))
 prog:Jw D w C.pb C.P
 lots:w.ownsRow 0 172 4 (.slice s.la s.ln s.lc) lp.length (C0 Im lp)
 loto:∀g,(Value.slice s.la s.ln s.lc).ownBlock=some g->ρ g=2
 lotm:m.lots=lp.map Prod.snd
 forms:∀q∈lp,Lt D w q.1 q.2.form
 gl:w.ownsRow 0 225 5 (.slice s.ga s.gn s.gc) m.gl.length (C0 (Cb β) m.gl)
 glo:∀g,(Value.slice s.ga s.gn s.gc).ownBlock=some g->ρ g=3
 vals:w.ownsRow 0 225 5 (.slice s.va s.vn s.vc) m.vals.length (C0 (Cb β) m.vals)
 valo:∀g,(Value.slice s.va s.vn s.vc).ownBlock=some g->ρ g=4
 calls:w.ownsRow 0 165 3 (.slice s.ca s.cn s.cc) fv.length (C0 I3 fv)
 callo:∀g,(Value.slice s.ca s.cn s.cc).ownBlock=some g->ρ g=5
 frs:Kc D w fv m.calls
 now:Ji D w x m.now
 out:w.ownsRow 0 9 1 (.slice s.oa s.on s.oc) m.out.length (C0 Si m.out)
 outo:∀g,(Value.slice s.oa s.on s.oc).ownBlock=some g->ρ g=6
 arr:Su β ρ w ab m.arr
 prot:∀g,dx D X g->g<w.heap.size/\ρ g=0
 one:ρ C.mb=1/\∀g,ρ g=1->g=C.mb
 Bw:m.vals.length<=100000/\m.calls.length<=100/\m.out.length<=100
 vv:(∀v∈m.vals,Cc m.arr.length v)/\(∀v∈m.gl,Cc m.arr.length v)/\(∀l∈m.arr,∀v∈l,Cc m.arr.length v)
def MC.Ms(C:MC)(D X:Nat->Prop)(β:Nat->Nat)(w:World)(m:MS):Prop:=∃ρ s x fv ab lp,C.Mv D X w m ρ β s x fv ab lp
theorem Su.keep{β ρ ρ':Nat->Nat}{w w':World}{ab:List AB}{arr:List (List PV)}(h:Su β ρ w ab arr)(hk:∀g,g<w.heap.size->7<=ρ g->w'.heap[g]?=w.heap[g]?/\ρ' g=ρ g):Su β ρ' w' ab arr:=by
 refine⟨h.len,fun i h1 h2=>?_⟩;obtain⟨k1,k2,k3,k4⟩:=h.at' i h1 h2;have q:=hk (β i) (A5 k1) z51a;refine⟨q.1.trans k1,B8 k2 (fun g hg hl=>(hk g hl (by rw[k4 g hg];omega)).1),q.2.trans k3,fun g hg=>?_⟩;exact(hk g (Bs k2 g hg) (by rw[k4 g hg];omega)).2.trans (k4 g hg)
variable {C:MC} {D X:Nat->Prop} {w w':World} {m:MS} {ρ β:Nat->Nat} {s:O4} {x:Eu} {fv:List Eu} {ab:List AB} {lp:List (Option Addr×Ey)}
theorem MC.Mv.M4(h:C.Mv D X w m ρ β s x fv ab lp):Di 225 5 (Cb β) C.mb 4 w (C.cells s x m.fuel m.cells m.code m.line) 167 s.va s.vn s.vc m.vals:=
 ⟨h.cell,rfl,h.vals,fun e=>by have:=h.valo _ e;rw[h.one.1]at this;omega⟩
theorem MC.Mv.Me(h:C.Mv D X w m ρ β s x fv ab lp):Di 165 3 I3 C.mb 5 w (C.cells s x m.fuel m.cells m.code m.line) 167 s.ca s.cn s.cc fv:=
 ⟨h.cell,rfl,h.calls,fun e=>by have:=h.callo _ e;rw[h.one.1]at this;omega⟩
theorem MC.Mv.lo(h:C.Mv D X w m ρ β s x fv ab lp):C.mb<w.heap.size/\¬dx D X C.mb:=⟨A5 h.cell,fun hd=>by have:=(h.prot _ hd).2;rw[h.one.1]at this;cases this⟩
theorem MC.Mv.F9(h:C.Mv D X w m ρ β s x fv ab lp){c:Nat}(hc:Ga c ρ w w')(h0:c≠0):A3 (dx D X) w w':=hc.Bv h.prot h0
theorem z5ba {P:Prop} (h:P:=by rw[h.callo g hg];omega):P:=h
theorem z5da {P:Prop} (h:P:=by rw[h.outo g hg];omega):P:=h
theorem z5ea {P:Prop} (h:P:=by rw[h.loto g hg];omega):P:=h
theorem z5ga {P:Prop} (h:P:=by rw[h.glo g hg];omega):P:=h
theorem MC.Mv.Sg(h:C.Mv D X w m ρ β s x fv ab lp)(hc:Ga 4 ρ w w'){va:Option Addr}{vn vc:Nat}{vs:List PV}{x':Eu}{now:Fr}{fuel cells code line:Nat}
  (hcell:w'.heap[C.mb]?=some (.cells (C.cells { s with va:=va,vn:=vn,vc:=vc } x' fuel cells code line) 167 (0,0)))
  (hv:w'.ownsRow 0 225 5 (.slice va vn vc) vs.length (C0 (Cb β) vs)) (hvo:∀g,(Value.slice va vn vc).ownBlock=some g->(Value.slice s.va s.vn s.vc).ownBlock=some g\/w.heap.size<=g) (hx:Ji D w x' now)
  (hn:vs.length<=100000) (hvv:∀v∈vs,Cc m.arr.length v):C.Mv D X w' { m with vals:=vs,now:=now,fuel:=fuel,cells:=cells,code:=code,line:=line } (F3 ρ w.heap.size 4) β { s with va:=va,vn:=vn,vc:=vc } x' fv ab lp:=by
 have hbd:=h.F9 hc z51a;have hk:∀g,D g->g<w.heap.size->w'.heap[g]?=w.heap[g]?/\D g:=fun g hg _=>⟨hbd.block g (.inl hg),hg⟩;refine⟨hcell,h.prog.keep hk,B8 h.lots (fun g hg hl=>hc.block g hl z5ea z5ea),fun g hg=>by rw[Br (Bs h.lots g hg)];exact h.loto g hg,h.lotm,fun q hq=>(h.forms q hq).keep hk,
  B8 h.gl (fun g hg hl=>hc.block g hl z5ga z5ga),fun g hg=>by rw[Br (Bs h.gl g hg)];exact h.glo g hg,hv,fun g hg=>?_,
  B8 h.calls (fun g hg hl=>hc.block g hl z5ba z5ba),fun g hg=>by rw[Br (Bs h.calls g hg)];exact h.callo g hg,h.frs.keep hk,hx.keep hk,
  B8 h.out (fun g hg hl=>hc.block g hl z5da z5da),fun g hg=>by rw[Br (Bs h.out g hg)];exact h.outo g hg,h.arr.keep (fun g hl h7=>⟨hc.block g hl z51a z51a,Br hl⟩),
  fun g hg=>⟨Nat.lt_of_lt_of_le (h.prot g hg).1 hc.size,by rw[Br (h.prot g hg).1];exact(h.prot g hg).2⟩,⟨by rw[Br h.lo.1];exact h.one.1,fun g hg=>?_⟩,⟨hn,h.Bw.2⟩,⟨hvv,h.vv.2⟩⟩
 ·rcases hvo g hg with e|e
  ·rw[Br (Bs h.vals g e)];exact h.valo g e
  ·exact Hi e
 ·exact z17a
theorem Rc{c:Nat}{mb:Nat}{row:Option Nat}(h:Ft mb row w w')(hone:ρ mb=1)(hr:∀g,row=some g->ρ g=c):Ga c ρ w w':=
 ⟨h.os,h.tape,h.output,h.size,fun k hk h1 h2=>h.block k hk (fun e=>h1 (by rw[e];exact hone)) (fun e=>h2 (hr k e))⟩
theorem Zo{c:Nat}(h:Below w.heap.size w w'):Ga c ρ w w':=⟨h.os,h.tape,h.output,h.size,fun k hk _ _=>h.block k hk⟩
theorem MC.Ms.below(h:C.Ms D X β w m)(hb:Below w.heap.size w w'):C.Ms D X β w' m/\A3 (dx D X) w w':=by
 obtain⟨ρ,s,x,fv,ab,lp,h⟩:=h;exact⟨⟨_,_,_,_,_,_,h.Sg (Zo hb) ((hb.block _ h.lo.1).trans h.cell) (Qk h.vals hb) (fun g hg=>.inl hg) h.now h.Bw.1 h.vv.1⟩,h.F9 (c:=4) (Zo hb) z51a⟩
theorem MC.Ms.more(h:C.Ms D X β w m)(hb:Below w.heap.size w w'):C.Ms D (fun g=>X g\/(w.heap.size<=g/\g<w'.heap.size)) β w' m:=by
 obtain⟨ρ,s,x,fv,ab,lp,h⟩:=h;have hk:∀g,D g->g<w.heap.size->w'.heap[g]?=w.heap[g]?/\D g:=fun g hg hl=>⟨hb.block g hl,hg⟩;refine⟨F3 ρ w.heap.size 0,s,x,fv,ab,lp,(hb.block _ h.lo.1).trans h.cell,h.prog.keep hk,Qk h.lots hb,fun g hg=>by rw[Br (Bs h.lots g hg)];exact h.loto g hg,h.lotm,fun q hq=>(h.forms q hq).keep hk,Qk h.gl hb,fun g hg=>by rw[Br (Bs h.gl g hg)];exact h.glo g hg,Qk h.vals hb,fun g hg=>by rw[Br (Bs h.vals g hg)];exact h.valo g hg,Qk h.calls hb,fun g hg=>by rw[Br (Bs h.calls g hg)];exact h.callo g hg,h.frs.keep hk,h.now.keep hk,Qk h.out hb,fun g hg=>by rw[Br (Bs h.out g hg)];exact h.outo g hg,h.arr.keep (fun g hl _=>⟨hb.block g hl,Br hl⟩),?_,⟨by rw[Br h.lo.1];exact h.one.1,fun g hg=>?_⟩,h.Bw,h.vv⟩
 ·intro g hg;rcases hg with hg|hg|hg
  ·have:=h.prot g (.inl hg);exact z30a
  ·have:=h.prot g (.inr hg);exact z30a
  ·exact⟨hg.2,Hi hg.1⟩
 ·exact z17a
theorem z5ca {P:Prop} (h:P:=by rw[h.valo g hg];omega):P:=h
theorem MC.Ms.less(h:C.Ms D X β w m){X':Nat->Prop}(hX:∀g,X' g->X g)(hk:∀g,g<w.heap.size->(X g->D g)->w'.heap[g]?=w.heap[g]?)(hs:w'.heap.size=w.heap.size):C.Ms D X' β w' m:=by
 obtain⟨ρ,s,x,fv,ab,lp,h⟩:=h;have hz:∀g,g<w.heap.size->ρ g≠0->w'.heap[g]?=w.heap[g]?:=fun g hg h0=>hk g hg (fun hx=>absurd (h.prot g (.inr hx)).2 h0);have hkD:∀g,D g->g<w.heap.size->w'.heap[g]?=w.heap[g]?/\D g:=fun g hg hl=>⟨hk g hl (fun _=>hg),hg⟩;exact⟨ρ,s,x,fv,ab,lp,(hz _ h.lo.1 z5pa).trans h.cell,h.prog.keep hkD,B8 h.lots (fun g hg hl=>hz g hl z5ea),h.loto,h.lotm,fun q hq=>(h.forms q hq).keep hkD,B8 h.gl (fun g hg hl=>hz g hl z5ga),h.glo,B8 h.vals (fun g hg hl=>hz g hl z5ca),h.valo,B8 h.calls (fun g hg hl=>hz g hl z5ba),h.callo,h.frs.keep hkD,h.now.keep hkD,B8 h.out (fun g hg hl=>hz g hl z5da),h.outo,h.arr.keep (fun g hl h7=>⟨hz g hl z51a,rfl⟩),fun g hg=>by rw[hs];exact h.prot g (hg.imp id (hX g)),h.one,h.Bw,h.vv⟩
end
section
open Go.RowKit
open Go.Deep (BT)
variable {C:MC} {D X:Nat->Prop} {w w':World} {m:MS} {β:Nat->Nat}
def B0(β:Nat->Nat)(v:PV):Value:=.agg #[.int .i64 (v.k:Nat),.bool v.y,.int .i64 v.n,.string ⟨v.t.toArray⟩,.pointer (Bq β v)]
def MP(C:MC)(D X:Nat->Prop)(β:Nat->Nat)(w:World)(m:MS)(r:Value)(e:Ending)(w':World):Prop:=e=.returned r/\C.Ms D X β w' m/\A3 (dx D X) w w'
theorem MC.Ms.len(h:C.Ms D X β w m):Calls Tryz.prog 98 #[.pointer (some ⟨C.mb,4,none⟩)] w fun e w'=>e=.returned (.int .i64 (m.vals.length:Nat))/\w'=w:=by
 obtain⟨ρ,s,x,fv,ab,lp,h⟩:=h;exact Yo h.M4
theorem MC.Ms.Bw(h:C.Ms D X β w m):m.vals.length<=100000/\m.calls.length<=100/\m.out.length<=100:=by
 obtain⟨ρ,s,x,fv,ab,lp,h⟩:=h;exact h.Bw
theorem MC.Ms.Aw(h:C.Ms D X β w m):C.mb<w.heap.size:=by
 obtain⟨ρ,s,x,fv,ab,lp,h⟩:=h;exact h.lo.1
theorem z2va {P:Prop} (h:P:=by
  rintro e w1 ⟨rfl,hb⟩;exact⟨rfl,MC.Ms.below ⟨ρ,s,x,fv,ab,lp,h'⟩ hb⟩):P:=h
theorem MC.Ms.at'(h:C.Ms D X β w m)(i:Int):Calls Tryz.prog 195 #[.pointer (some ⟨C.mb,4,none⟩),.int .i64 i] w (MP C D X β w m (B0 β (m.at' i))):=by
 obtain⟨ρ,s,x,fv,ab,lp,h'⟩:=h;refine(Yn h'.M4 i (by have:=h'.Bw.1;omega) (m.at' i) rfl).mono ?_;exact z2va
theorem MC.Ms.top(h:C.Ms D X β w m):Calls Tryz.prog 200 #[.pointer (some ⟨C.mb,4,none⟩)] w (MP C D X β w m (B0 β m.top)):=by
 obtain⟨ρ,s,x,fv,ab,lp,h'⟩:=h;refine(A4p h'.M4 (by have:=h'.Bw.1;omega) m.top rfl).mono ?_;exact z2va
theorem z3ga {P:Prop} (h:P:=by
  simp only[Value.ownBlock,Option.some.injEq]at hk;rw[<-hk];exact hat):P:=h
theorem z65a {P:Prop} (h:P:=by simp[MC.cells]):P:=h
theorem MC.Ms.push(h:C.Ms D X β w m)(v:PV)(hv:Cc m.arr.length v)(hn:m.vals.length+1<=100000):Calls Tryz.prog 99 #[.pointer (some ⟨C.mb,4,none⟩),B0 β v] w (MP C D X β w (m.push v) (.tuple #[])):=by
 obtain⟨ρ,s,x,fv,ab,lp,h⟩:=h;refine(Apf h.M4 z51a v z65a).mono ?_;rintro e w1 ⟨rfl,g,cap,hs,hat,hf⟩;have hc:Ga 4 ρ w w1:=Rc hf h.one.1 h.valo;refine⟨rfl,⟨_,{ s with va:=some ⟨g,0,none⟩,vn:=m.vals.length+1,vc:=cap },x,fv,ab,lp,h.Sg hc ?_ hs.own ?_ h.now z54a ?_⟩,h.F9 hc z51a⟩
 ·rw[hs.blk];simp[MC.cells]
 ·intro k hk;exact z3ga
 ·intro u hu;simp only[List.mem_append,List.mem_singleton]at hu;rcases hu with hu|hu
  ·exact h.vv.1 u hu
  ·rw[hu];exact hv
theorem MC.Mv.W0{ρ:Nat->Nat}{s:O4}{x:Eu}{fv:List Eu}{ab:List AB}{lp:List (Option Addr×Ey)}(h:C.Mv D X w m ρ β s x fv ab lp){k:Nat}(hp:Jp 225 5 (Cb β) C.mb 4 w (C.cells s x m.fuel m.cells m.code m.line) 167 s.va s.vn s.vc m.vals k w'):C.Ms D X β w' { m with vals:=m.vals.take k }/\A3 (dx D X) w w':=by
 obtain⟨hs,hf⟩:=hp;have hc:Ga 4 ρ w w':=Rc hf h.one.1 h.valo;refine⟨⟨_,{ s with va:=s.va,vn:=k,vc:=s.vc },x,fv,ab,lp,h.Sg hc ?_ hs.own (fun g hg=>.inl ((Mb _ _ _ _).trans hg)) h.now (by have:=h.Bw.1;simp;omega) (fun u hu=>h.vv.1 u (List.mem_of_mem_take hu))⟩,h.F9 hc z51a⟩;rw[hs.blk];simp[MC.cells]
theorem Yd{α:Type}(l:List α):l.take (l.length-1)=l.dropLast:=by rw[List.dropLast_eq_take]
theorem z5ua {P:Prop} (h:P:=by have:=h.Bw.1;omega):P:=h
theorem MC.Ms.pop(h:C.Ms D X β w m):Calls Tryz.prog 197 #[.pointer (some ⟨C.mb,4,none⟩)] w (MP C D X β w m.pop (B0 β m.top)):=by
 obtain⟨ρ,s,x,fv,ab,lp,h⟩:=h;refine(A4o h.M4 z5ua z65a m.top rfl).mono ?_;rintro e w1 ⟨rfl,hp⟩;have:=h.W0 hp;rw[Yd]at this;exact⟨rfl,this⟩
theorem MC.Ms.cut(h:C.Ms D X β w m)(n:Int):Calls Tryz.prog 205 #[.pointer (some ⟨C.mb,4,none⟩),.int .i64 n] w (MP C D X β w (m.cut n) (.tuple #[])):=by
 obtain⟨ρ,s,x,fv,ab,lp,h⟩:=h;by_cases h0:n<0
 ·refine(A4m h.M4 n h0).mono ?_;rintro e w1 ⟨rfl,rfl⟩;refine⟨rfl,?_,A3.refl _ _⟩;have:m.cut n=m:=by unfold MS.cut;rw[if_pos h0]
  rw[this];exact⟨ρ,s,x,fv,ab,lp,h⟩
 ·have he:m.cut n={ m with vals:=m.vals.take n.toNat }:=by unfold MS.cut;rw[if_neg h0]
  rw[he];by_cases h1:n.toNat<=m.vals.length
  ·have:=A4l h.M4 n.toNat h1 z65a;rw[show((n.toNat:Nat):Int)=n by omega]at this;refine this.mono ?_;rintro e w1 ⟨rfl,hp⟩;exact⟨rfl,h.W0 hp⟩
  ·refine(Apc h.M4 n z51a).mono ?_;rintro e w1 ⟨rfl,rfl⟩;refine⟨rfl,?_,A3.refl _ _⟩;rw[List.take_of_length_le z51a];exact⟨ρ,s,x,fv,ab,lp,h⟩
theorem Afw{α:Type}{l:List α}{i:Nat}{u v:α}(h:v∈l.set i u):v∈l\/v=u:=List.mem_or_eq_of_mem_set h
theorem MC.Ms.put(h:C.Ms D X β w m)(i:Int)(v:PV)(hv:Cc m.arr.length v):Calls Tryz.prog 196 #[.pointer (some ⟨C.mb,4,none⟩),.int .i64 i,B0 β v] w (MP C D X β w (m.put i v) (.tuple #[])):=by
 obtain⟨ρ,s,x,fv,ab,lp,h'⟩:=h;by_cases h0:0<=i/\i.toNat<m.vals.length
 ·have:=Apg h'.M4 i.toNat h0.2 v;rw[show((i.toNat:Nat):Int)=i by omega]at this;refine this.mono ?_;rintro e w1 ⟨rfl,hs,hf⟩;have hc:Ga 4 ρ w w1:=Rc hf h'.one.1 h'.valo;have he:m.put i v={ m with vals:=m.vals.set i.toNat v }:=by unfold MS.put;rw[if_neg z51a]
  rw[he];refine⟨rfl,⟨_,s,x,fv,ab,lp,h'.Sg hc ?_ hs.own (fun g hg=>.inl hg) h'.now (by have:=h'.Bw.1;simp;omega) (fun u hu=>(Afw hu).elim (h'.vv.1 u) (fun e=>by rw[e];exact hv))⟩,h'.F9 hc z51a⟩;exact hs.blk
 ·have he:m.put i v=m:=by
   unfold MS.put;by_cases h1:i<0
   ·rw[if_pos h1]
   ·rw[if_neg h1,List.set_eq_of_length_le z51a]
  rw[he];refine(Aph h'.M4 i z51a v).mono ?_;exact z2va
end
section
set_option maxRecDepth 100000
open Go.RowKit
open Go.Deep (BT)
variable {C:MC} {D X:Nat->Prop} {w w':World} {m:MS} {ρ β:Nat->Nat} {s:O4} {x:Eu} {fv:List Eu} {ab:List AB} {lp:List (Option Addr×Ey)}
def Ac(i:Af):Value:=.agg #[.int .i64 (i.op:Nat),.int .i64 i.arg,.int .i64 (i.line:Nat),.int .i64 (i.v.k:Nat),.bool i.v.y,.int .i64 i.v.n,.string ⟨i.v.t.toArray⟩,.pointer none]
theorem MC.Mv.plain(h:C.Mv D X w m ρ β s x fv ab lp){x':Eu}{now:Fr}{fuel cells code line:Nat}(hx:Ji D w x' now)(hcell:w'.heap[C.mb]?=some (.cells (C.cells s x' fuel cells code line) 167 (0,0)))(hk:∀g,g<w.heap.size->g≠C.mb->w'.heap[g]?=w.heap[g]?)(hs:w.heap.size<=w'.heap.size)(ho:w'.os=w.os)(ht:w'.tape=w.tape)(hu:w'.output=w.output) :
  C.Ms D X β w' { m with now:=now,fuel:=fuel,cells:=cells,code:=code,line:=line }/\A3 (dx D X) w w':=by
 have hc:Ga 4 ρ w w':=⟨ho,ht,hu,hs,fun k hk' h1 _=>hk k hk' (fun e=>h1 (by rw[e];exact h.one.1))⟩;exact⟨⟨_,s,x',fv,ab,lp,h.Sg hc hcell (B8 h.vals (fun g hg hl=>hk g hl (fun e=>by have:=h.valo g hg;rw[e,h.one.1]at this;omega))) (fun g hg=>.inl hg) hx h.Bw.1 h.vv.1⟩,h.F9 hc z51a⟩
theorem Q2{w:World}{b:Nat}{a0 a1 a2 a3 a4 a5 a6 a7 a8 a9 a10 a11 a12 a13:Value}{t:TypeId}(h:w.heap[b]?=some (.cells #[a0,a1,a2,a3,a4,a5,a6,a7,a8,a9,a10,a11,a12,a13] t (0,0))) :
  w.cell? ⟨b,0,none⟩=some a0/\w.cell? ⟨b,1,none⟩=some a1/\w.cell? ⟨b,2,none⟩=some a2/\w.cell? ⟨b,3,none⟩=some a3/\w.cell? ⟨b,4,none⟩=some a4/\w.cell? ⟨b,5,none⟩=some a5/\w.cell? ⟨b,6,none⟩=some a6/\w.cell? ⟨b,7,none⟩=some a7/\w.cell? ⟨b,8,none⟩=some a8/\w.cell? ⟨b,9,none⟩=some a9/\w.cell? ⟨b,10,none⟩=some a10/\w.cell? ⟨b,11,none⟩=some a11/\w.cell? ⟨b,12,none⟩=some a12/\w.cell? ⟨b,13,none⟩=some a13/\(∀o,w.frozen? ⟨b,o,none⟩=false)/\b<w.heap.size:=
 ⟨A2 h 0 _ rfl,A2 h 1 _ rfl,A2 h 2 _ rfl,A2 h 3 _ rfl,A2 h 4 _ rfl,A2 h 5 _ rfl,A2 h 6 _ rfl,A2 h 7 _ rfl,A2 h 8 _ rfl,A2 h 9 _ rfl,A2 h 10 _ rfl,A2 h 11 _ rfl,A2 h 12 _ rfl,A2 h 13 _ rfl,Bh h,A5 h⟩
theorem Gw(h:C.Ms D X β w m)(code:Nat)(i:Af):Calls Tryz.prog 199 #[.pointer (some ⟨C.mb,0,none⟩),.int .i64 (code:Nat),Ac i] w (MP C D X β w (m.fail code i) (.tuple #[])):=by
 obtain⟨ρ,s,x,fv,ab,lp,h⟩:=h;obtain⟨c0,c1,c2,c3,c4,c5,c6,c7,c8,c9,c10,c11,c12,c13,fz,lb⟩:=Q2 (show w.heap[C.mb]?=some (.cells #[_,_,_,_,_,_,_,_,_,_,_,_,_,_] _ (0,0)) from h.cell);have HH:=A0 h;clear h c0 c1 c2 c3 c4 c5 c6 c7 c8 c9 c10 c11;unfold Ac;go_enter Tryz.func199,Tryz.ntmps199;go_wp2;go_end0;have hcl:(((w.setCell ⟨C.mb,12,none⟩ (.int .i64 (code:Nat))).setCell ⟨C.mb,13,none⟩ (.int .i64 (i.line:Nat))).alloc (.cells #[.int .i64 (i.op:Nat),.int .i64 i.arg,.int .i64 (i.line:Nat),.int .i64 (i.v.k:Nat),.bool i.v.y,.int .i64 i.v.n,.string ⟨i.v.t.toArray⟩,.pointer none] 251)).heap[C.mb]?=some (.cells (C.cells s x (m.fuel) (m.cells) (code) (i.line)) 167 (0,0)):=by
  rw[Below.heap_alloc _ _ _ z55a,(heap_set (j:=13) (heap_set (j:=12) HH.o.cell (.int .i64 (code:Nat))) (.int .i64 (i.line:Nat)))];simp[MC.cells]
 have hkk:∀g,g<w.heap.size->g≠C.mb->(((w.setCell ⟨C.mb,12,none⟩ (.int .i64 (code:Nat))).setCell ⟨C.mb,13,none⟩ (.int .i64 (i.line:Nat))).alloc (.cells #[.int .i64 (i.op:Nat),.int .i64 i.arg,.int .i64 (i.line:Nat),.int .i64 (i.v.k:Nat),.bool i.v.y,.int .i64 i.v.n,.string ⟨i.v.t.toArray⟩,.pointer none] 251)).heap[g]?=w.heap[g]?:=by
  intro g hg hne;rw[Below.heap_alloc _ _ _ z55a,Below.heap_setCell _ _ _ _ z5sa,Below.heap_setCell _ _ _ _ z5sa]
 have hpl:=HH.o.plain (now:=m.now) (fuel:=m.fuel) (cells:=m.cells) (code:=code) (line:=i.line) (x':=x) HH.o.now hcl hkk z5fa rfl rfl rfl;exact⟨rfl,hpl⟩
theorem z22a {P:Prop} (h:P:=by
  intro g hg hne;rw[Below.heap_alloc _ _ _ z55a,Below.heap_setCell _ _ _ _ z5sa]):P:=h
theorem U3(h:C.Ms D X β w m)(i:Af)(hf:m.fuel≠0)(hb:m.fuel<=100000):Calls Tryz.prog 198 #[.pointer (some ⟨C.mb,0,none⟩),Ac i] w (MP C D X β w { m with fuel:=m.fuel-1 } (.bool true)):=by
 obtain⟨ρ,s,x,fv,ab,lp,h⟩:=h;obtain⟨c0,c1,c2,c3,c4,c5,c6,c7,c8,c9,c10,c11,c12,c13,fz,lb⟩:=Q2 (show w.heap[C.mb]?=some (.cells #[_,_,_,_,_,_,_,_,_,_,_,_,_,_] _ (0,0)) from h.cell);have HH:=A0 h;have t0:((m.fuel:Int)==0)=false:=by rw[beq_eq_false_iff_ne];omega
 have HFu:Hid (((m.fuel-1:Nat):Int)=(m.fuel:Int)-1):=by show _=_;omega
 clear h c0 c1 c2 c3 c4 c5 c6 c7 c8 c10 c11 c12 c13;unfold Ac;go_enter Tryz.func198,Tryz.ntmps198;go_wp2;go_ret;rw[<-HFu.o];have hcl:((w.setCell ⟨C.mb,9,none⟩ (.int .i64 ((m.fuel-1:Nat):Nat))).alloc (.cells #[.int .i64 (i.op:Nat),.int .i64 i.arg,.int .i64 (i.line:Nat),.int .i64 (i.v.k:Nat),.bool i.v.y,.int .i64 i.v.n,.string ⟨i.v.t.toArray⟩,.pointer none] 251)).heap[C.mb]?=some (.cells (C.cells s x (m.fuel-1) (m.cells) (m.code) (m.line)) 167 (0,0)):=by
  rw[Below.heap_alloc _ _ _ z55a,(heap_set (j:=9) HH.o.cell (.int .i64 ((m.fuel-1:Nat):Nat)))];simp[MC.cells]
 have hkk:∀g,g<w.heap.size->g≠C.mb->((w.setCell ⟨C.mb,9,none⟩ (.int .i64 ((m.fuel-1:Nat):Nat))).alloc (.cells #[.int .i64 (i.op:Nat),.int .i64 i.arg,.int .i64 (i.line:Nat),.int .i64 (i.v.k:Nat),.bool i.v.y,.int .i64 i.v.n,.string ⟨i.v.t.toArray⟩,.pointer none] 251)).heap[g]?=w.heap[g]?:=by
  exact z22a
 have hpl:=HH.o.plain (now:=m.now) (fuel:=m.fuel-1) (cells:=m.cells) (code:=m.code) (line:=m.line) (x':=x) HH.o.now hcl hkk z5fa rfl rfl rfl;exact⟨rfl,hpl⟩
theorem z2ja {P:Prop} (h:P:=by
  go_wp2_with fail
  refine HF.o.mono ?_;rintro e w1 ⟨rfl,h1,h2⟩;have A7:=A0 h1;have A4:Hid (A3 (dx D X) w w1):=Ah.o.trans h2;clear h1 h2;go_wp2;go_ret;exact⟨rfl,A7.o,A4.o⟩):P:=h
theorem A1t(h:C.Ms D X β w m)(i:Af)(hf:m.fuel=0):Calls Tryz.prog 198 #[.pointer (some ⟨C.mb,0,none⟩),Ac i] w (MP C D X β w (m.fail 8 i) (.bool false)):=by
 have Bj:Below w.heap.size w (w.alloc (.cells #[.int .i64 (i.op:Nat),.int .i64 i.arg,.int .i64 (i.line:Nat),.int .i64 (i.v.k:Nat),.bool i.v.y,.int .i64 i.v.n,.string ⟨i.v.t.toArray⟩,.pointer none] 251)):=Below.alloc (Below.refl _ _) (Nat.le_refl _) _;obtain⟨h0,hd0⟩:=h.below Bj;have HF:=A0 (Gw h0 8 i);have Ah:=A0 hd0;obtain⟨ρ,s,x,fv,ab,lp,h⟩:=h;obtain⟨c0,c1,c2,c3,c4,c5,c6,c7,c8,c9,c10,c11,c12,c13,fz,lb⟩:=Q2 (show w.heap[C.mb]?=some (.cells #[_,_,_,_,_,_,_,_,_,_,_,_,_,_] _ (0,0)) from h.cell);have HH:=A0 h;have t0:((m.fuel:Int)==0)=true:=by rw[hf];rfl
 have lx:=heap_alloc_new w (.cells #[.int .i64 (i.op:Nat),.int .i64 i.arg,.int .i64 (i.line:Nat),.int .i64 (i.v.k:Nat),.bool i.v.y,.int .i64 i.v.n,.string ⟨i.v.t.toArray⟩,.pointer none] 251);clear h c0 c1 c2 c3 c4 c5 c6 c7 c8 c10 c11 c12 c13 h0 hd0 Bj hf;unfold Ac at *;go_enter Tryz.func198,Tryz.ntmps198;exact z2ja
end
end Go.Proofs.YtjdlndhfaaolaaaGreatDoor
