import Derived.Shelf.Strconv.AppendIntPublic10
import Derived.Shelf.Strconv.ParseIntPublic10
import Derived.Test.YtjdlndhfaaolaaaGreatDoorQ21
set_option maxHeartbeats 20000000
namespace Go.Proofs.YtjdlndhfaaolaaaGreatDoor
section
open Go.RowKit
open Go.Deep (BT)
def C6{α:Type}(f:α->List Value)(xs:List α):List Value:=xs.flatMap f
variable {α:Type} {f:α->List Value} {sz:Nat}
theorem Nk(x:α)(r:List α):C6 f (x::r)=f x++C6 f r:=by simp[C6]
theorem Qq(a b:List α):C6 f (a++b)=C6 f a++C6 f b:=by simp[C6]
theorem Qa(x:α):C6 f [x]=f x:=by simp[C6]
theorem L7(hf:∀x,(f x).length=sz)(xs:List α):(C6 f xs).length=xs.length*sz:=by
 induction xs with
 | nil=>simp[C6]
 | cons x r ih=>rw[Nk,List.length_append,ih,hf,List.length_cons,Nat.add_mul];omega
theorem Cv(hf:∀x,(f x).length=sz)(xs:List α):∀(i j:Nat) (h:i<xs.length),j<sz->(C6 f xs)[i*sz+j]?=(f xs[i])[j]?:=by
 induction xs with
 | nil=>intro i j h;simp at h
 | cons x r ih=>
  intro i j h hj;rw[Nk];have hl:=hf x;cases i with
  | zero=>rw[List.getElem?_append_left (by omega)];simp
  | succ i=>
   rw[List.getElem?_append_right (by rw[hl,Nat.add_mul];omega),hl,show(i+1)*sz+j-sz=i*sz+j by rw[Nat.add_mul];omega];exact ih i j (by simpa using h) hj
theorem Us(hf:∀x,(f x).length=sz):∀(xs:List α) (m:Nat),(C6 f xs).take (m*sz)=C6 f (xs.take m):=by
 intro xs;induction xs with
 | nil=>intro m;simp[C6]
 | cons x r ih=>
  intro m;cases m with
  | zero=>simp[C6]
  | succ m=>rw[Nk,List.take_succ_cons,Nk,show(m+1)*sz=(f x).length+m*sz by rw[hf,Nat.add_mul];omega,List.take_length_add_append,ih]
theorem Ro(hf:∀x,(f x).length=sz)(y:α):∀(xs:List α) (i:Nat),i<xs.length->C6 f (xs.set i y)=(C6 f xs).take (i*sz)++f y++(C6 f xs).drop ((i+1)*sz):=by
 intro xs;induction xs with
 | nil=>intro i h;simp at h
 | cons x r ih=>
  intro i h;have hl:=hf x;cases i with
  | zero=>rw[List.set_cons_zero,Nk,Nk,Nat.zero_mul,List.take_zero,List.nil_append,Nat.zero_add,Nat.one_mul,←hl,List.drop_left]
  | succ i=>
   have e1:(f x++C6 f r).take ((i+1)*sz)=f x++(C6 f r).take (i*sz):=by rw[show(i+1)*sz=(f x).length+i*sz by rw[hl,Nat.add_mul];omega,List.take_length_add_append]
   have e2:(f x++C6 f r).drop ((i+1+1)*sz)=(C6 f r).drop ((i+1)*sz):=by rw[show(i+1+1)*sz=(f x).length+(i+1)*sz by rw[hl,Nat.add_mul (i+1)];omega,List.drop_length_add_append]
   rw[List.set_cons_succ,Nk,Nk,ih i (by simpa using h),e1,e2];simp only[List.append_assoc]
structure Dc {α : Type} (T : TypeId) (sz : Nat) (f : α -> List Value) (b o : Nat) (w : World) (cs : Array Value) (t : TypeId) (va : Option Addr) (vn vc : Nat) (xs : List α) : Prop where
 blk:w.heap[b]?=some (.cells cs t (0,0))
 cell:cs[o]?=some (.slice va vn vc)
 own:w.ownsRow 0 T sz (.slice va vn vc) xs.length (C6 f xs)
 ne:(Value.slice va vn vc).ownBlock≠some b
def We{α:Type}(T:TypeId)(sz:Nat)(f:α->List Value)(b o:Nat)(w:World)(cs:Array Value)(t:TypeId)(va:Option Addr)(vn vc:Nat)(xs:List α)(u:α)(w':World):Prop:=
 ∃g cap,Dc T sz f b o w' (cs.setIfInBounds o (.slice (some ⟨g,0,none⟩) (xs.length+1) cap)) t (some ⟨g,0,none⟩) (xs.length+1) cap (xs++[u])/\((Value.slice va vn vc).ownBlock=some g\/w.heap.size<=g)/\Fm b (Value.slice va vn vc).ownBlock w w'
def Jl{α:Type}(T:TypeId)(sz:Nat)(f:α->List Value)(b o:Nat)(w:World)(cs:Array Value)(t:TypeId)(va:Option Addr)(vn vc:Nat)(xs:List α)(m:Nat)(w':World):Prop:=
 Dc T sz f b o w' (cs.setIfInBounds o (.slice va m vc)) t va m vc (xs.take m)/\Fm b (Value.slice va vn vc).ownBlock w w'
theorem Dc.keep{α:Type}{T:TypeId}{sz:Nat}{f:α->List Value}{b o:Nat}{w w':World}{cs:Array Value}{t:TypeId}{va:Option Addr}{vn vc:Nat}{xs:List α}(h:Dc T sz f b o w cs t va vn vc xs)(hk:∀g,g<w.heap.size->w'.heap[g]?=w.heap[g]?):Dc T sz f b o w' cs t va vn vc xs:=
 ⟨(hk b (A4 h.blk)).trans h.blk,h.cell,B3 h.own (fun g _ hl=>hk g hl),h.ne⟩
theorem Fm.below{b:Nat}{row:Option Nat}{w w1 w2:World}(hb:Below w.heap.size w w1)(h:Fm b row w1 w2):Fm b row w w2:=
 ⟨h.os.trans hb.os,h.tape.trans hb.tape,h.output.trans hb.output,Nat.le_trans hb.size h.size,fun k hk h1 h2=>(h.block k (Nat.lt_of_lt_of_le hk hb.size) h1 h2).trans (hb.block k hk)⟩
theorem Rh(g:Nat)(t:TypeId)(fr:Nat×Nat):∀(vs:List Value) (o:Nat) (cur:Array Value) (w:World),w.heap[g]?=some (.cells cur t fr)->o+vs.length<=cur.size->
  ∃cur',(w.setCells g o vs).heap[g]?=some (.cells cur' t fr)/\cur'.size=cur.size/\cur'.toList=cur.toList.take o++vs++cur.toList.drop (o+vs.length):=by
 intro vs;induction vs with
 | nil=>intro o cur w h hl;exact⟨cur,h,rfl,by simp⟩
 | cons v r ih=>
  intro o cur w h hl;simp only[List.length_cons]at hl;obtain⟨cur',h1,h2,h3⟩:=ih (o+1) _ _ (heap_set (j:=o) h v) (by simp;omega);refine⟨cur',h1,by rw[h2];simp,?_⟩;rw[h3];simp only[Array.toList_setIfInBounds,List.length_cons];have hol:o<cur.toList.length:=by simp;omega
  rw[List.drop_set_of_lt (by omega),List.take_succ_eq_append_getElem (by simpa using hol),List.take_set_of_le (Nat.le_refl _)];simp only[List.getElem_set_self,List.append_assoc,List.cons_append,List.nil_append];rw[show o+1+r.length=o+(r.length+1) by omega]
theorem Xj{α:Type}(C B:List α)(a b n:Nat)(hab:a+B.length=b)(hbn:b<=n)(hn:n<=C.length):(C.take a++B++C.drop b).take n=(C.take n).take a++B++(C.take n).drop b:=by
 have hl:(C.take a++B).length=b:=by simp;omega
 have e1:(C.take a++B++C.drop b).take n=(C.take a++B)++(C.drop b).take (n-b):=by
  rw[List.take_append,List.take_of_length_le (by omega),hl]
 rw[e1,List.take_take,Nat.min_eq_left (by omega),List.drop_take]
def Mt{α:Type}(T:TypeId)(sz:Nat)(f:α->List Value)(b o:Nat)(w:World)(cs:Array Value)(t:TypeId)(va:Option Addr)(vn vc:Nat)(ys:List α)(w':World):Prop:=
 Dc T sz f b o w' cs t va vn vc ys/\Fm b (Value.slice va vn vc).ownBlock w w'
theorem Dc.putRow{α:Type}{T:TypeId}{sz:Nat}{f:α->List Value}{b o:Nat}{w w0:World}{cs:Array Value}{t:TypeId}{va:Option Addr}{vn vc:Nat}{xs:List α}(h:Dc T sz f b o w0 cs t va vn vc xs)(hf:∀x,(f x).length=sz)(i:Nat)(hi:i<xs.length)(u:α)(hb:Below w.heap.size w w0) :
  ∀g,va=some ⟨g,0,none⟩->Mt T sz f b o w cs t va vn vc (xs.set i u) (w0.setCells g (i*sz) (f u)):=by
 intro g hg;subst hg;obtain⟨hl,⟨h2,h3⟩|⟨g',cap,cur,hv,_,hgc,hcap,hmx,hsz,ht⟩⟩:=h.own
 ·cases h2
 injection hv with e1 e2 e3;injection e1 with e1;injection e1 with e1;subst e1 e3;have hin:(i+1)*sz<=xs.length*sz:=Nat.mul_le_mul_right _ hi;have hin2:xs.length*sz<=vc*sz:=Nat.mul_le_mul_right _ hcap;have hadd:(i+1)*sz=i*sz+sz:=by rw[Nat.add_mul,Nat.one_mul]
 obtain⟨cur',k1,k2,k3⟩:=Rh g T (0,0) (f u) (i*sz) cur w0 hgc (by rw[hf];omega);obtain⟨f1,f2,f3,f4,f5⟩:=Lm g (f u) (i*sz) w0;have hgb:g≠b:=fun e=>h.ne (by rw[←e];rfl);refine⟨⟨(f5 b (fun e=>hgb e.symm)).trans h.blk,h.cell,⟨by rw[L7 hf],.inr ⟨g,vc,cur',?_,Nat.zero_le _,k1,?_,hmx,by rw[k2];exact hsz,?_⟩⟩,h.ne⟩,⟨f1.trans hb.os,f2.trans hb.tape,f3.trans hb.output,by rw[f4];exact hb.size,fun k hk h1 h2=>(f5 k (fun e=>h2 (by rw[e];rfl))).trans (hb.block k hk)⟩⟩
 ·rw[List.length_set,e2]
 ·rw[List.length_set];exact hcap
 ·have hcl:cur.toList.length=vc*sz:=by simpa using hsz
  rw[List.length_set,k3,Ro hf u xs i hi,←ht,hf,←hadd];exact Xj _ _ _ _ _ (by rw[hf];omega) hin (by omega)
theorem Mt.alloc{α:Type}{T:TypeId}{sz:Nat}{f:α->List Value}{b o:Nat}{w w3:World}{cs:Array Value}{t:TypeId}{va:Option Addr}{vn vc:Nat}{ys:List α}(h:Mt T sz f b o w cs t va vn vc ys w3)(hl:b<w.heap.size)(hr:∀k,(Value.slice va vn vc).ownBlock=some k->k<w.heap.size)(x:Obj):Mt T sz f b o w cs t va vn vc ys (w3.alloc x):=by
 have hk:∀k,k<w.heap.size->(w3.alloc x).heap[k]?=w3.heap[k]?:=fun k hk=>Below.heap_alloc _ _ _ (Nat.lt_of_lt_of_le hk h.2.size);exact⟨⟨(hk b hl).trans h.1.blk,h.1.cell,B3 h.1.own (fun k hk' _=>hk k (hr k hk')),h.1.ne⟩,⟨h.2.os,h.2.tape,h.2.output,by simp;have:=h.2.size;omega,fun k h1 h2 h3=>(hk k h1).trans (h.2.block k h1 h2 h3)⟩⟩
theorem Mt.drew{α:Type}{T:TypeId}{sz:Nat}{f:α->List Value}{b o:Nat}{w w3:World}{cs:Array Value}{t:TypeId}{va:Option Addr}{vn vc:Nat}{ys:List α}(h:Mt T sz f b o w cs t va vn vc ys w3):Mt T sz f b o w cs t va vn vc ys w3.drew:=
 ⟨⟨h.1.blk,h.1.cell,B3 h.1.own (fun _ _ _=>rfl),h.1.ne⟩,⟨h.2.os,h.2.tape,h.2.output,h.2.size,h.2.block⟩⟩
theorem Jl.res{α:Type}{T:TypeId}{sz:Nat}{f:α->List Value}{b o:Nat}{w w2 w3:World}{cs:Array Value}{t:TypeId}{va:Option Addr}{vn vc:Nat}{xs:List α}{m:Nat}(h:Jl T sz f b o w2 cs t va vn vc xs m w3)(hb:Below w.heap.size w w2):Jl T sz f b o w cs t va vn vc xs m w3:=⟨h.1,Fm.below hb h.2⟩
theorem Jl.set{α:Type}{T:TypeId}{sz:Nat}{f:α->List Value}{b o:Nat}{w w3:World}{cs:Array Value}{t:TypeId}{va:Option Addr}{vn vc:Nat}{xs:List α}{m:Nat}(h:Jl T sz f b o w cs t va vn vc xs m w3)(hl:b<w.heap.size)(hr:∀k,(Value.slice va vn vc).ownBlock=some k->k<w.heap.size){p:Addr}(hp:w.heap.size<=p.block)(v:Value):Jl T sz f b o w cs t va vn vc xs m (w3.setCell p v):=by
 have hk:∀k,k<w.heap.size->(w3.setCell p v).heap[k]?=w3.heap[k]?:=fun k hk=>Below.heap_setCell _ _ _ _ (by omega);exact⟨⟨(hk b hl).trans h.1.blk,h.1.cell,B3 h.1.own (fun k hk' _=>hk k (hr k ((M9 _ _ _ _).trans hk'))),h.1.ne⟩,⟨h.2.os,h.2.tape,h.2.output,by simp[World.setCell];exact h.2.size,fun k h1 h2 h3=>(hk k h1).trans (h.2.block k h1 h2 h3)⟩⟩
theorem P5{α:Type}(z:α)(xs:List α):xs.getLastD z=if((xs.length:Int)-1)<0 then z else(xs[((xs.length:Int)-1).toNat]?).getD z:=by
 rw[List.getLastD_eq_getLast?,List.getLast?_eq_getElem?];by_cases h:xs.length=0
 ·rw[if_pos (by omega),List.getElem?_eq_none (by omega)];rfl
 ·rw[if_neg (by omega),show((xs.length:Int)-1).toNat=xs.length-1 by omega]
theorem Zw(z:Array Value)(n:Nat):(Builtin.zeroCells z n).toList.length=n*z.size:=by simp[Builtin.zeroCells]
theorem Akt{z:Array Value}(hz:0<z.size)(h1:∀v∈z.toList,v.oneCell'=true)(n:Nat):∀v∈(Builtin.zeroCells z n).toList,v.oneCell'=true:=by
 intro v hv;simp only[Builtin.zeroCells,Array.toList_map,List.mem_map]at hv;obtain⟨i,_,rfl⟩:=hv;have hlt:i % z.size<z.size:=Nat.mod_lt _ hz;rw[getElem!_pos z _ hlt];exact h1 _ (Array.getElem_mem_toList hlt)
theorem Uw{P:Program}(w:World)(t e ty:TypeId)(z:Value)(ht:P.underlying t=some (.slice e))(hv:∀w,(zeroValue e).run P w=.ok z w)(hz:0<z.cells.size)(h1:∀v∈z.cells.toList,v.oneCell'=true)(b o n c:Nat)(hn:0<n)
  (hc:∀j,j<n*z.cells.size->(w.cell? ⟨b,o+j,none⟩).isSome=true) (hf:∀j,j<n*z.cells.size->w.frozen? ⟨b,o+j,none⟩=false) :
  (Builtin.clear_ #[t] ty #[.slice (some ⟨b,o,none⟩) n c]).run P w=.ok (.tuple #[]) (w.setCells b o (Builtin.zeroCells z.cells n).toList):=by
 have hst:=run_storeCells_cells (P:=P) b o (Builtin.zeroCells z.cells n).toList 0 w (by rw[Zw];simpa using hc) (by rw[Zw];simpa using hf) (Akt hz h1 n);simp only[Nat.add_zero]at hst;obtain⟨m,rfl⟩:∃m,n=m+1:=⟨n-1,by omega⟩;simp[Builtin.clear_,run_underlying ht,hv,hst]
end
section
set_option maxRecDepth 100000
open Go.RowKit
open Go.Deep (BT)
variable {β:Nat->Nat}{b o:Nat}{w:World}{cs:Array Value}{t:TypeId}{va:Option Addr}{vn vc:Nat}{xs:List PV}
def Ca(β:Nat->Nat)(v:PV):Option Addr:=match v.r with
 | none=>none
 | some i=>some ⟨β i,0,none⟩
def Fc(β:Nat->Nat)(v:PV):List Value:=[.int .i64 (v.k:Nat),.bool v.y,.int .i64 v.n,.string ⟨v.t.toArray⟩,.pointer (Ca β v)]
theorem r8:(Tryz.prog.info? 225).map (fun i=>(i.zero,i.size,i.bytes))=some (some (.agg #[.int .i64 0,.bool false,.int .i64 0,.string ⟨#[]⟩,.pointer none]),5,48):=by kernel_rfl
theorem W9(h:Dc 225 5 (Fc β) b o w cs t va vn vc xs):Calls Tryz.prog 98 #[.pointer (some ⟨b,o,none⟩)] w fun e w'=>e=.returned (.int .i64 (xs.length:Nat))/\w'=w:=by
 have c:=Di h.blk h.cell;have lb:=A4 h.blk;have hv:vn=xs.length:=(C8 h.own).1;subst hv;clear h;go_enter Tryz.func98,Tryz.ntmps98;go_wp2;go_ret;exact⟨rfl,rfl⟩
theorem Ahb(h:Dc 225 5 (Fc β) b o w cs t va vn vc xs)(i:Nat)(hi:i<xs.length)(hb:xs.length<=1000000):Calls Tryz.prog 195 #[.pointer (some ⟨b,o,none⟩),.int .i64 (i:Nat)] w fun e w'=>e=.returned (.agg #[.int .i64 ((xs[i]).k:Nat),.bool (xs[i]).y,.int .i64 (xs[i]).n,.string ⟨(xs[i]).t.toArray⟩,.pointer (Ca β (xs[i]))])/\Below w.heap.size w w':=by
 have c:=Di h.blk h.cell;have lb:=A4 h.blk;have hv:vn=xs.length:=(C8 h.own).1;subst hv;obtain⟨g,rfl,hvn9,hcap,lg,hcell⟩:=Gj h.own (by omega);clear hvn9;have d0:=hcell (i*5+0) _ ((Cv (sz:=5) (fun _=>rfl) xs i 0 hi (by omega)).trans rfl);have d1:=hcell (i*5+1) _ ((Cv (sz:=5) (fun _=>rfl) xs i 1 hi (by omega)).trans rfl);have d2:=hcell (i*5+2) _ ((Cv (sz:=5) (fun _=>rfl) xs i 2 hi (by omega)).trans rfl);have d3:=hcell (i*5+3) _ ((Cv (sz:=5) (fun _=>rfl) xs i 3 hi (by omega)).trans rfl);have d4:=hcell (i*5+4) _ ((Cv (sz:=5) (fun _=>rfl) xs i 4 hi (by omega)).trans rfl);rw[Nat.add_zero]at d0;clear h hcell;generalize xs[i]=x at *;go_enter Tryz.func195,Tryz.ntmps195;go_wp2;refine bodyPost_ret (v:=.agg #[.int .i64 (x.k:Nat),.bool x.y,.int .i64 x.n,.string ⟨x.t.toArray⟩,.pointer (Ca β x)]) (by simp[results,Tryz.results195,go_sem]) rfl ⟨rfl,?_⟩;exact Below.alloc (Below.refl _ _) (Nat.le_refl _) _
theorem Y5(h:Dc 225 5 (Fc β) b o w cs t va vn vc xs)(i:Int)(hi:i<0\/(xs.length:Int)<=i):Calls Tryz.prog 195 #[.pointer (some ⟨b,o,none⟩),.int .i64 i] w fun e w'=>e=.returned (.agg #[.int .i64 0,.bool false,.int .i64 0,.string ⟨#[]⟩,.pointer none])/\Below w.heap.size w w':=by
 have c:=Di h.blk h.cell;have lb:=A4 h.blk;have hv:vn=xs.length:=(C8 h.own).1;subst hv;clear h;by_cases h0:i<0
 ·clear hi;go_enter Tryz.func195,Tryz.ntmps195;go_wp2;refine bodyPost_ret (v:=.agg #[.int .i64 0,.bool false,.int .i64 0,.string ⟨#[]⟩,.pointer none]) (by simp[results,Tryz.results195,go_sem]) rfl ⟨rfl,?_⟩;repeat (first|exact Below.refl _ _|refine Below.alloc ?_ (by simp) _|refine Below.setCell ?_ (by simp) _|refine Below.drew ?_)
 ·have h1:(xs.length:Int)<=i:=by omega
  clear hi;go_enter Tryz.func195,Tryz.ntmps195;go_wp2;refine bodyPost_ret (v:=.agg #[.int .i64 0,.bool false,.int .i64 0,.string ⟨#[]⟩,.pointer none]) (by simp[results,Tryz.results195,go_sem]) rfl ⟨rfl,?_⟩;repeat (first|exact Below.refl _ _|refine Below.alloc ?_ (by simp) _|refine Below.setCell ?_ (by simp) _|refine Below.drew ?_)
theorem Vl(h:Dc 225 5 (Fc β) b o w cs t va vn vc xs)(i:Int)(hb:xs.length<=1000000)(x:PV)(hx:x=if i<0 then Ai else(xs[i.toNat]?).getD Ai):Calls Tryz.prog 195 #[.pointer (some ⟨b,o,none⟩),.int .i64 i] w fun e w'=>e=.returned (.agg #[.int .i64 (x.k:Nat),.bool x.y,.int .i64 x.n,.string ⟨x.t.toArray⟩,.pointer (Ca β x)])/\Below w.heap.size w w':=by
 by_cases h0:i<0
 ·rw[if_pos h0]at hx;subst hx;exact Y5 h i (.inl h0)
 ·rw[if_neg h0]at hx;by_cases h1:i.toNat<xs.length
  ·rw[List.getElem?_eq_getElem h1]at hx;have:=Ahb h i.toNat h1 hb;rw[show((i.toNat:Nat):Int)=i by omega]at this;rw[hx];exact this
  ·rw[List.getElem?_eq_none (by omega)]at hx;subst hx;exact Y5 h i (.inr (by omega))
theorem Abz(h:Dc 225 5 (Fc β) b o w cs t va vn vc xs)(hn:xs.length<=900000)(u:PV)(ho:o<cs.size):Calls Tryz.prog 99 #[.pointer (some ⟨b,o,none⟩),.agg #[.int .i64 (u.k:Nat),.bool u.y,.int .i64 u.n,.string ⟨u.t.toArray⟩,.pointer (Ca β u)]] w fun e w'=>e=.returned (.tuple #[])/\We 225 5 (Fc β) b o w cs t va vn vc xs u w':=by
 have Gy:Dc 225 5 (Fc β) b o (w.alloc (.cells #[.int .i64 (u.k:Nat),.bool u.y,.int .i64 u.n,.string ⟨u.t.toArray⟩,.pointer (Ca β u)] 225)) cs t va vn vc xs:=h.keep (fun g hg=>Below.heap_alloc _ _ _ hg);have Bi:Below w.heap.size w (w.alloc (.cells #[.int .i64 (u.k:Nat),.bool u.y,.int .i64 u.n,.string ⟨u.t.toArray⟩,.pointer (Ca β u)] 225)):=Below.alloc (Below.refl _ _) (Nat.le_refl _) _;have F3:=heap_alloc_new w (.cells #[.int .i64 (u.k:Nat),.bool u.y,.int .i64 u.n,.string ⟨u.t.toArray⟩,.pointer (Ca β u)] 225);have hlr:=Bs h.own;clear h;generalize hW:w.alloc (.cells #[.int .i64 (u.k:Nat),.bool u.y,.int .i64 u.n,.string ⟨u.t.toArray⟩,.pointer (Ca β u)] 225)=w0 at *;generalize hxb:w.heap.size=xb at *;have HW:=A0 hW;have HXb:=A0 hxb;have Ae:=A0 Bi;have hsz0:=Bi.size;clear hW Bi;have c:=Di Gy.blk Gy.cell;have lb:=A4 Gy.blk;have hv:vn=xs.length:=(C8 Gy.own).1;subst hv;have x0:=A2 F3 0 _ rfl;have x1:=A2 F3 1 _ rfl;have x2:=A2 F3 2 _ rfl;have x3:=A2 F3 3 _ rfl;have x4:=A2 F3 4 _ rfl;have lx:=A4 F3;have hown:w0.drew.ownsRow 0 225 5 (.slice va xs.length vc) xs.length (C6 (Fc β) xs):=B3 Gy.own (fun _ _ _=>rfl);have HH:=A0 Gy;have HNe:=A0 Gy.ne;have HLr:=A0 hlr;clear Gy F3 hxb hlr;go_enter Tryz.func99,Tryz.ntmps99;go_wp2;rw[HW.o,HXb.o];go_region_law (refine Mr _ w0.heap.size #[.int .i64 (u.k:Nat),.bool u.y,.int .i64 u.n,.string ⟨u.t.toArray⟩,.pointer (Ca β u)] 225 (heap_alloc_new w0.drew _) rfl (.tmp 8) (.tmp 10) 158 rfl 0 5 48 _ Tryz.underlying158 r8 rfl (by omega) (.slice va xs.length vc) xs.length (C6 (Fc β) xs) rfl rfl (hown.alloc _) rfl (fun v hv=>by simp at hv;rcases hv with rfl|rfl|rfl|rfl|rfl <;> rfl) (by omega) (by omega) (Nat.zero_le _) ?_;intro g cap w1 F1 hgrow' hat' hg;have Fw:=Lx (World.grownBy_alloc w0.drew _ none) hgrow';have hgrow:w0.grownBy w1 (Value.slice va xs.length vc).ownBlock:=⟨Fw.os,Fw.tape,Fw.output,Fw.size,Fw.block⟩;clear Fw;have hat:(Value.slice va xs.length vc).ownBlock=some g\/w0.heap.size<=g:=hat'.imp id (fun e=>by rw[e];simp);have A1:=(hgrow.block b lb (fun e=>HNe.o e.symm)).trans HH.o.blk;have c1:=Di A1 HH.o.cell;have f1:=Bd A1;have Bt:=A4 A1;have A5:=A0 A1;have HOwn1:=A0 F1;have HGrow:=A0 hgrow;have HAt:=A0 hat;clear A1 F1 hgrow hat hgrow' hat')
 all_goals go_wp2
 all_goals go_end0
 all_goals
  have hgb:g≠b:=by
   rcases HAt.o with e|e
   ·intro e2;rw[e2]at e;exact HNe.o e
   ·omega
  refine⟨rfl,g,cap,⟨heap_set A5.o _,?_,?_,by simp only[Value.ownBlock,ne_eq,Option.some.injEq];exact hgb⟩,HAt.o.imp id (fun e=>by omega),⟨HGrow.o.os.trans Ae.o.os,HGrow.o.tape.trans Ae.o.tape,HGrow.o.output.trans Ae.o.output,by have:=HGrow.o.size;have:=HXb.o;simp[World.setCell];omega,fun k hk hkb hkr=>?_⟩⟩
  ·rw[Array.getElem?_setIfInBounds,if_pos rfl,if_pos ho]
  ·rw[List.length_append,Qq,Qa];exact B3 HOwn1.o (fun k hk _=>Below.heap_setCell _ _ _ _ (by simp only[Value.ownBlock,Option.some.injEq]at hk;show k≠b;omega))
  ·have hkx:=HXb.o;exact((Below.heap_setCell _ _ _ _ (by exact hkb)).trans (HGrow.o.block k (by omega) (fun e=>hkr e.symm))).trans (Ae.o.block k (by omega))
theorem Zg(h:Dc 225 5 (Fc β) b o w cs t va vn vc xs)(m:Nat)(hm:m<=xs.length)(ho:o<cs.size):Calls Tryz.prog 205 #[.pointer (some ⟨b,o,none⟩),.int .i64 (m:Nat)] w fun e w'=>e=.returned (.tuple #[])/\Jl 225 5 (Fc β) b o w cs t va vn vc xs m w':=by
 have c:=Di h.blk h.cell;have lb:=A4 h.blk;have hv:vn=xs.length:=(C8 h.own).1;subst hv;have fz:=Bd h.blk;have HH:=A0 h;have HNe:=A0 h.ne;by_cases he:m=xs.length
 ·subst he;clear h;go_enter Tryz.func205,Tryz.ntmps205;go_wp2;refine bodyPost_ret (v:=.tuple #[]) (by simp[results,Tryz.results205,go_sem]) rfl ⟨rfl,?_,Fm.refl _ _ _⟩;rw[N9 HH.o.cell,List.take_length];exact HH.o
 ·obtain⟨hl,⟨h2,h3⟩|⟨g,cap,cur,hv,_,hg,hcap',hmx,hsz,ht⟩⟩:=h.own
  ·omega
  ·injection hv with e1 e2 e3;subst e1 e3;have hgb:g≠b:=fun e=>h.ne (by rw[←e];rfl);have fg:=Bd hg;have lg:=A4 hg;have hzs:(.agg #[.int .i64 0,.bool false,.int .i64 0,.string ⟨#[]⟩,.pointer none]:Value).cells.size=5:=rfl;have hmul:m*5+(xs.length-m)*5=xs.length*5:=by omega
   have hcs:∀j,j<(xs.length-m)*(.agg #[.int .i64 0,.bool false,.int .i64 0,.string ⟨#[]⟩,.pointer none]:Value).cells.size->(w.cell? ⟨g,m*5+j,none⟩).isSome=true:=by
    intro j hj;rw[hzs]at hj;rw[cell_of_row w g (m*5+j) cur _ _ hg,Array.getElem?_eq_getElem (by omega)];rfl
   have hcl:∀ty,(Builtin.clear_ #[158] ty #[.slice (some ⟨g,m*5,none⟩) (xs.length-m) (vc-m)]).run Tryz.prog w=.ok (.tuple #[]) (w.setCells g (m*5) (Builtin.zeroCells (.agg #[.int .i64 0,.bool false,.int .i64 0,.string ⟨#[]⟩,.pointer none]:Value).cells (xs.length-m)).toList):=
    fun ty=>Uw w 158 225 ty (.agg #[.int .i64 0,.bool false,.int .i64 0,.string ⟨#[]⟩,.pointer none]) Tryz.underlying158 Tryz.zeroValue225 (by rw[hzs];omega) (fun v hv=>by simp[Value.cells]at hv;rcases hv with rfl|rfl|rfl|rfl|rfl <;> rfl) g (m*5) (xs.length-m) (vc-m) (by omega) hcs (fun j hj=>fg _)
   obtain⟨cur',k1,k2,k3⟩:=Of g 225 (0,0) (Builtin.zeroCells (.agg #[.int .i64 0,.bool false,.int .i64 0,.string ⟨#[]⟩,.pointer none]:Value).cells (xs.length-m)).toList (m*5) cur w hg;obtain⟨f1,f2,f3,f4,f5⟩:=Lm g (Builtin.zeroCells (.agg #[.int .i64 0,.bool false,.int .i64 0,.string ⟨#[]⟩,.pointer none]:Value).cells (xs.length-m)).toList (m*5) w;have A1:=(f5 b (fun e=>hgb e.symm)).trans h.blk;have Ht:=A0 k1;have HK3:=A0 (k3 (m*5) (Nat.le_refl _));have HF:=A0 (And.intro f1 (And.intro f2 (And.intro f3 (And.intro f4 f5))));have HT:=A0 ht;have HSz:=A0 (k2.trans hsz);have hlen9:=hcap';clear h hcs hg ht k1 k2 k3 f1 f2 f3 f5 hl hsz hzs hmul;have c1:=Di A1 HH.o.cell;have g1:=Bd A1;have Bt:=A4 A1;have A5:=A0 A1;clear A1 f4;generalize w.setCells g (m*5) (Builtin.zeroCells (.agg #[.int .i64 0,.bool false,.int .i64 0,.string ⟨#[]⟩,.pointer none]:Value).cells (xs.length-m)).toList=w1 at *;go_enter Tryz.func205,Tryz.ntmps205;go_wp2;go_end0;obtain⟨p1,p2,p3,p4,p5⟩:=HF.o;have hset:∀k,k≠b->(w1.setCell ⟨b,o,none⟩ (.slice (some ⟨g,0,none⟩) m vc)).heap[k]?=w1.heap[k]?:=fun k hk=>Below.heap_setCell _ _ _ _ (by exact hk);refine⟨rfl,⟨heap_set A5.o _,?_,⟨?_,.inr ⟨g,vc,cur',?_,Nat.zero_le _,(hset g hgb).trans Ht.o,?_,hmx,HSz.o,?_⟩⟩,?_⟩,⟨p1,p2,p3,by simp[World.setCell];omega,fun k hk hkb hkr=>?_⟩⟩
   ·rw[Array.getElem?_setIfInBounds,if_pos rfl,if_pos ho]
   ·exact L7 (f:=(Fc β)) (sz:=5) (fun _=>rfl) _
   ·rw[List.length_take,Nat.min_eq_left hm]
   ·rw[List.length_take,Nat.min_eq_left hm];omega
   ·rw[List.length_take,Nat.min_eq_left hm,HK3.o,←Us (sz:=5) (fun _=>rfl),←HT.o,List.take_take,Nat.min_eq_left (by omega)]
   ·simp only[Value.ownBlock,ne_eq,Option.some.injEq];exact hgb
   ·exact(hset k hkb).trans (p5 k (fun e=>hkr (by rw[e];rfl)))
theorem Wv(h:Dc 225 5 (Fc β) b o w cs t va vn vc xs)(hb:xs.length<=1000000)(x:PV)(hx:x=xs.getLastD Ai):Calls Tryz.prog 200 #[.pointer (some ⟨b,o,none⟩)] w fun e w'=>e=.returned (.agg #[.int .i64 (x.k:Nat),.bool x.y,.int .i64 x.n,.string ⟨x.t.toArray⟩,.pointer (Ca β x)])/\Below w.heap.size w w':=by
 have lb:=A4 h.blk;have HL:=A0 (W9 (h.keep (w':=w.alloc (.cells #[.int .i64 0,.bool false,.int .i64 0,.string ⟨#[]⟩,.pointer none] 225)) (fun g hg=>Below.heap_alloc _ _ _ hg)));have HA:=A0 (Vl (h.keep (w':=w.alloc (.cells #[.int .i64 0,.bool false,.int .i64 0,.string ⟨#[]⟩,.pointer none] 225)) (fun g hg=>Below.heap_alloc _ _ _ hg)) ((xs.length:Int)-1) hb x (by rw[hx];exact P5 _ xs));clear h hx;go_enter Tryz.func200,Tryz.ntmps200;go_wp2_with fail
 refine HL.o.mono ?_;rintro e w0 ⟨rfl,Cq⟩;subst Cq;go_wp2_with fail
 refine HA.o.mono ?_;rintro e w1 ⟨rfl,A1⟩;have hR:=Fq A1 (heap_alloc_new w (.cells #[.int .i64 0,.bool false,.int .i64 0,.string ⟨#[]⟩,.pointer none] 225));have r0:=A2 hR 0 _ rfl;have r1:=A2 hR 1 _ rfl;have r2:=A2 hR 2 _ rfl;have r3:=A2 hR 3 _ rfl;have r4:=A2 hR 4 _ rfl;have fr:=Bd hR;have lr:=A4 hR;have A5:Hid (Below w.heap.size w w1):=(Below.alloc (Below.refl _ _) (Nat.le_refl _) _).trans (A1.mono (by simp));clear A1 hR HL HA;go_wp2;refine bodyPost_ret (v:=.agg #[.int .i64 (x.k:Nat),.bool x.y,.int .i64 x.n,.string ⟨x.t.toArray⟩,.pointer (Ca β x)]) (by simp[results,Tryz.results200,go_sem,r0,r1,r2,r3,r4]) rfl ⟨rfl,?_⟩;repeat (first|exact A5.o|refine Below.alloc ?_ (by simp) _|refine Below.setCell ?_ (by simp) _|refine Below.drew ?_)
theorem A1p(h:Dc 225 5 (Fc β) b o w cs t va vn vc xs)(i:Int)(hi:i<0):Calls Tryz.prog 205 #[.pointer (some ⟨b,o,none⟩),.int .i64 i] w fun e w'=>e=.returned (.tuple #[])/\w'=w:=by
 have c:=Di h.blk h.cell;have lb:=A4 h.blk;have hv:vn=xs.length:=(C8 h.own).1;subst hv;clear h;go_enter Tryz.func205,Tryz.ntmps205;go_wp2;refine bodyPost_ret (v:=.tuple #[]) (by simp[results,Tryz.results205,go_sem]) rfl ⟨rfl,rfl⟩
theorem Aba(h:Dc 225 5 (Fc β) b o w cs t va vn vc xs)(i:Int)(hi:(xs.length:Int)<=i):Calls Tryz.prog 205 #[.pointer (some ⟨b,o,none⟩),.int .i64 i] w fun e w'=>e=.returned (.tuple #[])/\w'=w:=by
 have c:=Di h.blk h.cell;have lb:=A4 h.blk;have hv:vn=xs.length:=(C8 h.own).1;subst hv;clear h;have h0:¬i<0:=by omega
 go_enter Tryz.func205,Tryz.ntmps205;go_wp2;refine bodyPost_ret (v:=.tuple #[]) (by simp[results,Tryz.results205,go_sem]) rfl ⟨rfl,rfl⟩
theorem Aeq(h:Dc 225 5 (Fc β) b o w cs t va vn vc xs)(ho:o<cs.size):Calls Tryz.prog 205 #[.pointer (some ⟨b,o,none⟩),.int .i64 ((xs.length:Int)-1)] w fun e w'=>e=.returned (.tuple #[])/\Jl 225 5 (Fc β) b o w cs t va vn vc xs (xs.length-1) w':=by
 by_cases h0:xs.length=0
 ·refine(A1p h _ (by omega)).mono ?_;rintro e w' ⟨rfl,rfl⟩;have hvn:vn=xs.length:=(C8 h.own).1;refine⟨rfl,?_,Fm.refl _ _ _⟩;have hx:xs=[]:=List.length_eq_zero_iff.1 h0;subst hx;simp only[List.length_nil]at hvn;subst hvn;show Dc _ _ _ b o w' (cs.setIfInBounds o (.slice va 0 vc)) t va 0 vc [];rw[N9 h.cell];exact h
 ·have:=Zg h (xs.length-1) (by omega) ho;rw[show(((xs.length-1:Nat)):Int)=(xs.length:Int)-1 by omega]at this;exact this
theorem A9w(h:Dc 225 5 (Fc β) b o w cs t va vn vc xs)(hb:xs.length<=1000000)(ho:o<cs.size)(x:PV)(hx:x=xs.getLastD Ai):Calls Tryz.prog 197 #[.pointer (some ⟨b,o,none⟩)] w fun e w'=>e=.returned (.agg #[.int .i64 (x.k:Nat),.bool x.y,.int .i64 x.n,.string ⟨x.t.toArray⟩,.pointer (Ca β x)])/\Jl 225 5 (Fc β) b o w cs t va vn vc xs (xs.length-1) w':=by
 have lb:=A4 h.blk;have HKeep:=A0 (fun(W:World) (hW:Below w.heap.size w W)=>h.keep (w':=W) hW.block);have HT:=A0 (fun(W:World) (hs:Dc 225 5 (Fc β) b o W cs t va vn vc xs)=>Wv hs hb x hx);have HL:=A0 (fun(W:World) (hs:Dc 225 5 (Fc β) b o W cs t va vn vc xs)=>W9 hs);have HC:=A0 (fun(W:World) (hs:Dc 225 5 (Fc β) b o W cs t va vn vc xs)=>Aeq hs ho);have HRl:=A0 (Bs h.own);clear h hx;have Bi:Below w.heap.size w (w.alloc (.cells #[.int .i64 0,.bool false,.int .i64 0,.string ⟨#[]⟩,.pointer none] 225)):=Below.alloc (Below.refl _ _) (Nat.le_refl _) _;have Ae:=A0 Bi;clear Bi;go_enter Tryz.func197,Tryz.ntmps197;go_wp2_with fail
 refine(HT.o _ (HKeep.o _ Ae.o)).mono ?_;rintro e w1 ⟨rfl,A1⟩;have hR1:=Fq A1 (heap_alloc_new w (.cells #[.int .i64 0,.bool false,.int .i64 0,.string ⟨#[]⟩,.pointer none] 225));have A5:Hid (Below w.heap.size w w1):=Ae.o.trans (A1.mono (by simp));have F5:=A0 hR1;have Ea:=A4 hR1;clear A1 hR1;go_wp2_with fail
 have A8:Below w.heap.size w (w1.alloc (.cells #[.int .i64 (x.k:Nat),.bool x.y,.int .i64 x.n,.string ⟨x.t.toArray⟩,.pointer (Ca β x)] 225)):=Below.alloc A5.o (by omega) _;refine(HL.o _ (HKeep.o _ A8)).mono ?_;rintro e w2 ⟨rfl,G4⟩;have Ef:w2.heap[w.heap.size]?=some (.cells #[.int .i64 0,.bool false,.int .i64 0,.string ⟨#[]⟩,.pointer none] 225 (0,0)):=by rw[G4];exact alloc_old F5.o
 have J8:w2.heap[w1.heap.size]?=some (.cells #[.int .i64 (x.k:Nat),.bool x.y,.int .i64 x.n,.string ⟨x.t.toArray⟩,.pointer (Ca β x)] 225 (0,0)):=by rw[G4];exact heap_alloc_new _ _
 have hB2:Below w.heap.size w w2:=by rw[G4];exact A8
 have C9:=A0 Ef;have I6:=A0 J8;have Aa:=A0 hB2;have F2:=A0 (HC.o _ (HKeep.o _ hB2));clear G4 A8 Ef J8 hB2;go_wp2_with fail
 refine F2.o.mono ?_;rintro e w3 ⟨rfl,Bx,hf3⟩;have hlw2:=A4 I6.o;have hrow:∀k,w.heap.size<=k->(Value.slice va vn vc).ownBlock≠some k:=fun k hk e=>by have:=HRl.o k e;omega
 have I3:=(hf3.block w.heap.size (A4 C9.o) (by omega) (hrow _ (Nat.le_refl _))).trans C9.o;have Ik:=(hf3.block w1.heap.size hlw2 (by omega) (hrow _ (by omega))).trans I6.o;have r0:=A2 I3 0 _ rfl;have q0:=A2 Ik 0 _ rfl;have r1:=A2 I3 1 _ rfl;have q1:=A2 Ik 1 _ rfl;have r2:=A2 I3 2 _ rfl;have q2:=A2 Ik 2 _ rfl;have r3:=A2 I3 3 _ rfl;have q3:=A2 Ik 3 _ rfl;have r4:=A2 I3 4 _ rfl;have q4:=A2 Ik 4 _ rfl;have fr:=Bd I3;have lr:=A4 I3;have lq:=A4 Ik;have Bh:=A0 Bx;have HF3:=A0 hf3;have HRow:=A0 hrow;clear Bx hf3 hrow I3 Ik hlw2;go_wp2;refine bodyPost_ret (v:=.agg #[.int .i64 (x.k:Nat),.bool x.y,.int .i64 x.n,.string ⟨x.t.toArray⟩,.pointer (Ca β x)]) (by simp[results,Tryz.results197,go_sem,r0,r1,r2,r3,r4]) rfl ⟨rfl,?_⟩;have hcut:=Jl.res ⟨Bh.o,HF3.o⟩ Aa.o;repeat (first|exact hcut|refine Jl.set ?_ lb HRl.o (Nat.le_refl _) _)
theorem Ai6(h:Dc 225 5 (Fc β) b o w cs t va vn vc xs)(i:Int)(hi:i<0\/(xs.length:Int)<=i)(u:PV):Calls Tryz.prog 196 #[.pointer (some ⟨b,o,none⟩),.int .i64 i,.agg #[.int .i64 (u.k:Nat),.bool u.y,.int .i64 u.n,.string ⟨u.t.toArray⟩,.pointer (Ca β u)]] w fun e w'=>e=.returned (.tuple #[])/\Below w.heap.size w w':=by
 have c:=Di h.blk h.cell;have lb:=A4 h.blk;have hv:vn=xs.length:=(C8 h.own).1;subst hv;clear h;have Bi:Below w.heap.size w (w.alloc (.cells #[.int .i64 (u.k:Nat),.bool u.y,.int .i64 u.n,.string ⟨u.t.toArray⟩,.pointer (Ca β u)] 225)):=Below.alloc (Below.refl _ _) (Nat.le_refl _) _;by_cases h0:i<0
 ·have t0:decide (0<=i)=false:=decide_eq_false (by omega);clear hi;go_enter Tryz.func196,Tryz.ntmps196;go_wp2;go_end0;exact⟨rfl,Bi⟩
 ·have h1:(xs.length:Int)<=i:=by omega
  clear hi;go_enter Tryz.func196,Tryz.ntmps196;go_wp2;go_end0;exact⟨rfl,Bi⟩
theorem A5j(h:Dc 225 5 (Fc β) b o w cs t va vn vc xs)(i:Nat)(hi:i<xs.length)(u:PV):Calls Tryz.prog 196 #[.pointer (some ⟨b,o,none⟩),.int .i64 (i:Nat),.agg #[.int .i64 (u.k:Nat),.bool u.y,.int .i64 u.n,.string ⟨u.t.toArray⟩,.pointer (Ca β u)]] w fun e w'=>e=.returned (.tuple #[])/\Mt 225 5 (Fc β) b o w cs t va vn vc (xs.set i u) w':=by
 have c:=Di h.blk h.cell;have lb:=A4 h.blk;have hv:vn=xs.length:=(C8 h.own).1;subst hv;have hput:=h.putRow (w:=w) (fun _=>rfl) i hi u (Below.refl _ _);obtain⟨hl,⟨h2,h3⟩|⟨g,cap,cur,hv,_,hg,hcap',hmx,hsz,ht⟩⟩:=h.own
 ·omega
 injection hv with e1 e2 e3;subst e1 e3;have HPut:=A0 (hput g rfl);have hgb:g≠b:=fun e=>h.ne (by rw[←e];rfl);have fg:=Bd hg;have lg:=A4 hg;have y0:w.cell? ⟨g,i*5+0,none⟩=some (cur[i*5+0]):=by rw[cell_of_row w g (i*5+0) cur _ _ hg,Array.getElem?_eq_getElem (by omega)]
 generalize cur[i*5+0]=z0 at y0;have y1:w.cell? ⟨g,i*5+1,none⟩=some (cur[i*5+1]):=by rw[cell_of_row w g (i*5+1) cur _ _ hg,Array.getElem?_eq_getElem (by omega)]
 generalize cur[i*5+1]=z1 at y1;have y2:w.cell? ⟨g,i*5+2,none⟩=some (cur[i*5+2]):=by rw[cell_of_row w g (i*5+2) cur _ _ hg,Array.getElem?_eq_getElem (by omega)]
 generalize cur[i*5+2]=z2 at y2;have y3:w.cell? ⟨g,i*5+3,none⟩=some (cur[i*5+3]):=by rw[cell_of_row w g (i*5+3) cur _ _ hg,Array.getElem?_eq_getElem (by omega)]
 generalize cur[i*5+3]=z3 at y3;have y4:w.cell? ⟨g,i*5+4,none⟩=some (cur[i*5+4]):=by rw[cell_of_row w g (i*5+4) cur _ _ hg,Array.getElem?_eq_getElem (by omega)]
 generalize cur[i*5+4]=z4 at y4;rw[Nat.add_zero]at y0;clear h hput ht hsz hmx hg hl;go_enter Tryz.func196,Tryz.ntmps196;go_wp2;go_region
 all_goals go_wp2
 all_goals go_end0
 all_goals exact⟨rfl,Mt.drew (HPut.o.alloc lb (fun k hk=>by simp only[Value.ownBlock,Option.some.injEq]at hk;rw[←hk];exact lg) _)⟩
end
end Go.Proofs.YtjdlndhfaaolaaaGreatDoor
