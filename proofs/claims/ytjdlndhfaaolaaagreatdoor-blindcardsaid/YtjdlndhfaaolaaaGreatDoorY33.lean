import Derived.Test.YtjdlndhfaaolaaaGreatDoorY32
set_option maxHeartbeats 20000000
set_option linter.all false
namespace Go.Proofs.YtjdlndhfaaolaaaGreatDoor
section
open Go.RowKit
open Go.Deep (BT)
def C0{α:Type}(f:α->List Value)(xs:List α):List Value:=xs.flatMap f
variable {α:Type} {f:α->List Value} {sz:Nat}
def Ru(x:α)(r:List α):C0 f (x::r)=f x++C0 f r:=by simp[C0]
def T8(a b:List α):C0 f (a++b)=C0 f a++C0 f b:=by simp[C0]
def Wh(x:α):C0 f [x]=f x:=by simp[C0]
def Nw(hf:∀x,(f x).length=sz)(xs:List α):(C0 f xs).length=xs.length*sz:=by
 induction xs with
 | nil=>simp[C0]
 | cons x r ih=>rw[Ru,Ds,ih,hf,Il,Mm];omega
def D8(hf:∀x,(f x).length=sz)(xs:List α):∀(i j:Nat) (h:i<xs.length),j<sz->(C0 f xs)[i*sz+j]?=(f xs[i])[j]?:=by
 induction xs with
 | nil=>intro i j h;simp at h
 | cons x r ih=>
  intro i j h hj;rw[Ru];have hl:=hf x;cases i with
  | zero=>rw[Ou z4ma];simp
  | succ i=>
   rw[Th (by rw[hl,Mm];omega),hl,show(i+1)*sz+j-sz=i*sz+j by rw[Mm];omega];exact ih i j z5qa hj
def A23(hf:∀x,(f x).length=sz):∀(xs:List α) (m:Nat),(C0 f xs).take (m*sz)=C0 f (xs.take m):=by
 intro xs;induction xs with
 | nil=>intro m;simp[C0]
 | cons x r ih=>
  intro m;cases m with
  | zero=>simp[C0]
  | succ m=>rw[Ru,Jh,Ru,show(m+1)*sz=(f x).length+m*sz by rw[hf,Mm];omega,Aav,ih]
def Yn(hf:∀x,(f x).length=sz)(y:α):∀(xs:List α) (i:Nat),i<xs.length->C0 f (xs.set i y)=(C0 f xs).take (i*sz)++f y++(C0 f xs).drop ((i+1)*sz):=by
 intro xs;induction xs with
 | nil=>intro i h;simp at h
 | cons x r ih=>
  intro i h;have hl:=hf x;cases i with
  | zero=>rw[List.set_cons_zero,Ru,Ru,Nat.zero_mul,J1,Se,Tf,V5,←hl,List.drop_left]
  | succ i=>
   have e1:(f x++C0 f r).take ((i+1)*sz)=f x++(C0 f r).take (i*sz):=by rw[show(i+1)*sz=(f x).length+i*sz by rw[hl,Mm];omega,Aav]
   have e2:(f x++C0 f r).drop ((i+1+1)*sz)=(C0 f r).drop ((i+1)*sz):=by rw[show(i+1+1)*sz=(f x).length+(i+1)*sz by rw[hl,Mm (i+1)];omega,List.drop_length_add_append]
   rw[List.set_cons_succ,Ru,Ru,ih i z5qa,e1,e2];simp only[Gv]
structure E0 {α : Type} (T : TypeId) (sz : Nat) (f : α -> List Value) (b o : Nat) (w : World) (cs : Array Value) (t : TypeId) (va : Option Addr) (vn vc : Nat) (xs : List α) : Prop where
 blk:w.heap[b]?=some (.cells cs t (0,0))
 cell:cs[o]?=some (.slice va vn vc)
 own:w.ownsRow 0 T sz (.slice va vn vc) xs.length (C0 f xs)
 ne:(Value.slice va vn vc).ownBlock≠some b
def Zv{α:Type}(T:TypeId)(sz:Nat)(f:α->List Value)(b o:Nat)(w:World)(cs:Array Value)(t:TypeId)(va:Option Addr)(vn vc:Nat)(xs:List α)(u:α)(w':World):Prop:=
 ∃g cap,E0 T sz f b o w' (cs.setIfInBounds o (.slice (some ⟨g,0,none⟩) (xs.length+1) cap)) t (some ⟨g,0,none⟩) (xs.length+1) cap (xs++[u])/\((Value.slice va vn vc).ownBlock=some g\/w.heap.size<=g)/\Gm b (Value.slice va vn vc).ownBlock w w'
def Ll{α:Type}(T:TypeId)(sz:Nat)(f:α->List Value)(b o:Nat)(w:World)(cs:Array Value)(t:TypeId)(va:Option Addr)(vn vc:Nat)(xs:List α)(m:Nat)(w':World):Prop:=
 E0 T sz f b o w' (cs.setIfInBounds o (.slice va m vc)) t va m vc (xs.take m)/\Gm b (Value.slice va vn vc).ownBlock w w'
def E0.keep{α:Type}{T:TypeId}{sz:Nat}{f:α->List Value}{b o:Nat}{w w':World}{cs:Array Value}{t:TypeId}{va:Option Addr}{vn vc:Nat}{xs:List α}(h:E0 T sz f b o w cs t va vn vc xs)(hk:∀g,g<w.heap.size->w'.heap[g]?=w.heap[g]?):E0 T sz f b o w' cs t va vn vc xs:=
 ⟨(hk b (A6 h.blk)).trans h.blk,h.cell,Bc h.own (fun g _ hl=>hk g hl),h.ne⟩
def Gm.below{b:Nat}{row:Option Nat}{w w1 w2:World}(hb:Bw w w1)(h:Gm b row w1 w2):Gm b row w w2:=
 ⟨h.os.trans hb.os,h.tape.trans hb.tape,h.output.trans hb.output,Fu hb.size h.size,fun k hk h1 h2=>(h.block k (Cb hk hb.size) h1 h2).trans (hb.block k hk)⟩
def Y7(g:Nat)(t:TypeId)(fr:Nat×Nat):∀(vs:List Value) (o:Nat) (cur:Array Value) (w:World),w.heap[g]?=some (.cells cur t fr)->o+vs.length<=cur.size->
  ∃cur',(w.setCells g o vs).heap[g]?=some (.cells cur' t fr)/\cur'.size=cur.size/\cur'.toList=cur.toList.take o++vs++cur.toList.drop (o+vs.length):=by
 intro vs;induction vs with
 | nil=>intro o cur w h hl;exact⟨cur,h,rfl,by simp⟩
 | cons v r ih=>
  intro o cur w h hl;simp only[Il]at hl;obtain⟨cur',h1,h2,h3⟩:=ih (o+1) _ _ (heap_set (j:=o) h v) z4qa;refine⟨cur',h1,by rw[h2];simp,?_⟩;rw[h3];simp only[V4,Il];have hol:o<cur.toList.length:=by simp;omega
  rw[List.drop_set_of_lt z4ma,X4 (by simpa using hol),A39 (Af _)];simp only[Aaw,Gv,List.cons_append,Se];rw[show o+1+r.length=o+(r.length+1) by omega]
def A9q{α:Type}(C B:List α)(a b n:Nat)(hab:a+B.length=b)(hbn:b<=n)(hn:n<=C.length):(C.take a++B++C.drop b).take n=(C.take n).take a++B++(C.take n).drop b:=by
 have hl:(C.take a++B).length=b:=by simp;omega
 have e1:(C.take a++B++C.drop b).take n=(C.take a++B)++(C.drop b).take (n-b):=by
  rw[List.take_append,Ot z4ma,hl]
 rw[e1,Sd,Hp z4ma,List.drop_take]
def Q7{α:Type}(T:TypeId)(sz:Nat)(f:α->List Value)(b o:Nat)(w:World)(cs:Array Value)(t:TypeId)(va:Option Addr)(vn vc:Nat)(ys:List α)(w':World):Prop:=
 E0 T sz f b o w' cs t va vn vc ys/\Gm b (Value.slice va vn vc).ownBlock w w'
def z3ja {P:Prop} (h:P:=by
  rw[Lc,k3,Yn hf u xs i hi,←ht,hf,←hadd];exact A9q _ _ _ _ _ (by rw[hf];omega) hin z4ma):P:=h
def E0.putRow{α:Type}{T:TypeId}{sz:Nat}{f:α->List Value}{b o:Nat}{w w0:World}{cs:Array Value}{t:TypeId}{va:Option Addr}{vn vc:Nat}{xs:List α}(h:E0 T sz f b o w0 cs t va vn vc xs)(hf:∀x,(f x).length=sz)(i:Nat)(hi:i<xs.length)(u:α)(hb:Bw w w0) :
  ∀g,va=some ⟨g,0,none⟩->Q7 T sz f b o w cs t va vn vc (xs.set i u) (w0.setCells g (i*sz) (f u)):=by
 intro g hg;subst hg;obtain⟨hl,⟨h2,h3⟩|⟨g',cap,cur,hv,_,hgc,hcap,hmx,hsz,ht⟩⟩:=h.own
 ·cases h2
 injection hv with e1 e2 e3;injection e1 with e1;injection e1 with e1;subst e1 e3;have hin:(i+1)*sz<=xs.length*sz:=O5 _ hi;have hin2:xs.length*sz<=vc*sz:=O5 _ hcap;have hadd:(i+1)*sz=i*sz+sz:=by rw[Mm,V5]
 obtain⟨cur',k1,k2,k3⟩:=Y7 g T (0,0) (f u) (i*sz) cur w0 hgc (by rw[hf];omega);obtain⟨f1,f2,f3,f4,f5⟩:=N0 g (f u) (i*sz) w0;have hgb:g≠b:=fun e=>h.ne z5ia;refine⟨⟨(f5 b (fun e=>hgb e.symm)).trans h.blk,h.cell,⟨by rw[Nw hf],.inr ⟨g,vc,cur',?_,De _,k1,?_,hmx,by rw[k2];exact hsz,?_⟩⟩,h.ne⟩,⟨f1.trans hb.os,f2.trans hb.tape,f3.trans hb.output,by rw[f4];exact hb.size,fun k hk h1 h2=>(f5 k (fun e=>h2 (by rw[e];rfl))).trans (hb.block k hk)⟩⟩
 ·rw[Lc,e2]
 ·rw[Lc];exact hcap
 ·have hcl:cur.toList.length=vc*sz:=by simpa using hsz
  exact z3ja
def Q7.alloc{α:Type}{T:TypeId}{sz:Nat}{f:α->List Value}{b o:Nat}{w w3:World}{cs:Array Value}{t:TypeId}{va:Option Addr}{vn vc:Nat}{ys:List α}(h:Q7 T sz f b o w cs t va vn vc ys w3)(hl:b<w.heap.size)(hr:∀k,(Value.slice va vn vc).ownBlock=some k->k<w.heap.size)(x:Obj):Q7 T sz f b o w cs t va vn vc ys (w3.alloc x):=by
 have hk:∀k,k<w.heap.size->(w3.alloc x).heap[k]?=w3.heap[k]?:=fun k hk=>Ck _ _ _ (Cb hk h.2.size);exact⟨⟨(hk b hl).trans h.1.blk,h.1.cell,Bc h.1.own (fun k hk' _=>hk k (hr k hk')),h.1.ne⟩,⟨h.2.os,h.2.tape,h.2.output,by simp;have:=h.2.size;omega,fun k h1 h2 h3=>(hk k h1).trans (h.2.block k h1 h2 h3)⟩⟩
def Q7.drew{α:Type}{T:TypeId}{sz:Nat}{f:α->List Value}{b o:Nat}{w w3:World}{cs:Array Value}{t:TypeId}{va:Option Addr}{vn vc:Nat}{ys:List α}(h:Q7 T sz f b o w cs t va vn vc ys w3):Q7 T sz f b o w cs t va vn vc ys w3.drew:=
 ⟨⟨h.1.blk,h.1.cell,Bc h.1.own (fun _ _ _=>rfl),h.1.ne⟩,⟨h.2.os,h.2.tape,h.2.output,h.2.size,h.2.block⟩⟩
def Ll.res{α:Type}{T:TypeId}{sz:Nat}{f:α->List Value}{b o:Nat}{w w2 w3:World}{cs:Array Value}{t:TypeId}{va:Option Addr}{vn vc:Nat}{xs:List α}{m:Nat}(h:Ll T sz f b o w2 cs t va vn vc xs m w3)(hb:Bw w w2):Ll T sz f b o w cs t va vn vc xs m w3:=⟨h.1,Gm.below hb h.2⟩
def Ll.set{α:Type}{T:TypeId}{sz:Nat}{f:α->List Value}{b o:Nat}{w w3:World}{cs:Array Value}{t:TypeId}{va:Option Addr}{vn vc:Nat}{xs:List α}{m:Nat}(h:Ll T sz f b o w cs t va vn vc xs m w3)(hl:b<w.heap.size)(hr:∀k,(Value.slice va vn vc).ownBlock=some k->k<w.heap.size){p:Addr}(hp:w.heap.size<=p.block)(v:Value):Ll T sz f b o w cs t va vn vc xs m (w3.setCell p v):=by
 have hk:∀k,k<w.heap.size->(w3.setCell p v).heap[k]?=w3.heap[k]?:=fun k hk=>Bh _ _ _ _ z4ma;exact⟨⟨(hk b hl).trans h.1.blk,h.1.cell,Bc h.1.own (fun k hk' _=>hk k (hr k ((P2 _ _ _ _).trans hk'))),h.1.ne⟩,⟨h.2.os,h.2.tape,h.2.output,by simp[World.setCell];exact h.2.size,fun k h1 h2 h3=>(hk k h1).trans (h.2.block k h1 h2 h3)⟩⟩
def U8{α:Type}(z:α)(xs:List α):xs.getLastD z=if((xs.length:Int)-1)<0 then z else(xs[((xs.length:Int)-1).toNat]?).getD z:=by
 rw[Sf,Zi];by_cases h:xs.length=0
 ·rw[Mn,N6 z4ma];rfl
 ·rw[Ai,show((xs.length:Int)-1).toNat=xs.length-1 by omega]
def Aaq(z:Array Value)(n:Nat):(Builtin.zeroCells z n).toList.length=n*z.size:=by simp[Builtin.zeroCells]
def Axn{z:Array Value}(hz:0<z.size)(h1:∀v∈z.toList,v.oneCell'=true)(n:Nat):∀v∈(Builtin.zeroCells z n).toList,v.oneCell'=true:=by
 intro v hv;simp only[Builtin.zeroCells,Array.toList_map,Qu]at hv;obtain⟨i,_,rfl⟩:=hv;have hlt:i % z.size<z.size:=Nat.mod_lt _ hz;rw[getElem!_pos z _ hlt];exact h1 _ (Array.getElem_mem_toList hlt)
def A25{P:Program}(w:World)(t e ty:TypeId)(z:Value)(ht:P.underlying t=some (.slice e))(hv:∀w,(zeroValue e).run P w=.ok z w)(hz:0<z.cells.size)(h1:∀v∈z.cells.toList,v.oneCell'=true)(b o n c:Nat)(hn:0<n)
  (hc:∀j,j<n*z.cells.size->(w.cell? ⟨b,o+j,none⟩).isSome=true) (hf:∀j,j<n*z.cells.size->w.frozen? ⟨b,o+j,none⟩=false) :
  (Builtin.clear_ #[t] ty #[.slice (some ⟨b,o,none⟩) n c]).run P w=.ok (.tuple #[]) (w.setCells b o (Builtin.zeroCells z.cells n).toList):=by
 have hst:=run_storeCells_cells (P:=P) b o (Builtin.zeroCells z.cells n).toList 0 w (by rw[Aaq];simpa using hc) (by rw[Aaq];simpa using hf) (Axn hz h1 n);simp only[Ma]at hst;obtain⟨m,rfl⟩:∃m,n=m+1:=⟨n-1,by omega⟩;simp[Builtin.clear_,P7 ht,hv,hst]
end
section
set_option maxRecDepth 100000
open Go.RowKit
open Go.Deep (BT)
variable {β:Nat->Nat}{b o:Nat}{w:World}{cs:Array Value}{t:TypeId}{va:Option Addr}{vn vc:Nat}{xs:List PV}
def Bf(β:Nat->Nat)(v:PV):Option Addr:=match v.r with
 | none=>none
 | some i=>some ⟨β i,0,none⟩
def Cj(β:Nat->Nat)(v:PV):List Value:=[.n v.k,.bool v.y,.i v.n,.s v.t,.pointer (Bf β v)]
def Ya:(Tryz.prog.info? 225).map (fun i=>(i.zero,i.size,i.bytes))=some (some (.agg #[.i 0,.bool false,.i 0,.string ⟨#[]⟩,.pointer none]),5,48):=by kernel_rfl
def A2z(h:E0 225 5 (Cj β) b o w cs t va vn vc xs):Calls Tryz.prog 98 #[.pointer (some ⟨b,o,none⟩)] w fun e w'=>e=.returned (.n xs.length)/\w'=w:=by
 exact z4da
def Avt(h:E0 225 5 (Cj β) b o w cs t va vn vc xs)(i:Nat)(hi:i<xs.length)(hb:xs.length<=100000000000):Calls Tryz.prog 195 #[.pointer (some ⟨b,o,none⟩),.int .i64 (i:Nat)] w fun e w'=>e=.returned (.agg #[.int .i64 ((xs[i]).k:Nat),.bool (xs[i]).y,.int .i64 (xs[i]).n,.string ⟨(xs[i]).t.toArray⟩,.pointer (Bf β (xs[i]))])/\Bw w w':=by
 have c:=E6 h.blk h.cell;have lb:=A6 h.blk;have hv:vn=xs.length:=(Cm h.own).1;subst hv;obtain⟨g,rfl,hvn9,hcap,lg,hcell⟩:=G1 h.own z4ma;have d0:=hcell (i*5+0) _ ((D8 (sz:=5) (fun _=>rfl) xs i 0 hi z4ma).trans rfl);have d1:=hcell (i*5+1) _ ((D8 (sz:=5) (fun _=>rfl) xs i 1 hi z4ma).trans rfl);have d2:=hcell (i*5+2) _ ((D8 (sz:=5) (fun _=>rfl) xs i 2 hi z4ma).trans rfl);have d3:=hcell (i*5+3) _ ((D8 (sz:=5) (fun _=>rfl) xs i 3 hi z4ma).trans rfl);have d4:=hcell (i*5+4) _ ((D8 (sz:=5) (fun _=>rfl) xs i 4 hi z4ma).trans rfl);rw[Ma]at d0;generalize xs[i]=x at *;go_in;go_wp2;refine B9 (v:=.agg #[.int .i64 (x.k:Nat),.bool x.y,.int .i64 x.n,.string ⟨x.t.toArray⟩,.pointer (Bf β x)]) (by simp[results,Tryz.results195,go_sem]) rfl ⟨rfl,?_⟩;exact Ah (Al _ _) (Af _) _
def z27a {P:Prop} (h:P:=by
  go_wp2;refine B9 (v:=.agg #[.i 0,.bool false,.i 0,.string ⟨#[]⟩,.pointer none]) (by simp[results,Tryz.results195,go_sem]) rfl ⟨rfl,?_⟩;exact z09a):P:=h
def Aa9(h:E0 225 5 (Cj β) b o w cs t va vn vc xs)(i:Int)(hi:i<0\/(xs.length:Int)<=i):Calls Tryz.prog 195 #[.pointer (some ⟨b,o,none⟩),.i i] w fun e w'=>e=.returned (.agg #[.i 0,.bool false,.i 0,.string ⟨#[]⟩,.pointer none])/\Bw w w':=by
 have c:=E6 h.blk h.cell;have lb:=A6 h.blk;have hv:vn=xs.length:=(Cm h.own).1;subst hv;by_cases h0:i<0
 ·clear hi;go_in;exact z27a
 ·have h1:(xs.length:Int)<=i:=by omega
  go_in;exact z27a
def z2va {P:Prop} (h:P:=by
  rw[show((i.toNat:Nat):Int)=i by omega]at this;rw[hx];exact this):P:=h
def A2y(h:E0 225 5 (Cj β) b o w cs t va vn vc xs)(i:Int)(hb:xs.length<=100000000000)(x:PV)(hx:x=if i<0 then Bb else(xs[i.toNat]?).getD Bb):Calls Tryz.prog 195 #[.pointer (some ⟨b,o,none⟩),.int .i64 i] w fun e w'=>e=.returned (.agg #[.int .i64 (x.k:Nat),.bool x.y,.int .i64 x.n,.string ⟨x.t.toArray⟩,.pointer (Bf β x)])/\Below w.heap.size w w':=by
 by_cases h0:i<0
 ·rw[A7 h0]at hx;subst hx;exact Aa9 h i (.inl h0)
 ·rw[A1 h0]at hx;by_cases h1:i.toNat<xs.length
  ·rw[Eh h1]at hx;have:=Avt h i.toNat h1 hb;exact z2va
  ·rw[N6 z4ma]at hx;subst hx;exact Aa9 h i (.inr z4ma)
def z0da {P:Prop} (h:P:=by
  have hgb:g≠b:=by
   rcases HAt.o with e|e
   ·intro e2;rw[e2]at e;exact HNe.o e
   ·omega
  refine⟨rfl,g,cap,⟨heap_set A9.o _,?_,?_,by simp only[Value.ownBlock,La,Cg];exact hgb⟩,HAt.o.imp id (fun e=>by omega),⟨HGrow.o.os.trans Ag.o.os,HGrow.o.tape.trans Ag.o.tape,HGrow.o.output.trans Ag.o.output,by have:=HGrow.o.size;have:=HXb.o;simp[World.setCell];omega,fun k hk hkb hkr=>?_⟩⟩
  ·rw[N5,A7 rfl,A7 ho]
  ·rw[Ds,T8,Wh];exact z3fa
  ·have hkx:=HXb.o;exact((Bh _ _ _ _ (by exact hkb)).trans (HGrow.o.block k z4ma (fun e=>hkr e.symm))).trans (Ag.o.block k z4ma)):P:=h
def Avu(h:E0 225 5 (Cj β) b o w cs t va vn vc xs)(hn:xs.length<=99999999999)(u:PV)(ho:o<cs.size):Calls Tryz.prog 99 #[.pointer (some ⟨b,o,none⟩),.agg #[.n u.k,.bool u.y,.i u.n,.s u.t,.pointer (Bf β u)]] w fun e w'=>e=.returned (.tuple #[])/\Zv 225 5 (Cj β) b o w cs t va vn vc xs u w':=by
 have Ir:E0 225 5 (Cj β) b o (w.alloc (.cells #[.n u.k,.bool u.y,.i u.n,.s u.t,.pointer (Bf β u)] 225)) cs t va vn vc xs:=h.keep (fun g hg=>Ck _ _ _ hg);have Bq:Bw w (w.alloc (.cells #[.n u.k,.bool u.y,.i u.n,.s u.t,.pointer (Bf β u)] 225)):=Ah (Al _ _) (Af _) _;have Fz:=Bp w (.cells #[.n u.k,.bool u.y,.i u.n,.s u.t,.pointer (Bf β u)] 225);have hlr:=Bs h.own;clear h;generalize hW:w.alloc (.cells #[.n u.k,.bool u.y,.i u.n,.s u.t,.pointer (Bf β u)] 225)=w0 at *;generalize hxb:w.heap.size=xb at *;have HW:=A0 hW;have HXb:=A0 hxb;have Ag:=A0 Bq;have hsz0:=Bq.size;clear hW Bq;have c:=E6 Ir.blk Ir.cell;have lb:=A6 Ir.blk;have hv:vn=xs.length:=(Cm Ir.own).1;subst hv;have x0:=A4 Fz 0 _ rfl;have x1:=A4 Fz 1 _ rfl;have x2:=A4 Fz 2 _ rfl;have x3:=A4 Fz 3 _ rfl;have x4:=A4 Fz 4 _ rfl;have lx:=A6 Fz;have hown:w0.drew.ownsRow 0 225 5 (.slice va xs.length vc) xs.length (C0 (Cj β) xs):=Bc Ir.own (fun _ _ _=>rfl);have HH:=A0 Ir;have HNe:=A0 Ir.ne;have HLr:=A0 hlr;clear Ir Fz hxb hlr;go_in;go_wp2;rw[HW.o,HXb.o];go_region_law (refine Pt _ w0.heap.size #[.n u.k,.bool u.y,.i u.n,.s u.t,.pointer (Bf β u)] 225 (Bp w0.drew _) rfl (.tmp 8) (.tmp 10) 158 rfl 0 5 48 _ Tryz.underlying158 Ya rfl z4ma (.slice va xs.length vc) xs.length (C0 (Cj β) xs) rfl rfl (hown.alloc _) rfl (fun v hv=>by simp at hv;rcases hv with rfl|rfl|rfl|rfl|rfl <;> rfl) z4ma z4ma (De _) ?_;intro g cap w1 Ev hgrow' hat' hg;have Fy:=Oh (Oo w0.drew _ none) hgrow';have hgrow:w0.grownBy w1 (Value.slice va xs.length vc).ownBlock:=⟨Fy.os,Fy.tape,Fy.output,Fy.size,Fy.block⟩;clear Fy;have hat:(Value.slice va xs.length vc).ownBlock=some g\/w0.heap.size<=g:=hat'.imp id (fun e=>by rw[e];simp);have A2:=(hgrow.block b lb (fun e=>HNe.o e.symm)).trans HH.o.blk;have c1:=E6 A2 HH.o.cell;have f1:=By A2;have Bn:=A6 A2;have A9:=A0 A2;have HOwn1:=A0 Ev;have HGrow:=A0 hgrow;have HAt:=A0 hat;clear A2 Ev hgrow hat hgrow' hat')
 all_goals go_wp2
 all_goals go_end0
 all_goals
  exact z0da
def z37a {P:Prop} (h:P:=by
  exact(hset k hkb).trans (p5 k (fun e=>hkr (by rw[e];rfl)))):P:=h
def Aa7(h:E0 225 5 (Cj β) b o w cs t va vn vc xs)(m:Nat)(hm:m<=xs.length)(ho:o<cs.size):Calls Tryz.prog 205 #[.pointer (some ⟨b,o,none⟩),.int .i64 (m:Nat)] w fun e w'=>e=.returned (.tuple #[])/\Ll 225 5 (Cj β) b o w cs t va vn vc xs m w':=by
 have c:=E6 h.blk h.cell;have lb:=A6 h.blk;have hv:vn=xs.length:=(Cm h.own).1;subst hv;have fz:=By h.blk;have HNe:=A0 h.ne;by_cases he:m=xs.length
 ·subst he;go_in;go_wp2;refine B9 (v:=.tuple #[]) (by simp[results,Tryz.results205,go_sem]) rfl ⟨rfl,?_,Gm.refl _ _ _⟩;rw[Qo h.cell,Q1];exact h
 ·obtain⟨hl,⟨h2,h3⟩|⟨g,cap,cur,hv,_,hg,hcap',hmx,hsz,ht⟩⟩:=h.own
  ·omega
  ·injection hv with e1 e2 e3;subst e1 e3;have hgb:g≠b:=fun e=>h.ne z5ia;have fg:=By hg;have lg:=A6 hg;have hzs:(.agg #[.int .i64 0,.bool false,.int .i64 0,.string ⟨#[]⟩,.pointer none]:Value).cells.size=5:=rfl;have hmul:m*5+(xs.length-m)*5=xs.length*5:=by omega
   have hcs:∀j,j<(xs.length-m)*(.agg #[.int .i64 0,.bool false,.int .i64 0,.string ⟨#[]⟩,.pointer none]:Value).cells.size->(w.cell? ⟨g,m*5+j,none⟩).isSome=true:=by
    intro j hj;rw[hzs]at hj;rw[K2 w g (m*5+j) cur _ _ hg,Li z4ma];rfl
   have hcl:∀ty,(Builtin.clear_ #[158] ty #[.slice (some ⟨g,m*5,none⟩) (xs.length-m) (vc-m)]).run Tryz.prog w=.ok (.tuple #[]) (w.setCells g (m*5) (Builtin.zeroCells (.agg #[.int .i64 0,.bool false,.int .i64 0,.string ⟨#[]⟩,.pointer none]:Value).cells (xs.length-m)).toList):=
    fun ty=>A25 w 158 225 ty (.agg #[.int .i64 0,.bool false,.int .i64 0,.string ⟨#[]⟩,.pointer none]) Tryz.underlying158 Tryz.zeroValue225 (by rw[hzs];omega) (fun v hv=>by simp[Value.cells]at hv;rcases hv with rfl|rfl|rfl|rfl|rfl <;> rfl) g (m*5) (xs.length-m) (vc-m) z4ma hcs (fun j hj=>fg _)
   obtain⟨cur',k1,k2,k3⟩:=Su g 225 (0,0) (Builtin.zeroCells (.agg #[.int .i64 0,.bool false,.int .i64 0,.string ⟨#[]⟩,.pointer none]:Value).cells (xs.length-m)).toList (m*5) cur w hg;obtain⟨f1,f2,f3,f4,f5⟩:=N0 g (Builtin.zeroCells (.agg #[.int .i64 0,.bool false,.int .i64 0,.string ⟨#[]⟩,.pointer none]:Value).cells (xs.length-m)).toList (m*5) w;have A2:=(f5 b (fun e=>hgb e.symm)).trans h.blk;have HK3:=k3 (m*5) (Af _);have HF:=C3 f1 (C3 f2 (C3 f3 (C3 f4 f5)));have HSz:=k2.trans hsz;have hlen9:=hcap';have c1:=E6 A2 h.cell;have g1:=By A2;have Bn:=A6 A2;generalize w.setCells g (m*5) (Builtin.zeroCells (.agg #[.int .i64 0,.bool false,.int .i64 0,.string ⟨#[]⟩,.pointer none]:Value).cells (xs.length-m)).toList=w1 at *;go_in;go_wp2;go_end0;obtain⟨p1,p2,p3,p4,p5⟩:=HF;have hset:∀k,k≠b->(w1.setCell ⟨b,o,none⟩ (.slice (some ⟨g,0,none⟩) m vc)).heap[k]?=w1.heap[k]?:=fun k hk=>Bh _ _ _ _ z5ja;refine⟨rfl,⟨heap_set A2 _,?_,⟨?_,.inr ⟨g,vc,cur',?_,De _,(hset g hgb).trans k1,?_,hmx,HSz,?_⟩⟩,?_⟩,⟨p1,p2,p3,by simp[World.setCell];omega,fun k hk hkb hkr=>?_⟩⟩
   ·rw[N5,A7 rfl,A7 ho]
   ·exact Nw (f:=(Cj β)) (sz:=5) (fun _=>rfl) _
   ·rw[G3,Hp hm]
   ·rw[G3,Hp hm];omega
   ·rw[G3,Hp hm,HK3,←A23 (sz:=5) (fun _=>rfl),←ht,Sd,Hp z4ma]
   ·exact z3ca
   ·exact z37a
def z3va {P:Prop} (h:P:=by
  repeat (first|exact A9|refine Ah ?_ z4ra _|refine B0 ?_ z4ra _|refine B8 ?_)):P:=h
def Aab(h:E0 225 5 (Cj β) b o w cs t va vn vc xs)(hb:xs.length<=100000000000)(x:PV)(hx:x=xs.getLastD Bb):Calls Tryz.prog 200 #[.pointer (some ⟨b,o,none⟩)] w fun e w'=>e=.returned (.agg #[.n x.k,.bool x.y,.i x.n,.s x.t,.pointer (Bf β x)])/\Bw w w':=by
 have lb:=A6 h.blk;have HL:=A2z (h.keep (w':=w.alloc (.cells #[.i 0,.bool false,.i 0,.string ⟨#[]⟩,.pointer none] 225)) (fun g hg=>Ck _ _ _ hg));have HA:=A2y (h.keep (w':=w.alloc (.cells #[.i 0,.bool false,.i 0,.string ⟨#[]⟩,.pointer none] 225)) (fun g hg=>Ck _ _ _ hg)) ((xs.length:Int)-1) hb x (by rw[hx];exact U8 _ xs);clear h hx;go_in;go_wp2_with fail
 refine HL.mono ?_;rintro e w0 ⟨rfl,Dk⟩;subst Dk;go_wp2_with fail
 refine HA.mono ?_;rintro e w1 ⟨rfl,A2⟩;have hR:=Gn A2 (Bp w (.cells #[.i 0,.bool false,.i 0,.string ⟨#[]⟩,.pointer none] 225));have r0:=A4 hR 0 _ rfl;have r1:=A4 hR 1 _ rfl;have r2:=A4 hR 2 _ rfl;have r3:=A4 hR 3 _ rfl;have r4:=A4 hR 4 _ rfl;have fr:=By hR;have lr:=A6 hR;have A9:Bw w w1:=(Ah (Al _ _) (Af _) _).trans (A2.mono z4ra);clear A2 hR HL HA;go_wp2;refine B9 (v:=.agg #[.n x.k,.bool x.y,.i x.n,.s x.t,.pointer (Bf β x)]) (by simp[results,Tryz.results200,go_sem,r0,r1,r2,r3,r4]) rfl ⟨rfl,?_⟩;exact z3va
def z3ra {P:Prop} (h:P:=by
  go_wp2;refine B9 (v:=.tuple #[]) (by simp[results,Tryz.results205,go_sem]) rfl ⟨rfl,rfl⟩):P:=h
def Aa8(h:E0 225 5 (Cj β) b o w cs t va vn vc xs)(i:Int)(hi:i<0):Calls Tryz.prog 205 #[.pointer (some ⟨b,o,none⟩),.i i] w fun e w'=>e=.returned (.tuple #[])/\w'=w:=by
 have c:=E6 h.blk h.cell;have lb:=A6 h.blk;have hv:vn=xs.length:=(Cm h.own).1;subst hv;go_in;exact z3ra
def Avr(h:E0 225 5 (Cj β) b o w cs t va vn vc xs)(i:Int)(hi:(xs.length:Int)<=i):Calls Tryz.prog 205 #[.pointer (some ⟨b,o,none⟩),.i i] w fun e w'=>e=.returned (.tuple #[])/\w'=w:=by
 have c:=E6 h.blk h.cell;have lb:=A6 h.blk;have hv:vn=xs.length:=(Cm h.own).1;subst hv;have h0:¬i<0:=by omega
 go_in;exact z3ra
def z49a {P:Prop} (h:P:=by
  rw[show(((xs.length-1:Nat)):Int)=(xs.length:Int)-1 by omega]at this;exact this):P:=h
def z1la {P:Prop} (h:P:=by
  rintro e w' ⟨rfl,rfl⟩;have hvn:vn=xs.length:=(Cm h.own).1;refine⟨rfl,?_,Gm.refl _ _ _⟩;have hx:xs=[]:=X3.1 h0;subst hx;simp only[Jo]at hvn;subst hvn;show E0 _ _ _ b o w' (cs.setIfInBounds o (.slice va 0 vc)) t va 0 vc [];rw[Qo h.cell];exact h):P:=h
def Avs(h:E0 225 5 (Cj β) b o w cs t va vn vc xs)(ho:o<cs.size):Calls Tryz.prog 205 #[.pointer (some ⟨b,o,none⟩),.int .i64 ((xs.length:Int)-1)] w fun e w'=>e=.returned (.tuple #[])/\Ll 225 5 (Cj β) b o w cs t va vn vc xs (xs.length-1) w':=by
 by_cases h0:xs.length=0
 ·refine(Aa8 h _ z4ma).mono ?_;exact z1la
 ·have:=Aa7 h (xs.length-1) z4ma ho;exact z49a
def z3ea {P:Prop} (h:P:=by
  have hcut:=Ll.res ⟨Bu.o,HF3.o⟩ Ab.o;repeat (first|exact hcut|refine Ll.set ?_ lb HRl (Af _) _)):P:=h
def Aaa(h:E0 225 5 (Cj β) b o w cs t va vn vc xs)(hb:xs.length<=100000000000)(ho:o<cs.size)(x:PV)(hx:x=xs.getLastD Bb):Calls Tryz.prog 197 #[.pointer (some ⟨b,o,none⟩)] w fun e w'=>e=.returned (.agg #[.n x.k,.bool x.y,.i x.n,.s x.t,.pointer (Bf β x)])/\Ll 225 5 (Cj β) b o w cs t va vn vc xs (xs.length-1) w':=by
 have lb:=A6 h.blk;have HKeep:=fun(W:World) (hW:Bw w W)=>h.keep (w':=W) hW.block;have HT:=fun(W:World) (hs:E0 225 5 (Cj β) b o W cs t va vn vc xs)=>Aab hs hb x hx;have HL:=fun(W:World) (hs:E0 225 5 (Cj β) b o W cs t va vn vc xs)=>A2z hs;have HC:=fun(W:World) (hs:E0 225 5 (Cj β) b o W cs t va vn vc xs)=>Avs hs ho;have HRl:=Bs h.own;clear h hx;have Bq:Bw w (w.alloc (.cells #[.i 0,.bool false,.i 0,.string ⟨#[]⟩,.pointer none] 225)):=Ah (Al _ _) (Af _) _;have Ag:=A0 Bq;clear Bq;go_in;go_wp2_with fail
 refine(HT _ (HKeep _ Ag.o)).mono ?_;rintro e w1 ⟨rfl,A2⟩;have hR1:=Gn A2 (Bp w (.cells #[.i 0,.bool false,.i 0,.string ⟨#[]⟩,.pointer none] 225));have A9:Bw w w1:=Ag.o.trans (A2.mono z4ra);have HR1:=A0 hR1;have ls1:=A6 hR1;clear A2 hR1;go_wp2_with fail
 have Ad:Bw w (w1.alloc (.cells #[.n x.k,.bool x.y,.i x.n,.s x.t,.pointer (Bf β x)] 225)):=Ah A9 z4ma _;refine(HL _ (HKeep _ Ad)).mono ?_;rintro e w2 ⟨rfl,Gh⟩;have G7:w2.heap[w.heap.size]?=some (.cells #[.i 0,.bool false,.i 0,.string ⟨#[]⟩,.pointer none] 225 (0,0)):=by rw[Gh];exact alloc_old HR1.o
 have Kz:w2.heap[w1.heap.size]?=some (.cells #[.n x.k,.bool x.y,.i x.n,.s x.t,.pointer (Bf β x)] 225 (0,0)):=by rw[Gh];exact Bp _ _
 have hB2:Bw w w2:=by rw[Gh];exact Ad
 have Hx:=A0 G7;have HT2:=A0 Kz;have Ab:=A0 hB2;have Fx:=HC _ (HKeep _ hB2);clear Gh Ad G7 Kz hB2;go_wp2_with fail
 refine Fx.mono ?_;rintro e w3 ⟨rfl,Dc,hf3⟩;have hlw2:=A6 HT2.o;have hrow:∀k,w.heap.size<=k->(Value.slice va vn vc).ownBlock≠some k:=fun k hk e=>by have:=HRl k e;omega
 have Ki:=(hf3.block w.heap.size (A6 Hx.o) z4ma (hrow _ (Af _))).trans Hx.o;have Ka:=(hf3.block w1.heap.size hlw2 z4ma (hrow _ z4ma)).trans HT2.o;have r0:=A4 Ki 0 _ rfl;have q0:=A4 Ka 0 _ rfl;have r1:=A4 Ki 1 _ rfl;have q1:=A4 Ka 1 _ rfl;have r2:=A4 Ki 2 _ rfl;have q2:=A4 Ka 2 _ rfl;have r3:=A4 Ki 3 _ rfl;have q3:=A4 Ka 3 _ rfl;have r4:=A4 Ki 4 _ rfl;have q4:=A4 Ka 4 _ rfl;have fr:=By Ki;have lr:=A6 Ki;have lq:=A6 Ka;have Bu:=A0 Dc;have HF3:=A0 hf3;have HRow:=A0 hrow;clear Dc hf3 hrow Ki Ka hlw2;go_wp2;refine B9 (v:=.agg #[.n x.k,.bool x.y,.i x.n,.s x.t,.pointer (Bf β x)]) (by simp[results,Tryz.results197,go_sem,r0,r1,r2,r3,r4]) rfl ⟨rfl,?_⟩;exact z3ea
def Avw(h:E0 225 5 (Cj β) b o w cs t va vn vc xs)(i:Int)(hi:i<0\/(xs.length:Int)<=i)(u:PV):Calls Tryz.prog 196 #[.pointer (some ⟨b,o,none⟩),.i i,.agg #[.n u.k,.bool u.y,.i u.n,.s u.t,.pointer (Bf β u)]] w fun e w'=>e=.returned (.tuple #[])/\Bw w w':=by
 have c:=E6 h.blk h.cell;have lb:=A6 h.blk;have hv:vn=xs.length:=(Cm h.own).1;subst hv;have Bq:Bw w (w.alloc (.cells #[.n u.k,.bool u.y,.i u.n,.s u.t,.pointer (Bf β u)] 225)):=Ah (Al _ _) (Af _) _;by_cases h0:i<0
 ·have t0:decide (0<=i)=false:=O2 z4ma;go_in;go_wp2;go_end0;exact⟨rfl,Bq⟩
 ·have h1:(xs.length:Int)<=i:=by omega
  go_in;go_wp2;go_end0;exact⟨rfl,Bq⟩
def Avv(h:E0 225 5 (Cj β) b o w cs t va vn vc xs)(i:Nat)(hi:i<xs.length)(u:PV):Calls Tryz.prog 196 #[.pointer (some ⟨b,o,none⟩),.n i,.agg #[.n u.k,.bool u.y,.i u.n,.s u.t,.pointer (Bf β u)]] w fun e w'=>e=.returned (.tuple #[])/\Q7 225 5 (Cj β) b o w cs t va vn vc (xs.set i u) w':=by
 have c:=E6 h.blk h.cell;have lb:=A6 h.blk;have hv:vn=xs.length:=(Cm h.own).1;subst hv;have hput:=h.putRow (w:=w) (fun _=>rfl) i hi u (Al _ _);obtain⟨hl,⟨h2,h3⟩|⟨g,cap,cur,hv,_,hg,hcap',hmx,hsz,ht⟩⟩:=h.own
 ·omega
 injection hv with e1 e2 e3;subst e1 e3;have HPut:=hput g rfl;have hgb:g≠b:=fun e=>h.ne z5ia;have fg:=By hg;have lg:=A6 hg;have y0:w.cell? ⟨g,i*5+0,none⟩=some (cur[i*5+0]):=by rw[K2 w g (i*5+0) cur _ _ hg,Li z4ma]
 generalize cur[i*5+0]=z0 at y0;have y1:w.cell? ⟨g,i*5+1,none⟩=some (cur[i*5+1]):=by rw[K2 w g (i*5+1) cur _ _ hg,Li z4ma]
 generalize cur[i*5+1]=z1 at y1;have y2:w.cell? ⟨g,i*5+2,none⟩=some (cur[i*5+2]):=by rw[K2 w g (i*5+2) cur _ _ hg,Li z4ma]
 generalize cur[i*5+2]=z2 at y2;have y3:w.cell? ⟨g,i*5+3,none⟩=some (cur[i*5+3]):=by rw[K2 w g (i*5+3) cur _ _ hg,Li z4ma]
 generalize cur[i*5+3]=z3 at y3;have y4:w.cell? ⟨g,i*5+4,none⟩=some (cur[i*5+4]):=by rw[K2 w g (i*5+4) cur _ _ hg,Li z4ma]
 generalize cur[i*5+4]=z4 at y4;rw[Ma]at y0;go_in;go_wp2;go_region
 all_goals go_wp2
 all_goals go_end0
 all_goals exact⟨rfl,Q7.drew (HPut.alloc lb (fun k hk=>by simp only[Value.ownBlock,Cg]at hk;rw[←hk];exact lg) _)⟩
end
section
set_option maxRecDepth 100000
open Go.RowKit
open Go.Deep (BT)
structure Fi where
 a:Option Addr
 n:Nat
 c:Nat
 pc:Nat
 base:Int
def Qi:Fi:=⟨none,0,0,0,0⟩
def Jj(x:Fi):List Value:=[.slice x.a x.n x.c,.n x.pc,.i x.base]
def Akj:(Tryz.prog.info? 165).map (fun i=>(i.zero,i.size,i.bytes))=some (some (.agg #[.slice none 0 0,.i 0,.i 0]),3,40):=by kernel_rfl
variable {b o:Nat}{w:World}{cs:Array Value}{t:TypeId}{va:Option Addr}{vn vc:Nat}{xs:List Fi}
def A1a(h:E0 165 3 Jj b o w cs t va vn vc xs):Calls Tryz.prog 202 #[.pointer (some ⟨b,o,none⟩)] w fun e w'=>e=.returned (.n xs.length)/\w'=w:=by
 exact z4da
def Ajv(h:E0 165 3 Jj b o w cs t va vn vc xs)(i:Nat)(hi:i<xs.length)(hb:xs.length<=1000000):Calls Tryz.prog 280 #[.pointer (some ⟨b,o,none⟩),.int .i64 (i:Nat)] w fun e w'=>e=.returned (.agg #[.slice (xs[i]).a (xs[i]).n (xs[i]).c,.int .i64 ((xs[i]).pc:Nat),.int .i64 (xs[i]).base])/\Bw w w':=by
 have c:=E6 h.blk h.cell;have lb:=A6 h.blk;have hv:vn=xs.length:=(Cm h.own).1;subst hv;obtain⟨g,rfl,hvn9,hcap,lg,hcell⟩:=G1 h.own z4ma;have d0:=hcell (i*3+0) _ ((D8 (sz:=3) (fun _=>rfl) xs i 0 hi z4ma).trans rfl);have d1:=hcell (i*3+1) _ ((D8 (sz:=3) (fun _=>rfl) xs i 1 hi z4ma).trans rfl);have d2:=hcell (i*3+2) _ ((D8 (sz:=3) (fun _=>rfl) xs i 2 hi z4ma).trans rfl);rw[Ma]at d0;generalize xs[i]=x at *;go_in;go_wp2;refine B9 (v:=.agg #[.slice x.a x.n x.c,.int .i64 (x.pc:Nat),.int .i64 x.base]) (by simp[results,Tryz.results280,go_sem]) rfl ⟨rfl,?_⟩;exact Ah (Al _ _) (Af _) _
def z2ra {P:Prop} (h:P:=by
  go_wp2;refine B9 (v:=.agg #[.slice none 0 0,.i 0,.i 0]) (by simp[results,Tryz.results280,go_sem]) rfl ⟨rfl,?_⟩;exact z09a):P:=h
def A6e(h:E0 165 3 Jj b o w cs t va vn vc xs)(i:Int)(hi:i<0\/(xs.length:Int)<=i):Calls Tryz.prog 280 #[.pointer (some ⟨b,o,none⟩),.i i] w fun e w'=>e=.returned (.agg #[.slice none 0 0,.i 0,.i 0])/\Bw w w':=by
 have c:=E6 h.blk h.cell;have lb:=A6 h.blk;have hv:vn=xs.length:=(Cm h.own).1;subst hv;by_cases h0:i<0
 ·clear hi;go_in;exact z2ra
 ·have h1:(xs.length:Int)<=i:=by omega
  go_in;exact z2ra
def Ajr(h:E0 165 3 Jj b o w cs t va vn vc xs)(i:Int)(hb:xs.length<=1000000)(x:Fi)(hx:x=if i<0 then Qi else(xs[i.toNat]?).getD Qi):Calls Tryz.prog 280 #[.pointer (some ⟨b,o,none⟩),.int .i64 i] w fun e w'=>e=.returned (.agg #[.slice x.a x.n x.c,.int .i64 (x.pc:Nat),.int .i64 x.base])/\Below w.heap.size w w':=by
 by_cases h0:i<0
 ·rw[A7 h0]at hx;subst hx;exact A6e h i (.inl h0)
 ·rw[A1 h0]at hx;by_cases h1:i.toNat<xs.length
  ·rw[Eh h1]at hx;have:=Ajv h i.toNat h1 hb;exact z2va
  ·rw[N6 z4ma]at hx;subst hx;exact A6e h i (.inr z4ma)
def Ajx(h:E0 165 3 Jj b o w cs t va vn vc xs)(hn:xs.length<=900000)(u:Fi)(ho:o<cs.size):Calls Tryz.prog 203 #[.pointer (some ⟨b,o,none⟩),.agg #[.slice u.a u.n u.c,.n u.pc,.i u.base]] w fun e w'=>e=.returned (.tuple #[])/\Zv 165 3 Jj b o w cs t va vn vc xs u w':=by
 have Ir:E0 165 3 Jj b o (w.alloc (.cells #[.slice u.a u.n u.c,.n u.pc,.i u.base] 165)) cs t va vn vc xs:=h.keep (fun g hg=>Ck _ _ _ hg);have Bq:Bw w (w.alloc (.cells #[.slice u.a u.n u.c,.n u.pc,.i u.base] 165)):=Ah (Al _ _) (Af _) _;have Fz:=Bp w (.cells #[.slice u.a u.n u.c,.n u.pc,.i u.base] 165);have hlr:=Bs h.own;clear h;generalize hW:w.alloc (.cells #[.slice u.a u.n u.c,.n u.pc,.i u.base] 165)=w0 at *;generalize hxb:w.heap.size=xb at *;have HW:=A0 hW;have HXb:=A0 hxb;have Ag:=A0 Bq;have hsz0:=Bq.size;clear hW Bq;have c:=E6 Ir.blk Ir.cell;have lb:=A6 Ir.blk;have hv:vn=xs.length:=(Cm Ir.own).1;subst hv;have x0:=A4 Fz 0 _ rfl;have x1:=A4 Fz 1 _ rfl;have x2:=A4 Fz 2 _ rfl;have lx:=A6 Fz;have hown:w0.drew.ownsRow 0 165 3 (.slice va xs.length vc) xs.length (C0 Jj xs):=Bc Ir.own (fun _ _ _=>rfl);have HH:=A0 Ir;have HNe:=A0 Ir.ne;have HLr:=A0 hlr;clear Ir Fz hxb hlr;go_in;go_wp2;rw[HW.o,HXb.o];go_region_law (refine Pt _ w0.heap.size #[.slice u.a u.n u.c,.n u.pc,.i u.base] 165 (Bp w0.drew _) rfl (.tmp 8) (.tmp 10) 161 rfl 0 3 40 _ Tryz.underlying161 Akj rfl z4ma (.slice va xs.length vc) xs.length (C0 Jj xs) rfl rfl (hown.alloc _) rfl (fun v hv=>by simp at hv;rcases hv with rfl|rfl|rfl <;> rfl) z4ma z4ma (De _) ?_;intro g cap w1 Ev hgrow' hat' hg;have Fy:=Oh (Oo w0.drew _ none) hgrow';have hgrow:w0.grownBy w1 (Value.slice va xs.length vc).ownBlock:=⟨Fy.os,Fy.tape,Fy.output,Fy.size,Fy.block⟩;clear Fy;have hat:(Value.slice va xs.length vc).ownBlock=some g\/w0.heap.size<=g:=hat'.imp id (fun e=>by rw[e];simp);have A2:=(hgrow.block b lb (fun e=>HNe.o e.symm)).trans HH.o.blk;have c1:=E6 A2 HH.o.cell;have f1:=By A2;have Bn:=A6 A2;have A9:=A0 A2;have HOwn1:=A0 Ev;have HGrow:=A0 hgrow;have HAt:=A0 hat;clear A2 Ev hgrow hat hgrow' hat')
 all_goals go_wp2
 all_goals go_end0
 all_goals
  exact z0da
def Ajs(h:E0 165 3 Jj b o w cs t va vn vc xs)(m:Nat)(hm:m<=xs.length)(ho:o<cs.size):Calls Tryz.prog 249 #[.pointer (some ⟨b,o,none⟩),.int .i64 (m:Nat)] w fun e w'=>e=.returned (.tuple #[])/\Ll 165 3 Jj b o w cs t va vn vc xs m w':=by
 have c:=E6 h.blk h.cell;have lb:=A6 h.blk;have hv:vn=xs.length:=(Cm h.own).1;subst hv;have fz:=By h.blk;have HNe:=A0 h.ne;by_cases he:m=xs.length
 ·subst he;go_in;go_wp2;refine B9 (v:=.tuple #[]) (by simp[results,Tryz.results249,go_sem]) rfl ⟨rfl,?_,Gm.refl _ _ _⟩;rw[Qo h.cell,Q1];exact h
 ·obtain⟨hl,⟨h2,h3⟩|⟨g,cap,cur,hv,_,hg,hcap',hmx,hsz,ht⟩⟩:=h.own
  ·omega
  ·injection hv with e1 e2 e3;subst e1 e3;have hgb:g≠b:=fun e=>h.ne z5ia;have fg:=By hg;have lg:=A6 hg;have hzs:(.agg #[.slice none 0 0,.int .i64 0,.int .i64 0]:Value).cells.size=3:=rfl;have hmul:m*3+(xs.length-m)*3=xs.length*3:=by omega
   have hcs:∀j,j<(xs.length-m)*(.agg #[.slice none 0 0,.int .i64 0,.int .i64 0]:Value).cells.size->(w.cell? ⟨g,m*3+j,none⟩).isSome=true:=by
    intro j hj;rw[hzs]at hj;rw[K2 w g (m*3+j) cur _ _ hg,Li z4ma];rfl
   have hcl:∀ty,(Builtin.clear_ #[161] ty #[.slice (some ⟨g,m*3,none⟩) (xs.length-m) (vc-m)]).run Tryz.prog w=.ok (.tuple #[]) (w.setCells g (m*3) (Builtin.zeroCells (.agg #[.slice none 0 0,.int .i64 0,.int .i64 0]:Value).cells (xs.length-m)).toList):=
    fun ty=>A25 w 161 165 ty (.agg #[.slice none 0 0,.int .i64 0,.int .i64 0]) Tryz.underlying161 Tryz.zeroValue165 (by rw[hzs];omega) (fun v hv=>by simp[Value.cells]at hv;rcases hv with rfl|rfl|rfl <;> rfl) g (m*3) (xs.length-m) (vc-m) z4ma hcs (fun j hj=>fg _)
   obtain⟨cur',k1,k2,k3⟩:=Su g 165 (0,0) (Builtin.zeroCells (.agg #[.slice none 0 0,.int .i64 0,.int .i64 0]:Value).cells (xs.length-m)).toList (m*3) cur w hg;obtain⟨f1,f2,f3,f4,f5⟩:=N0 g (Builtin.zeroCells (.agg #[.slice none 0 0,.int .i64 0,.int .i64 0]:Value).cells (xs.length-m)).toList (m*3) w;have A2:=(f5 b (fun e=>hgb e.symm)).trans h.blk;have HK3:=k3 (m*3) (Af _);have HF:=C3 f1 (C3 f2 (C3 f3 (C3 f4 f5)));have HSz:=k2.trans hsz;have hlen9:=hcap';have c1:=E6 A2 h.cell;have g1:=By A2;have Bn:=A6 A2;generalize w.setCells g (m*3) (Builtin.zeroCells (.agg #[.slice none 0 0,.int .i64 0,.int .i64 0]:Value).cells (xs.length-m)).toList=w1 at *;go_in;go_wp2;go_end0;obtain⟨p1,p2,p3,p4,p5⟩:=HF;have hset:∀k,k≠b->(w1.setCell ⟨b,o,none⟩ (.slice (some ⟨g,0,none⟩) m vc)).heap[k]?=w1.heap[k]?:=fun k hk=>Bh _ _ _ _ z5ja;refine⟨rfl,⟨heap_set A2 _,?_,⟨?_,.inr ⟨g,vc,cur',?_,De _,(hset g hgb).trans k1,?_,hmx,HSz,?_⟩⟩,?_⟩,⟨p1,p2,p3,by simp[World.setCell];omega,fun k hk hkb hkr=>?_⟩⟩
   ·rw[N5,A7 rfl,A7 ho]
   ·exact Nw (f:=Jj) (sz:=3) (fun _=>rfl) _
   ·rw[G3,Hp hm]
   ·rw[G3,Hp hm];omega
   ·rw[G3,Hp hm,HK3,←A23 (sz:=3) (fun _=>rfl),←ht,Sd,Hp z4ma]
   ·exact z3ca
   ·exact z37a
def Ajy(h:E0 165 3 Jj b o w cs t va vn vc xs)(hb:xs.length<=1000000)(x:Fi)(hx:x=xs.getLastD Qi):Calls Tryz.prog 248 #[.pointer (some ⟨b,o,none⟩)] w fun e w'=>e=.returned (.agg #[.slice x.a x.n x.c,.n x.pc,.i x.base])/\Bw w w':=by
 have lb:=A6 h.blk;have HL:=A1a (h.keep (w':=w.alloc (.cells #[.slice none 0 0,.i 0,.i 0] 165)) (fun g hg=>Ck _ _ _ hg));have HA:=Ajr (h.keep (w':=w.alloc (.cells #[.slice none 0 0,.i 0,.i 0] 165)) (fun g hg=>Ck _ _ _ hg)) ((xs.length:Int)-1) hb x (by rw[hx];exact U8 _ xs);clear h hx;go_in;go_wp2_with fail
 refine HL.mono ?_;rintro e w0 ⟨rfl,Dk⟩;subst Dk;go_wp2_with fail
 refine HA.mono ?_;rintro e w1 ⟨rfl,A2⟩;have hR:=Gn A2 (Bp w (.cells #[.slice none 0 0,.i 0,.i 0] 165));have r0:=A4 hR 0 _ rfl;have r1:=A4 hR 1 _ rfl;have r2:=A4 hR 2 _ rfl;have fr:=By hR;have lr:=A6 hR;have A9:Bw w w1:=(Ah (Al _ _) (Af _) _).trans (A2.mono z4ra);clear A2 hR HL HA;go_wp2;refine B9 (v:=.agg #[.slice x.a x.n x.c,.n x.pc,.i x.base]) (by simp[results,Tryz.results248,go_sem,r0,r1,r2]) rfl ⟨rfl,?_⟩;exact z3va
def Ajt(h:E0 165 3 Jj b o w cs t va vn vc xs)(i:Int)(hi:i<0):Calls Tryz.prog 249 #[.pointer (some ⟨b,o,none⟩),.i i] w fun e w'=>e=.returned (.tuple #[])/\w'=w:=by
 have c:=E6 h.blk h.cell;have lb:=A6 h.blk;have hv:vn=xs.length:=(Cm h.own).1;subst hv;go_in;go_wp2;refine B9 (v:=.tuple #[]) (by simp[results,Tryz.results249,go_sem]) rfl ⟨rfl,rfl⟩
def Aju(h:E0 165 3 Jj b o w cs t va vn vc xs)(ho:o<cs.size):Calls Tryz.prog 249 #[.pointer (some ⟨b,o,none⟩),.int .i64 ((xs.length:Int)-1)] w fun e w'=>e=.returned (.tuple #[])/\Ll 165 3 Jj b o w cs t va vn vc xs (xs.length-1) w':=by
 by_cases h0:xs.length=0
 ·refine(Ajt h _ z4ma).mono ?_;exact z1la
 ·have:=Ajs h (xs.length-1) z4ma ho;exact z49a
def Ajw(h:E0 165 3 Jj b o w cs t va vn vc xs)(hb:xs.length<=1000000)(ho:o<cs.size)(x:Fi)(hx:x=xs.getLastD Qi):Calls Tryz.prog 206 #[.pointer (some ⟨b,o,none⟩)] w fun e w'=>e=.returned (.agg #[.slice x.a x.n x.c,.n x.pc,.i x.base])/\Ll 165 3 Jj b o w cs t va vn vc xs (xs.length-1) w':=by
 have lb:=A6 h.blk;have HKeep:=fun(W:World) (hW:Bw w W)=>h.keep (w':=W) hW.block;have HT:=fun(W:World) (hs:E0 165 3 Jj b o W cs t va vn vc xs)=>Ajy hs hb x hx;have HL:=fun(W:World) (hs:E0 165 3 Jj b o W cs t va vn vc xs)=>A1a hs;have HC:=fun(W:World) (hs:E0 165 3 Jj b o W cs t va vn vc xs)=>Aju hs ho;have HRl:=Bs h.own;clear h hx;have Bq:Bw w (w.alloc (.cells #[.slice none 0 0,.i 0,.i 0] 165)):=Ah (Al _ _) (Af _) _;have Ag:=A0 Bq;clear Bq;go_in;go_wp2_with fail
 refine(HT _ (HKeep _ Ag.o)).mono ?_;rintro e w1 ⟨rfl,A2⟩;have hR1:=Gn A2 (Bp w (.cells #[.slice none 0 0,.i 0,.i 0] 165));have A9:Bw w w1:=Ag.o.trans (A2.mono z4ra);have HR1:=A0 hR1;have ls1:=A6 hR1;clear A2 hR1;go_wp2_with fail
 have Ad:Bw w (w1.alloc (.cells #[.slice x.a x.n x.c,.n x.pc,.i x.base] 165)):=Ah A9 z4ma _;refine(HL _ (HKeep _ Ad)).mono ?_;rintro e w2 ⟨rfl,Gh⟩;have G7:w2.heap[w.heap.size]?=some (.cells #[.slice none 0 0,.i 0,.i 0] 165 (0,0)):=by rw[Gh];exact alloc_old HR1.o
 have Kz:w2.heap[w1.heap.size]?=some (.cells #[.slice x.a x.n x.c,.n x.pc,.i x.base] 165 (0,0)):=by rw[Gh];exact Bp _ _
 have hB2:Bw w w2:=by rw[Gh];exact Ad
 have Hx:=A0 G7;have HT2:=A0 Kz;have Ab:=A0 hB2;have Fx:=HC _ (HKeep _ hB2);clear Gh Ad G7 Kz hB2;go_wp2_with fail
 refine Fx.mono ?_;rintro e w3 ⟨rfl,Dc,hf3⟩;have hlw2:=A6 HT2.o;have hrow:∀k,w.heap.size<=k->(Value.slice va vn vc).ownBlock≠some k:=fun k hk e=>by have:=HRl k e;omega
 have Ki:=(hf3.block w.heap.size (A6 Hx.o) z4ma (hrow _ (Af _))).trans Hx.o;have Ka:=(hf3.block w1.heap.size hlw2 z4ma (hrow _ z4ma)).trans HT2.o;have r0:=A4 Ki 0 _ rfl;have q0:=A4 Ka 0 _ rfl;have r1:=A4 Ki 1 _ rfl;have q1:=A4 Ka 1 _ rfl;have r2:=A4 Ki 2 _ rfl;have q2:=A4 Ka 2 _ rfl;have fr:=By Ki;have lr:=A6 Ki;have lq:=A6 Ka;have Bu:=A0 Dc;have HF3:=A0 hf3;have HRow:=A0 hrow;clear Dc hf3 hrow Ki Ka hlw2;go_wp2;refine B9 (v:=.agg #[.slice x.a x.n x.c,.n x.pc,.i x.base]) (by simp[results,Tryz.results206,go_sem,r0,r1,r2]) rfl ⟨rfl,?_⟩;exact z3ea
end
section
open Go.RowKit
open Go.Deep (BT)
structure Ld (D : Nat -> Prop) (w : World) (x : Fi) (f : Fr) : Prop where
 row:Dj D w 251 8 (.slice x.a x.n x.c) f.steps.length (F7 f.steps)
 pc:x.pc=f.pc
 base:x.base=f.base
def Mp(D:Nat->Prop)(w:World):List Fi->List Fr->Prop
 | [],[]=>True
 | x::xs,f::fs=>Ld D w x f/\Mp D w xs fs
 | [],_::_=>False
 | _::_,[]=>False
def Ld.keep{D D':Nat->Prop}{w w':World}{x:Fi}{f:Fr}(h:Ld D w x f)(hk:∀g,D g->g<w.heap.size->w'.heap[g]?=w.heap[g]?/\D' g):Ld D' w' x f:=⟨h.row.keep hk,h.pc,h.base⟩
def Mp.keep{D D':Nat->Prop}{w w':World}(hk:∀g,D g->g<w.heap.size->w'.heap[g]?=w.heap[g]?/\D' g):∀{xs:List Fi} {fs:List Fr},Mp D w xs fs->Mp D' w' xs fs:=by
 intro xs;induction xs with
 | nil=>intro fs h;cases fs with
  | nil=>trivial
  | cons=>exact h.elim
 | cons x xs ih=>intro fs h;cases fs with
  | nil=>exact h.elim
  | cons f fs=>exact⟨h.1.keep hk,ih h.2⟩
def Mp.len{D:Nat->Prop}{w:World}:∀{xs:List Fi} {fs:List Fr},Mp D w xs fs->xs.length=fs.length:=by
 intro xs;induction xs with
 | nil=>intro fs h;cases fs with
  | nil=>rfl
  | cons=>exact h.elim
 | cons x xs ih=>intro fs h;cases fs with
  | nil=>exact h.elim
  | cons f fs=>simp only[Il];rw[ih h.2]
def Mp.app{D:Nat->Prop}{w:World}{x:Fi}{f:Fr}(hx:Ld D w x f):∀{xs:List Fi} {fs:List Fr},Mp D w xs fs->Mp D w (xs++[x]) (fs++[f]):=by
 intro xs;induction xs with
 | nil=>intro fs h;cases fs with
  | nil=>exact⟨hx,trivial⟩
  | cons=>exact h.elim
 | cons y xs ih=>intro fs h;cases fs with
  | nil=>exact h.elim
  | cons g fs=>exact⟨h.1,ih h.2⟩
abbrev AB:=Option Addr×Nat×Nat
def Nc(b:AB):Value:=.slice b.1 b.2.1 b.2.2
structure Xa (β : Nat -> Nat) (ρ : Nat -> Nat) (w : World) (ab : List AB) (arr : List (List PV)) : Prop where
 len:ab.length=arr.length
 at':∀i (h:i<ab.length) (h':i<arr.length),w.heap[β i]?=some (.cells #[Nc ab[i]] 356 (0,0))/\w.ownsRow 0 225 5 (Nc ab[i]) arr[i].length (C0 (Cj β) arr[i])/\ρ (β i)=7+2*i/\(∀g,(Nc ab[i]).ownBlock=some g->ρ g=8+2*i)
def Ca(n:Nat)(v:PV):Prop:=match v.r with
 | none=>v.k≠4
 | some i=>v.k=4/\i<n
def F8(k:Kn):List Value:=[.bool k.kind,.bool k.whole,.n k.like.k,.bool k.like.y,.i k.like.n,.s k.like.t,.pointer none]
def Oa(D:Nat->Prop)(w:World)(p:Option Addr)(f:Option Form):Prop:=match f with
 | none=>p=none
 | some fo=>∃fb sa sn sc ka kn kc,p=some ⟨fb,0,none⟩/\D fb/\w.heap[fb]?=some (.cells #[.int .i64 (fo.slots:Nat),.slice sa sn sc,.slice ka kn kc] 381 (0,0))/\Dj D w 251 8 (.slice sa sn sc) fo.steps.length (F7 fo.steps)/\Dj D w 407 7 (.slice ka kn kc) fo.bet.length (C0 F8 fo.bet)
def Oa.keep{D D':Nat->Prop}{w w':World}{p:Option Addr}{f:Option Form}(h:Oa D w p f)(hk:∀g,D g->g<w.heap.size->w'.heap[g]?=w.heap[g]?/\D' g):Oa D' w' p f:=by
 unfold Oa at h ⊢;cases f with
 | none=>exact h
 | some fo=>
  obtain⟨fb,sa,sn,sc,ka,kn,kc,e1,e2,e3,e4,e5⟩:=h;exact⟨fb,sa,sn,sc,ka,kn,kc,e1,(hk fb e2 (A6 e3)).2,(hk fb e2 (A6 e3)).1.trans e3,e4.keep hk,e5.keep hk⟩
def Jz(q:Option Addr×En):List Value:=[.n q.2.calls,.pointer q.1,.n q.2.fast,.n q.2.drops]
def Wn(l:List UInt8):List Value:=[.s l]
structure MC where
 mb:Nat
 pb:Nat
 P:C5
 ba:Option Addr
 bn:Nat
 bc:Nat
structure Qz where
 la:Option Addr
 ln:Nat
 lc:Nat
 ga:Option Addr
 gn:Nat
 gc:Nat
 va:Option Addr
 vn:Nat
 vc:Nat
 ca:Option Addr
 cn:Nat
 cc:Nat
 oa:Option Addr
 on:Nat
 oc:Nat
def MC.cells(C:MC)(s:Qz)(x:Fi)(fuel cells code line:Nat):Array Value:=#[.p C.pb,.slice C.ba C.bn C.bc,.slice s.la s.ln s.lc,.slice s.ga s.gn s.gc,.slice s.va s.vn s.vc,.slice s.ca s.cn s.cc,.slice x.a x.n x.c,.n x.pc,.i x.base,.n fuel,.n cells,.slice s.oa s.on s.oc,.n code,.n line]
def dx(D X:Nat->Prop):Nat->Prop:=fun g=>D g\/X g
structure MC.Mv (C : MC) (D X : Nat -> Prop) (w : World) (m : MS) (ρ β : Nat -> Nat) (s : Qz) (x : Fi) (fv : List Fi) (ab : List AB) (lp : List (Option Addr × En)) : Prop where
 cell:w.heap[C.mb]?=some (.cells (C.cells s x m.fuel m.cells m.code m.line) 167 (0,0))
 prog:M0 D w C.pb C.P
 lots:w.ownsRow 0 172 4 (.slice s.la s.ln s.lc) lp.length (C0 Jz lp)
 loto:∀g,(Value.slice s.la s.ln s.lc).ownBlock=some g->ρ g=2
 lotm:m.lots=lp.map Prod.snd
 forms:∀q∈lp,Oa D w q.1 q.2.form
 gl:w.ownsRow 0 225 5 (.slice s.ga s.gn s.gc) m.gl.length (C0 (Cj β) m.gl)
 glo:∀g,(Value.slice s.ga s.gn s.gc).ownBlock=some g->ρ g=3
 vals:w.ownsRow 0 225 5 (.slice s.va s.vn s.vc) m.vals.length (C0 (Cj β) m.vals)
 valo:∀g,(Value.slice s.va s.vn s.vc).ownBlock=some g->ρ g=4
 calls:w.ownsRow 0 165 3 (.slice s.ca s.cn s.cc) fv.length (C0 Jj fv)
 callo:∀g,(Value.slice s.ca s.cn s.cc).ownBlock=some g->ρ g=5
 frs:Mp D w fv m.calls
 now:Ld D w x m.now
 out:w.ownsRow 0 9 1 (.slice s.oa s.on s.oc) m.out.length (C0 Wn m.out)
 outo:∀g,(Value.slice s.oa s.on s.oc).ownBlock=some g->ρ g=6
 arr:Xa β ρ w ab m.arr
 prot:∀g,dx D X g->g<w.heap.size/\ρ g=0
 one:ρ C.mb=1/\∀g,ρ g=1->g=C.mb
 C1:m.vals.length<=90000000000/\m.calls.length<=100/\m.out.length<=100
 vv:(∀v∈m.vals,Ca m.arr.length v)/\(∀v∈m.gl,Ca m.arr.length v)/\(∀l∈m.arr,∀v∈l,Ca m.arr.length v)
def MC.Ms(C:MC)(D X:Nat->Prop)(β:Nat->Nat)(w:World)(m:MS):Prop:=∃ρ s x fv ab lp,C.Mv D X w m ρ β s x fv ab lp
def Xa.keep{β ρ ρ':Nat->Nat}{w w':World}{ab:List AB}{arr:List (List PV)}(h:Xa β ρ w ab arr)(hk:∀g,g<w.heap.size->7<=ρ g->w'.heap[g]?=w.heap[g]?/\ρ' g=ρ g):Xa β ρ' w' ab arr:=by
 refine⟨h.len,fun i h1 h2=>?_⟩;obtain⟨k1,k2,k3,k4⟩:=h.at' i h1 h2;have q:=hk (β i) (A6 k1) z4ma;refine⟨q.1.trans k1,Bc k2 (fun g hg hl=>(hk g hl (by rw[k4 g hg];omega)).1),q.2.trans k3,fun g hg=>?_⟩;exact(hk g (Bs k2 g hg) (by rw[k4 g hg];omega)).2.trans (k4 g hg)
variable {C:MC} {D X:Nat->Prop} {w w':World} {m:MS} {ρ β:Nat->Nat} {s:Qz} {x:Fi} {fv:List Fi} {ab:List AB} {lp:List (Option Addr×En)}
def MC.Mv.Ol(h:C.Mv D X w m ρ β s x fv ab lp):E0 225 5 (Cj β) C.mb 4 w (C.cells s x m.fuel m.cells m.code m.line) 167 s.va s.vn s.vc m.vals:=
 ⟨h.cell,rfl,h.vals,fun e=>by have:=h.valo _ e;rw[h.one.1]at this;omega⟩
def MC.Mv.P3(h:C.Mv D X w m ρ β s x fv ab lp):E0 165 3 Jj C.mb 5 w (C.cells s x m.fuel m.cells m.code m.line) 167 s.ca s.cn s.cc fv:=
 ⟨h.cell,rfl,h.calls,fun e=>by have:=h.callo _ e;rw[h.one.1]at this;omega⟩
def MC.Mv.lo(h:C.Mv D X w m ρ β s x fv ab lp):C.mb<w.heap.size/\¬dx D X C.mb:=⟨A6 h.cell,fun hd=>by have:=(h.prot _ hd).2;rw[h.one.1]at this;cases this⟩
def MC.Mv.Fv(h:C.Mv D X w m ρ β s x fv ab lp){c:Nat}(hc:Hq c ρ w w')(h0:c≠0):A3 (dx D X) w w':=hc.Bv h.prot h0
def z4va {P:Prop} (h:P:=by rw[h.callo g hg];omega):P:=h
def z4xa {P:Prop} (h:P:=by rw[h.outo g hg];omega):P:=h
def z4ya {P:Prop} (h:P:=by rw[h.loto g hg];omega):P:=h
def z50a {P:Prop} (h:P:=by rw[h.glo g hg];omega):P:=h
def MC.Mv.Wk(h:C.Mv D X w m ρ β s x fv ab lp)(hc:Hq 4 ρ w w'){va:Option Addr}{vn vc:Nat}{vs:List PV}{x':Fi}{now:Fr}{fuel cells code line:Nat}
  (hcell:w'.heap[C.mb]?=some (.cells (C.cells { s with va:=va,vn:=vn,vc:=vc } x' fuel cells code line) 167 (0,0)))
  (hv:w'.ownsRow 0 225 5 (.slice va vn vc) vs.length (C0 (Cj β) vs)) (hvo:∀g,(Value.slice va vn vc).ownBlock=some g->(Value.slice s.va s.vn s.vc).ownBlock=some g\/w.heap.size<=g) (hx:Ld D w x' now)
  (hn:vs.length<=90000000000) (hvv:∀v∈vs,Ca m.arr.length v):C.Mv D X w' { m with vals:=vs,now:=now,fuel:=fuel,cells:=cells,code:=code,line:=line } (Fs ρ w.heap.size 4) β { s with va:=va,vn:=vn,vc:=vc } x' fv ab lp:=by
 have hbd:=h.Fv hc z4ma;have hk:∀g,D g->g<w.heap.size->w'.heap[g]?=w.heap[g]?/\D g:=fun g hg _=>⟨hbd.block g (.inl hg),hg⟩;refine⟨hcell,h.prog.keep hk,Bc h.lots (fun g hg hl=>hc.block g hl z4ya z4ya),fun g hg=>by rw[Br (Bs h.lots g hg)];exact h.loto g hg,h.lotm,fun q hq=>(h.forms q hq).keep hk,
  Bc h.gl (fun g hg hl=>hc.block g hl z50a z50a),fun g hg=>by rw[Br (Bs h.gl g hg)];exact h.glo g hg,hv,fun g hg=>?_,
  Bc h.calls (fun g hg hl=>hc.block g hl z4va z4va),fun g hg=>by rw[Br (Bs h.calls g hg)];exact h.callo g hg,h.frs.keep hk,hx.keep hk,
  Bc h.out (fun g hg hl=>hc.block g hl z4xa z4xa),fun g hg=>by rw[Br (Bs h.out g hg)];exact h.outo g hg,h.arr.keep (fun g hl h7=>⟨hc.block g hl z4ma z4ma,Br hl⟩),
  fun g hg=>⟨Cb (h.prot g hg).1 hc.size,by rw[Br (h.prot g hg).1];exact(h.prot g hg).2⟩,⟨by rw[Br h.lo.1];exact h.one.1,fun g hg=>?_⟩,⟨hn,h.C1.2⟩,⟨hvv,h.vv.2⟩⟩
 ·rcases hvo g hg with e|e
  ·rw[Br (Bs h.vals g e)];exact h.valo g e
  ·exact J0 e
 ·exact z10a
def Vk{c:Nat}{mb:Nat}{row:Option Nat}(h:Gm mb row w w')(hone:ρ mb=1)(hr:∀g,row=some g->ρ g=c):Hq c ρ w w':=
 ⟨h.os,h.tape,h.output,h.size,fun k hk h1 h2=>h.block k hk (fun e=>h1 (by rw[e];exact hone)) (fun e=>h2 (hr k e))⟩
def A51{c:Nat}(h:Bw w w'):Hq c ρ w w':=⟨h.os,h.tape,h.output,h.size,fun k hk _ _=>h.block k hk⟩
def MC.Ms.below(h:C.Ms D X β w m)(hb:Bw w w'):C.Ms D X β w' m/\A3 (dx D X) w w':=by
 obtain⟨ρ,s,x,fv,ab,lp,h⟩:=h;exact⟨⟨_,_,_,_,_,_,h.Wk (A51 hb) ((hb.block _ h.lo.1).trans h.cell) (Kp h.vals hb) (fun g hg=>.inl hg) h.now h.C1.1 h.vv.1⟩,h.Fv (c:=4) (A51 hb) z4ma⟩
def MC.Ms.more(h:C.Ms D X β w m)(hb:Bw w w'):C.Ms D (fun g=>X g\/(w.heap.size<=g/\g<w'.heap.size)) β w' m:=by
 obtain⟨ρ,s,x,fv,ab,lp,h⟩:=h;have hk:∀g,D g->g<w.heap.size->w'.heap[g]?=w.heap[g]?/\D g:=fun g hg hl=>⟨hb.block g hl,hg⟩;refine⟨Fs ρ w.heap.size 0,s,x,fv,ab,lp,(hb.block _ h.lo.1).trans h.cell,h.prog.keep hk,Kp h.lots hb,fun g hg=>by rw[Br (Bs h.lots g hg)];exact h.loto g hg,h.lotm,fun q hq=>(h.forms q hq).keep hk,Kp h.gl hb,fun g hg=>by rw[Br (Bs h.gl g hg)];exact h.glo g hg,Kp h.vals hb,fun g hg=>by rw[Br (Bs h.vals g hg)];exact h.valo g hg,Kp h.calls hb,fun g hg=>by rw[Br (Bs h.calls g hg)];exact h.callo g hg,h.frs.keep hk,h.now.keep hk,Kp h.out hb,fun g hg=>by rw[Br (Bs h.out g hg)];exact h.outo g hg,h.arr.keep (fun g hl _=>⟨hb.block g hl,Br hl⟩),?_,⟨by rw[Br h.lo.1];exact h.one.1,fun g hg=>?_⟩,h.C1,h.vv⟩
 ·intro g hg;rcases hg with hg|hg|hg
  ·have:=h.prot g (.inl hg);exact z36a
  ·have:=h.prot g (.inr hg);exact z36a
  ·exact⟨hg.2,J0 hg.1⟩
 ·exact z10a
def z4wa {P:Prop} (h:P:=by rw[h.valo g hg];omega):P:=h
def MC.Ms.less(h:C.Ms D X β w m){X':Nat->Prop}(hX:∀g,X' g->X g)(hk:∀g,g<w.heap.size->(X g->D g)->w'.heap[g]?=w.heap[g]?)(hs:w'.heap.size=w.heap.size):C.Ms D X' β w' m:=by
 obtain⟨ρ,s,x,fv,ab,lp,h⟩:=h;have hz:∀g,g<w.heap.size->ρ g≠0->w'.heap[g]?=w.heap[g]?:=fun g hg h0=>hk g hg (fun hx=>absurd (h.prot g (.inr hx)).2 h0);have hkD:∀g,D g->g<w.heap.size->w'.heap[g]?=w.heap[g]?/\D g:=fun g hg hl=>⟨hk g hl (fun _=>hg),hg⟩;exact⟨ρ,s,x,fv,ab,lp,(hz _ h.lo.1 z5ba).trans h.cell,h.prog.keep hkD,Bc h.lots (fun g hg hl=>hz g hl z4ya),h.loto,h.lotm,fun q hq=>(h.forms q hq).keep hkD,Bc h.gl (fun g hg hl=>hz g hl z50a),h.glo,Bc h.vals (fun g hg hl=>hz g hl z4wa),h.valo,Bc h.calls (fun g hg hl=>hz g hl z4va),h.callo,h.frs.keep hkD,h.now.keep hkD,Bc h.out (fun g hg hl=>hz g hl z4xa),h.outo,h.arr.keep (fun g hl h7=>⟨hz g hl z4ma,rfl⟩),fun g hg=>by rw[hs];exact h.prot g (hg.imp id (hX g)),h.one,h.C1,h.vv⟩
end
section
open Go.RowKit
open Go.Deep (BT)
variable {C:MC} {D X:Nat->Prop} {w w':World} {m:MS} {β:Nat->Nat}
def B7(β:Nat->Nat)(v:PV):Value:=.agg #[.n v.k,.bool v.y,.i v.n,.s v.t,.pointer (Bf β v)]
def MP(C:MC)(D X:Nat->Prop)(β:Nat->Nat)(w:World)(m:MS)(r:Value)(e:Ending)(w':World):Prop:=e=.returned r/\C.Ms D X β w' m/\A3 (dx D X) w w'
def MC.Ms.len(h:C.Ms D X β w m):Calls Tryz.prog 98 #[.pointer (some ⟨C.mb,4,none⟩)] w fun e w'=>e=.returned (.n m.vals.length)/\w'=w:=by
 obtain⟨ρ,s,x,fv,ab,lp,h⟩:=h;exact A2z h.Ol
def MC.Ms.C1(h:C.Ms D X β w m):m.vals.length<=90000000000/\m.calls.length<=100/\m.out.length<=100:=by
 obtain⟨ρ,s,x,fv,ab,lp,h⟩:=h;exact h.C1
def MC.Ms.B3(h:C.Ms D X β w m):C.mb<w.heap.size:=by
 obtain⟨ρ,s,x,fv,ab,lp,h⟩:=h;exact h.lo.1
def z29a {P:Prop} (h:P:=by
  rintro e w1 ⟨rfl,hb⟩;exact⟨rfl,MC.Ms.below ⟨ρ,s,x,fv,ab,lp,h'⟩ hb⟩):P:=h
def MC.Ms.at'(h:C.Ms D X β w m)(i:Int):Calls Tryz.prog 195 #[.pointer (some ⟨C.mb,4,none⟩),.i i] w (MP C D X β w m (B7 β (m.at' i))):=by
 obtain⟨ρ,s,x,fv,ab,lp,h'⟩:=h;refine(A2y h'.Ol i (by have:=h'.C1.1;omega) (m.at' i) rfl).mono ?_;exact z29a
def MC.Ms.top(h:C.Ms D X β w m):Calls Tryz.prog 200 #[.pointer (some ⟨C.mb,4,none⟩)] w (MP C D X β w m (B7 β m.top)):=by
 obtain⟨ρ,s,x,fv,ab,lp,h'⟩:=h;refine(Aab h'.Ol (by have:=h'.C1.1;omega) m.top rfl).mono ?_;exact z29a
def z3ka {P:Prop} (h:P:=by
  simp only[Value.ownBlock,Cg]at hk;rw[←hk];exact hat):P:=h
def z5na {P:Prop} (h:P:=by simp[MC.cells]):P:=h
def MC.Ms.push(h:C.Ms D X β w m)(v:PV)(hv:Ca m.arr.length v)(hn:m.vals.length+1<=90000000000):Calls Tryz.prog 99 #[.pointer (some ⟨C.mb,4,none⟩),B7 β v] w (MP C D X β w (m.push v) (.tuple #[])):=by
 obtain⟨ρ,s,x,fv,ab,lp,h⟩:=h;refine(Avu h.Ol z4ma v z5na).mono ?_;rintro e w1 ⟨rfl,g,cap,hs,hat,hf⟩;have hc:Hq 4 ρ w w1:=Vk hf h.one.1 h.valo;refine⟨rfl,⟨_,{ s with va:=some ⟨g,0,none⟩,vn:=m.vals.length+1,vc:=cap },x,fv,ab,lp,h.Wk hc ?_ hs.own ?_ h.now z4qa ?_⟩,h.Fv hc z4ma⟩
 ·rw[hs.blk];simp[MC.cells]
 ·intro k hk;exact z3ka
 ·intro u hu;simp only[Jp,Lb]at hu;rcases hu with hu|hu
  ·exact h.vv.1 u hu
  ·rw[hu];exact hv
def MC.Mv.A01{ρ:Nat->Nat}{s:Qz}{x:Fi}{fv:List Fi}{ab:List AB}{lp:List (Option Addr×En)}(h:C.Mv D X w m ρ β s x fv ab lp){k:Nat}(hp:Ll 225 5 (Cj β) C.mb 4 w (C.cells s x m.fuel m.cells m.code m.line) 167 s.va s.vn s.vc m.vals k w'):C.Ms D X β w' { m with vals:=m.vals.take k }/\A3 (dx D X) w w':=by
 obtain⟨hs,hf⟩:=hp;have hc:Hq 4 ρ w w':=Vk hf h.one.1 h.valo;refine⟨⟨_,{ s with va:=s.va,vn:=k,vc:=s.vc },x,fv,ab,lp,h.Wk hc ?_ hs.own (fun g hg=>.inl ((P2 _ _ _ _).trans hg)) h.now (by have:=h.C1.1;simp;omega) (fun u hu=>h.vv.1 u (Zj hu))⟩,h.Fv hc z4ma⟩;rw[hs.blk];simp[MC.cells]
def A2l{α:Type}(l:List α):l.take (l.length-1)=l.dropLast:=by rw[List.dropLast_eq_take]
def MC.Ms.pop(h:C.Ms D X β w m):Calls Tryz.prog 197 #[.pointer (some ⟨C.mb,4,none⟩)] w (MP C D X β w m.pop (B7 β m.top)):=by
 obtain⟨ρ,s,x,fv,ab,lp,h⟩:=h;refine(Aaa h.Ol (by have:=h.C1.1;omega) z5na m.top rfl).mono ?_;rintro e w1 ⟨rfl,hp⟩;have:=h.A01 hp;rw[A2l]at this;exact⟨rfl,this⟩
def MC.Ms.cut(h:C.Ms D X β w m)(n:Int):Calls Tryz.prog 205 #[.pointer (some ⟨C.mb,4,none⟩),.i n] w (MP C D X β w (m.cut n) (.tuple #[])):=by
 obtain⟨ρ,s,x,fv,ab,lp,h⟩:=h;by_cases h0:n<0
 ·refine(Aa8 h.Ol n h0).mono ?_;rintro e w1 ⟨rfl,rfl⟩;refine⟨rfl,?_,A3.refl _ _⟩;have:m.cut n=m:=by unfold MS.cut;rw[A7 h0]
  rw[this];exact⟨ρ,s,x,fv,ab,lp,h⟩
 ·have he:m.cut n={ m with vals:=m.vals.take n.toNat }:=by unfold MS.cut;rw[A1 h0]
  rw[he];by_cases h1:n.toNat<=m.vals.length
  ·have:=Aa7 h.Ol n.toNat h1 z5na;rw[show((n.toNat:Nat):Int)=n by omega]at this;refine this.mono ?_;rintro e w1 ⟨rfl,hp⟩;exact⟨rfl,h.A01 hp⟩
  ·refine(Avr h.Ol n z4ma).mono ?_;rintro e w1 ⟨rfl,rfl⟩;refine⟨rfl,?_,A3.refl _ _⟩;rw[Ot z4ma];exact⟨ρ,s,x,fv,ab,lp,h⟩
def Amd{α:Type}{l:List α}{i:Nat}{u v:α}(h:v∈l.set i u):v∈l\/v=u:=O6 h
def MC.Ms.put(h:C.Ms D X β w m)(i:Int)(v:PV)(hv:Ca m.arr.length v):Calls Tryz.prog 196 #[.pointer (some ⟨C.mb,4,none⟩),.i i,B7 β v] w (MP C D X β w (m.put i v) (.tuple #[])):=by
 obtain⟨ρ,s,x,fv,ab,lp,h'⟩:=h;by_cases h0:0<=i/\i.toNat<m.vals.length
 ·have:=Avv h'.Ol i.toNat h0.2 v;unfold Value.n at this;rw[show((i.toNat:Nat):Int)=i by omega]at this;refine this.mono ?_;rintro e w1 ⟨rfl,hs,hf⟩;have hc:Hq 4 ρ w w1:=Vk hf h'.one.1 h'.valo;have he:m.put i v={ m with vals:=m.vals.set i.toNat v }:=by unfold MS.put;rw[Ai]
  rw[he];refine⟨rfl,⟨_,s,x,fv,ab,lp,h'.Wk hc ?_ hs.own (fun g hg=>.inl hg) h'.now (by have:=h'.C1.1;simp;omega) (fun u hu=>(Amd hu).elim (h'.vv.1 u) (fun e=>by rw[e];exact hv))⟩,h'.Fv hc z4ma⟩;exact hs.blk
 ·have he:m.put i v=m:=by
   unfold MS.put;by_cases h1:i<0
   ·rw[A7 h1]
   ·rw[A1 h1,List.set_eq_of_length_le z4ma]
  rw[he];refine(Avw h'.Ol i z4ma v).mono ?_;exact z29a
end
section
set_option maxRecDepth 100000
open Go.RowKit
open Go.Deep (BT)
variable {C:MC} {D X:Nat->Prop} {w w':World} {m:MS} {ρ β:Nat->Nat} {s:Qz} {x:Fi} {fv:List Fi} {ab:List AB} {lp:List (Option Addr×En)}
def Ac(i:Aa):Value:=.agg #[.n i.op,.i i.arg,.n i.line,.n i.v.k,.bool i.v.y,.i i.v.n,.s i.v.t,.pointer none]
def MC.Mv.plain(h:C.Mv D X w m ρ β s x fv ab lp){x':Fi}{now:Fr}{fuel cells code line:Nat}(hx:Ld D w x' now)(hcell:w'.heap[C.mb]?=some (.cells (C.cells s x' fuel cells code line) 167 (0,0)))(hk:∀g,g<w.heap.size->g≠C.mb->w'.heap[g]?=w.heap[g]?)(hs:w.heap.size<=w'.heap.size)(ho:w'.os=w.os)(ht:w'.tape=w.tape)(hu:w'.output=w.output) :
  C.Ms D X β w' { m with now:=now,fuel:=fuel,cells:=cells,code:=code,line:=line }/\A3 (dx D X) w w':=by
 have hc:Hq 4 ρ w w':=⟨ho,ht,hu,hs,fun k hk' h1 _=>hk k hk' (fun e=>h1 (by rw[e];exact h.one.1))⟩;exact⟨⟨_,s,x',fv,ab,lp,h.Wk hc hcell (Bc h.vals (fun g hg hl=>hk g hl (fun e=>by have:=h.valo g hg;rw[e,h.one.1]at this;omega))) (fun g hg=>.inl hg) hx h.C1.1 h.vv.1⟩,h.Fv hc z4ma⟩
def Tz{w:World}{b:Nat}{a0 a1 a2 a3 a4 a5 a6 a7 a8 a9 a10 a11 a12 a13:Value}{t:TypeId}(h:w.heap[b]?=some (.cells #[a0,a1,a2,a3,a4,a5,a6,a7,a8,a9,a10,a11,a12,a13] t (0,0))) :
  w.cell? ⟨b,0,none⟩=some a0/\w.cell? ⟨b,1,none⟩=some a1/\w.cell? ⟨b,2,none⟩=some a2/\w.cell? ⟨b,3,none⟩=some a3/\w.cell? ⟨b,4,none⟩=some a4/\w.cell? ⟨b,5,none⟩=some a5/\w.cell? ⟨b,6,none⟩=some a6/\w.cell? ⟨b,7,none⟩=some a7/\w.cell? ⟨b,8,none⟩=some a8/\w.cell? ⟨b,9,none⟩=some a9/\w.cell? ⟨b,10,none⟩=some a10/\w.cell? ⟨b,11,none⟩=some a11/\w.cell? ⟨b,12,none⟩=some a12/\w.cell? ⟨b,13,none⟩=some a13/\(∀o,w.frozen? ⟨b,o,none⟩=false)/\b<w.heap.size:=
 ⟨A4 h 0 _ rfl,A4 h 1 _ rfl,A4 h 2 _ rfl,A4 h 3 _ rfl,A4 h 4 _ rfl,A4 h 5 _ rfl,A4 h 6 _ rfl,A4 h 7 _ rfl,A4 h 8 _ rfl,A4 h 9 _ rfl,A4 h 10 _ rfl,A4 h 11 _ rfl,A4 h 12 _ rfl,A4 h 13 _ rfl,By h,A6 h⟩
def Ih(h:C.Ms D X β w m)(code:Nat)(i:Aa):Calls Tryz.prog 199 #[.p C.mb,.n code,Ac i] w (MP C D X β w (m.fail code i) (.tuple #[])):=by
 obtain⟨ρ,s,x,fv,ab,lp,h⟩:=h;obtain⟨c0,c1,c2,c3,c4,c5,c6,c7,c8,c9,c10,c11,c12,c13,fz,lb⟩:=Tz (show w.heap[C.mb]?=some (.cells #[_,_,_,_,_,_,_,_,_,_,_,_,_,_] _ (0,0)) from h.cell);unfold Ac;go_in;go_wp2;go_end0;have hcl:(((w.setCell ⟨C.mb,12,none⟩ (.n code)).setCell ⟨C.mb,13,none⟩ (.n i.line)).alloc (.cells #[.n i.op,.i i.arg,.n i.line,.n i.v.k,.bool i.v.y,.i i.v.n,.s i.v.t,.pointer none] 251)).heap[C.mb]?=some (.cells (C.cells s x (m.fuel) (m.cells) (code) (i.line)) 167 (0,0)):=by
  rw[Ck _ _ _ z4sa,(heap_set (j:=13) (heap_set (j:=12) h.cell (.n code)) (.n i.line))];simp[MC.cells]
 have hkk:∀g,g<w.heap.size->g≠C.mb->(((w.setCell ⟨C.mb,12,none⟩ (.n code)).setCell ⟨C.mb,13,none⟩ (.n i.line)).alloc (.cells #[.n i.op,.i i.arg,.n i.line,.n i.v.k,.bool i.v.y,.i i.v.n,.s i.v.t,.pointer none] 251)).heap[g]?=w.heap[g]?:=by
  intro g hg hne;rw[Ck _ _ _ z4sa,Bh _ _ _ _ z5ca,Bh _ _ _ _ z5ca]
 have hpl:=h.plain (now:=m.now) (fuel:=m.fuel) (cells:=m.cells) (code:=code) (line:=i.line) (x':=x) h.now hcl hkk z4za rfl rfl rfl;exact⟨rfl,hpl⟩
def z26a {P:Prop} (h:P:=by
  intro g hg hne;rw[Ck _ _ _ z4sa,Bh _ _ _ _ z5ca]):P:=h
def Ye(h:C.Ms D X β w m)(i:Aa)(hf:m.fuel≠0)(hb:m.fuel<=100000):Calls Tryz.prog 198 #[.p C.mb,Ac i] w (MP C D X β w { m with fuel:=m.fuel-1 } (.bool true)):=by
 obtain⟨ρ,s,x,fv,ab,lp,h⟩:=h;obtain⟨c0,c1,c2,c3,c4,c5,c6,c7,c8,c9,c10,c11,c12,c13,fz,lb⟩:=Tz (show w.heap[C.mb]?=some (.cells #[_,_,_,_,_,_,_,_,_,_,_,_,_,_] _ (0,0)) from h.cell);have t0:((m.fuel:Int)==0)=false:=by rw[Am];omega
 have HFu:((m.fuel-1:Nat):Int)=(m.fuel:Int)-1:=by show _=_;omega
 unfold Ac;go_in;go_wp2;go_ret;rw[←HFu];have hcl:((w.setCell ⟨C.mb,9,none⟩ (.n ((m.fuel-1:Nat)))).alloc (.cells #[.n i.op,.i i.arg,.n i.line,.n i.v.k,.bool i.v.y,.i i.v.n,.s i.v.t,.pointer none] 251)).heap[C.mb]?=some (.cells (C.cells s x (m.fuel-1) (m.cells) (m.code) (m.line)) 167 (0,0)):=by
  rw[Ck _ _ _ z4sa,(heap_set (j:=9) h.cell (.n ((m.fuel-1:Nat))))];simp[MC.cells]
 have hkk:∀g,g<w.heap.size->g≠C.mb->((w.setCell ⟨C.mb,9,none⟩ (.n ((m.fuel-1:Nat)))).alloc (.cells #[.n i.op,.i i.arg,.n i.line,.n i.v.k,.bool i.v.y,.i i.v.n,.s i.v.t,.pointer none] 251)).heap[g]?=w.heap[g]?:=by
  exact z26a
 have hpl:=h.plain (now:=m.now) (fuel:=m.fuel-1) (cells:=m.cells) (code:=m.code) (line:=m.line) (x':=x) h.now hcl hkk z4za rfl rfl rfl;exact⟨rfl,hpl⟩
def z1ja {P:Prop} (h:P:=by
  have lx:=Bp w (.cells #[.n i.op,.i i.arg,.n i.line,.n i.v.k,.bool i.v.y,.i i.v.n,.s i.v.t,.pointer none] 251);unfold Ac at *;go_in;go_wp2_with fail
  refine HF.mono ?_;rintro e w1 ⟨rfl,h1,h2⟩;have A9:A3 (dx D X) w w1:=hd0.trans h2;go_wp2;go_ret;exact⟨rfl,h1,A9⟩):P:=h
def A7s(h:C.Ms D X β w m)(i:Aa)(hf:m.fuel=0):Calls Tryz.prog 198 #[.p C.mb,Ac i] w (MP C D X β w (m.fail 8 i) (.bool false)):=by
 have Bq:Bw w (w.alloc (.cells #[.n i.op,.i i.arg,.n i.line,.n i.v.k,.bool i.v.y,.i i.v.n,.s i.v.t,.pointer none] 251)):=Ah (Al _ _) (Af _) _;obtain⟨h0,hd0⟩:=h.below Bq;have HF:=Ih h0 8 i;obtain⟨ρ,s,x,fv,ab,lp,h⟩:=h;obtain⟨c0,c1,c2,c3,c4,c5,c6,c7,c8,c9,c10,c11,c12,c13,fz,lb⟩:=Tz (show w.heap[C.mb]?=some (.cells #[_,_,_,_,_,_,_,_,_,_,_,_,_,_] _ (0,0)) from h.cell);have t0:((m.fuel:Int)==0)=true:=by rw[hf];rfl
 exact z1ja
end
section
set_option maxRecDepth 100000
open Go.RowKit
open Go.Deep (BT)
variable {C:MC} {D X:Nat->Prop} {w w':World} {m:MS} {β:Nat->Nat}
def Uv(a0 a1 a2 a3 a4:Value)(w:World):(Instr.field 225 (.agg #[a0,a1,a2,a3,a4]) 0).run Tryz.prog w=.ok a0 w:=by kernel_rfl
def Aa2(a0 a1 a2 a3 a4:Value)(w:World):(Instr.field 225 (.agg #[a0,a1,a2,a3,a4]) 2).run Tryz.prog w=.ok a2 w:=by kernel_rfl
def Tx{w w':World}(h:Below w.drew.heap.size w.drew w'):Bw w w':=⟨h.os,h.tape,h.output,h.size,h.block⟩
def Oi(h:C.Ms D X β w m)(n:Int)(hn:m.vals.length+1<=90000000000):Calls Tryz.prog 252 #[.p C.mb,.i n] w (MP C D X β w (m.push (ofInt n)) (.tuple #[])):=by
 have lb:=h.B3;have HP:=fun(W:World) (hb:Bw w W)=>((h.below hb).1.push (ofInt n) (by simp[Ca,ofInt]) hn);have HB:=fun(W:World) (hb:Bw w W)=>(h.below hb).2;go_in;go_wp2;go_region_law (first
  | (refine F9 rfl 99 _ _ rfl #[.pointer (some ⟨C.mb,4,none⟩),.agg #[.i 2,.bool false,.i n,.string ⟨#[]⟩,.pointer none]] z4pa Cn.o ?_;rintro e w2 ⟨rfl,h2,h3⟩;refine⟨_,rfl,?_⟩;have Au:=A0 h2;have Ab:Hid (A3 (dx D X) w w2):=A9.o.trans h3;clear h2 h3)
  | (refine F9 rfl 85 _ _ rfl #[.i n] z4pa (Yh n _) ?_;rintro e w1 ⟨rfl,hb1'⟩;refine⟨_,rfl,?_⟩;have A2:=Tx hb1';have Cn:=A0 (HP w1 A2);have A9:=A0 (HB w1 A2);have Bn:=A2.size;clear A2 hb1'))
 all_goals go_wp2
 all_goals go_end0
 all_goals exact⟨rfl,Au.o,Ab.o⟩
def L8(h:C.Ms D X β w m)(y:Bool)(hn:m.vals.length+1<=90000000000):Calls Tryz.prog 253 #[.p C.mb,.bool y] w (MP C D X β w (m.push (ofBool y)) (.tuple #[])):=by
 have lb:=h.B3;have HP:=fun(W:World) (hb:Bw w W)=>((h.below hb).1.push (ofBool y) (by simp[Ca,ofBool]) hn);have HB:=fun(W:World) (hb:Bw w W)=>(h.below hb).2;go_in;go_wp2;go_region_law (first
  | (refine F9 rfl 99 _ _ rfl #[.pointer (some ⟨C.mb,4,none⟩),.agg #[.i 1,.bool y,.i 0,.string ⟨#[]⟩,.pointer none]] z4pa Cn.o ?_;rintro e w2 ⟨rfl,h2,h3⟩;refine⟨_,rfl,?_⟩;have Au:=A0 h2;have Ab:Hid (A3 (dx D X) w w2):=A9.o.trans h3;clear h2 h3)
  | (refine F9 rfl 87 _ _ rfl #[.bool y] z4pa (A1t y _) ?_;rintro e w1 ⟨rfl,hb1'⟩;refine⟨_,rfl,?_⟩;have A2:=Tx hb1';have Cn:=A0 (HP w1 A2);have A9:=A0 (HB w1 A2);have Bn:=A2.size;clear A2 hb1'))
 all_goals go_wp2
 all_goals go_end0
 all_goals exact⟨rfl,Au.o,Ab.o⟩
def z16a {P:Prop} (h:P:=by
  generalize m.at' ((m.vals.length:Int)-2)=u at *;go_in;go_wp2_with fail
  refine HL.o.mono ?_;rintro e w ⟨rfl,rfl⟩;go_wp2_with fail
  refine HA1.mono ?_;rintro e w1 ⟨rfl,h1,h2⟩;have B5:=A0 h1;have A9:=A0 h2;have Bn:=h1.B3;unfold B7;go_wp2_with fail
  refine(HA2 w1 B5.o).mono ?_;rintro e w2 ⟨rfl,h1,h2⟩;have Au:=A0 h1;have Ab:Hid (A3 (dx D X) w w2):=A9.o.trans h2;unfold B7;go_wp2;go_ret;rw[HE.o];exact⟨rfl,Au.o,Ab.o⟩):P:=h
def L7(h:C.Ms D X β w m)(k:Nat):Calls Tryz.prog 250 #[.p C.mb,.n k] w (MP C D X β w m (.bool (m.both k))):=by
 have lb:=h.B3;have HL:=A0 h.len;have hfew:=h.C1.1;have HA1:=h.at' ((m.vals.length:Int)-1);have HA2:=fun(W:World) (hs:C.Ms D X β W m)=>hs.at' ((m.vals.length:Int)-1-1);have h2e:m.at' ((m.vals.length:Int)-1-1)=m.at' ((m.vals.length:Nat)-2):=by rw[show((m.vals.length:Nat):Int)-1-1=(m.vals.length:Nat)-2 by omega]
 rw[h2e]at HA2;have htop:m.at' ((m.vals.length:Int)-1)=m.top:=(U8 Bb m.vals).symm;rw[htop]at HA1;have vf0:=Uv;cases hq:(m.top.k==k)
 ·have t1:(((m.top.k:Nat):Int)==(k:Int))=false:=by rw[Am]at hq ⊢;omega
  have HE:Hid (m.both k=false):=by show _=_;unfold MS.both;rw[hq];rfl
  go_in;go_wp2_with fail
  refine HL.o.mono ?_;rintro e w ⟨rfl,rfl⟩;go_wp2_with fail
  refine HA1.mono ?_;rintro e w1 ⟨rfl,h1,h2⟩;have B5:=A0 h1;have A9:=A0 h2;have Bn:=h1.B3;unfold B7;go_wp2;go_ret;rw[HE.o];exact⟨rfl,B5.o,A9.o⟩
 ·cases Gd:((m.at' ((m.vals.length:Int)-2)).k==k)
  ·have t1:(((m.top.k:Nat):Int)==(k:Int))=true:=by rw[Fh]at hq ⊢;omega
   have t2:((((m.at' ((m.vals.length:Int)-2)).k:Nat):Int)==(k:Int))=false:=by rw[Am]at Gd ⊢;omega
   have HE:Hid (m.both k=false):=by show _=_;unfold MS.both;rw[hq,Gd];rfl
   exact z16a
  ·have t1:(((m.top.k:Nat):Int)==(k:Int))=true:=by rw[Fh]at hq ⊢;omega
   have t2:((((m.at' ((m.vals.length:Int)-2)).k:Nat):Int)==(k:Int))=true:=by rw[Fh]at Gd ⊢;omega
   have HE:Hid (m.both k=true):=by show _=_;unfold MS.both;rw[hq,Gd];rfl
   exact z16a
def MC.Ms.Ap5(h:C.Ms D X β w m):∀g,dx D X g->g<w.heap.size:=by
 obtain⟨ρ,s,x,fv,ab,lp,h⟩:=h;exact fun g hg=>(h.prot g hg).1
def MC.Ms.Ahs{Y:Nat->Prop}(h:C.Ms D (fun g=>X g\/Y g) β w m):C.Ms D X β w.drew m:=
 ((h.below (w':=w.drew) ⟨rfl,rfl,rfl,Af _,fun _ _=>rfl⟩).1).less (fun _ h=>.inl h) (fun _ _ _=>rfl) rfl
def Ys{w:World}{g:Nat}(a0 a1 a2 a3 a4:Value)(k:Nat)(h:k≠g):(((((w.setCell ⟨g,0,none⟩ a0).setCell ⟨g,1,none⟩ a1).setCell ⟨g,2,none⟩ a2).setCell ⟨g,3,none⟩ a3).setCell ⟨g,4,none⟩ a4).heap[k]?=w.heap[k]?:=by
 rw[Bh _ _ _ _ (by exact h),Bh _ _ _ _ (by exact h),Bh _ _ _ _ (by exact h),Bh _ _ _ _ (by exact h),Bh _ _ _ _ (by exact h)]
def Yr{E:Nat->Prop}{w:World}{g:Nat}(h:∀k,E k->k≠g)(a0 a1 a2 a3 a4:Value):A3 E w (((((w.setCell ⟨g,0,none⟩ a0).setCell ⟨g,1,none⟩ a1).setCell ⟨g,2,none⟩ a2).setCell ⟨g,3,none⟩ a3).setCell ⟨g,4,none⟩ a4):=
 ⟨by simp only[Uk],by simp only[Um],by simp only[Ul],by simp[World.setCell],fun k hk=>Ys _ _ _ _ _ k (h k hk)⟩
def A90{w:World}{g:Nat}{b0 b1 b2 b3 b4:Value}{t:TypeId}(h:w.heap[g]?=some (.cells #[b0,b1,b2,b3,b4] t (0,0)))(a0 a1 a2 a3 a4:Value):(((((w.setCell ⟨g,0,none⟩ a0).setCell ⟨g,1,none⟩ a1).setCell ⟨g,2,none⟩ a2).setCell ⟨g,3,none⟩ a3).setCell ⟨g,4,none⟩ a4).heap[g]?=some (.cells #[a0,a1,a2,a3,a4] t (0,0)):=by
 rw[heap_set (heap_set (heap_set (heap_set (heap_set h _) _) _) _) _];simp
def MC.Ms.Yq(h:C.Ms D X β w m){g:Nat}(hx:X g)(hd:¬D g)(a0 a1 a2 a3 a4:Value):C.Ms D X β (((((w.setCell ⟨g,0,none⟩ a0).setCell ⟨g,1,none⟩ a1).setCell ⟨g,2,none⟩ a2).setCell ⟨g,3,none⟩ a3).setCell ⟨g,4,none⟩ a4) m:=
 h.less (fun _ h=>h) (fun k _ hk=>Ys _ _ _ _ _ k (fun e=>hd (e ▸ hk (e ▸ hx)))) z4za
def Pd{w:World}{b:Nat}{a0 a1 a2 a3 a4:Value}{t:TypeId}(h:w.heap[b]?=some (.cells #[a0,a1,a2,a3,a4] t (0,0))):w.cell? ⟨b,0,none⟩=some a0/\w.cell? ⟨b,1,none⟩=some a1/\w.cell? ⟨b,2,none⟩=some a2/\w.cell? ⟨b,3,none⟩=some a3/\w.cell? ⟨b,4,none⟩=some a4/\(∀o,w.frozen? ⟨b,o,none⟩=false)/\b<w.heap.size:=
 ⟨A4 h 0 _ rfl,A4 h 1 _ rfl,A4 h 2 _ rfl,A4 h 3 _ rfl,A4 h 4 _ rfl,By h,A6 h⟩
def F1(h:C.Ms D X β w m):Calls Tryz.prog 210 #[.p C.mb] w (MP C D X β w m.pop.pop (.tuple #[B7 β m.pop.top,B7 β m.top])):=by
 have lb:=h.B3;have HPr:=A0 h.Ap5;obtain⟨w0,Dk⟩:∃w0,w0=(w.alloc (.cells #[.i 0,.bool false,.i 0,.string ⟨#[]⟩,.pointer none] 225)).alloc (.cells #[.i 0,.bool false,.i 0,.string ⟨#[]⟩,.pointer none] 225):=⟨_,rfl⟩;have Bq:Bw w w0:=by rw[Dk];exact Ah (Ah (Al _ _) (Af _) _) z4ra _
 have It:w0.heap.size=w.heap.size+2:=by rw[Dk];simp
 have h0:=h.more Bq;have hR1:w0.heap[w.heap.size]?=some (.cells #[.i 0,.bool false,.i 0,.string ⟨#[]⟩,.pointer none] 225 (0,0)):=by rw[Dk,Ck _ _ _ z4ra];exact Bp w _
 have G7:w0.heap[w.heap.size+1]?=some (.cells #[.i 0,.bool false,.i 0,.string ⟨#[]⟩,.pointer none] 225 (0,0)):=by
  have:=Bp (w.alloc (.cells #[.i 0,.bool false,.i 0,.string ⟨#[]⟩,.pointer none] 225)) (.cells #[.i 0,.bool false,.i 0,.string ⟨#[]⟩,.pointer none] 225);rw[Dk];simpa using this
 have HP0:=A0 h0.pop;have As:=A0 Dk;have Ag:A3 (dx D X) w w0:=⟨Bq.os,Bq.tape,Bq.output,Bq.size,fun g hg=>Bq.block g (HPr.o g hg)⟩;have HR1:=A0 hR1;have Hx:=A0 G7;have Av:=A0 It;have Er:dx D (fun g=>X g\/(w.heap.size<=g/\g<w0.heap.size)) w.heap.size:=.inr (.inr ⟨Af _,by omega⟩);have I5:dx D (fun g=>X g\/(w.heap.size<=g/\g<w0.heap.size)) (w.heap.size+1):=.inr (.inr ⟨by omega,by omega⟩);have Ks:=A0 Er;have HX2:=A0 I5;clear h Dk Bq h0 hR1 G7 It Er I5;go_in;go_wp2_with fail
 rw[←As.o];refine HP0.o.mono ?_;rintro e w1 ⟨rfl,h1,A2⟩;have hq1:=(A2.block _ Ks.o).trans HR1.o;have Gd:=(A2.block _ HX2.o).trans Hx.o;obtain⟨p0,p1,p2,p3,p4,fp,lp⟩:=Pd hq1;obtain⟨r0,r1,r2,r3,r4,fr,lr⟩:=Pd Gd;have hnD1:¬D w.heap.size:=fun hd=>by have:=HPr.o _ (.inl hd);omega
 have hnD2:¬D (w.heap.size+1):=fun hd=>by have:=HPr.o _ (.inl hd);omega
 have HQ1:=A0 hq1;have HQ2:=A0 Gd;have hxx:(fun g=>X g\/(w.heap.size<=g/\g<w0.heap.size)) (w.heap.size+1):=.inr ⟨by omega,by have:=Av.o;omega⟩;have hxy:(fun g=>X g\/(w.heap.size<=g/\g<w0.heap.size)) w.heap.size:=.inr ⟨by omega,by have:=Av.o;omega⟩;have HM1:=fun(a0 a1 a2 a3 a4:Value)=>(h1.Yq hxx hnD2 a0 a1 a2 a3 a4).pop;have A9:=A0 A2;have HXY:=A0 hxy;have HND1:=A0 hnD1;have HND2:=A0 hnD2;have HXX:=A0 hxx;clear h1 A2 hq1 Gd hnD1 hnD2 hxx hxy;unfold B7;go_wp2_with fail
 refine(HM1 _ _ _ _ _).mono ?_;rintro e w3 ⟨rfl,h3,Ay⟩;have hq1:=(Ay.block _ Ks.o).trans ((Ys _ _ _ _ _ _ z4ma).trans HQ1.o);have Gd:=(Ay.block _ HX2.o).trans (A90 HQ2.o _ _ _ _ _);obtain⟨w4,hw4⟩:∃w4,w4=(((((w3.setCell ⟨w.heap.size,0,none⟩ (.n m.pop.top.k)).setCell ⟨w.heap.size,1,none⟩ (.bool m.pop.top.y)).setCell ⟨w.heap.size,2,none⟩ (.i m.pop.top.n)).setCell ⟨w.heap.size,3,none⟩ (.s m.pop.top.t)).setCell ⟨w.heap.size,4,none⟩ (.pointer (Bf β m.pop.top))):=⟨_,rfl⟩;have Ax:w4.heap[w.heap.size]?=some (.cells #[.n m.pop.top.k,.bool m.pop.top.y,.i m.pop.top.n,.s m.pop.top.t,.pointer (Bf β m.pop.top)] 225 (0,0)):=by rw[hw4];exact A90 hq1 _ _ _ _ _
 have Bj:w4.heap[w.heap.size+1]?=some (.cells #[.n m.top.k,.bool m.top.y,.i m.top.n,.s m.top.t,.pointer (Bf β m.top)] 225 (0,0)):=by rw[hw4];exact(Ys _ _ _ _ _ _ z4ma).trans Gd
 have hm4:C.Ms D (fun g=>X g\/(w.heap.size<=g/\g<w0.heap.size)) β w4 m.pop.pop:=by rw[hw4];exact h3.Yq HXY.o HND1.o _ _ _ _ _
 have hne1:∀k,dx D X k->k≠w.heap.size:=fun k hk=>by have:=HPr.o k hk;omega
 have hne2:∀k,dx D X k->k≠w.heap.size+1:=fun k hk=>by have:=HPr.o k hk;omega
 have hb34:A3 (dx D X) w3 w4:=by rw[hw4];exact Yr hne1 _ _ _ _ _
 have hb13:A3 (dx D X) w1 w3:=A3.trans (Yr hne2 _ _ _ _ _) (A3.weak Ay (fun g hg=>hg.imp id .inl));have Bz:A3 (dx D X) w w4:=Ag.trans (A3.trans (A3.weak A9.o (fun g hg=>hg.imp id .inl)) (hb13.trans hb34));have HNe1:=A0 hne1;have HNe2:=A0 hne2;clear hb34 hb13 hne1 hne2;obtain⟨u0,u1,u2,u3,u4,fu,lu⟩:=Pd hq1;have HW4:=A0 hw4;have HM4:=A0 hm4;have D6:=A0 Bz;have Im:=A0 Ax;have HT2:=A0 Bj;clear h3 Ay hq1 Gd p0 p1 p2 p3 p4 fp lp r0 r1 r2 r3 r4 fr lr hw4 hm4 Bz Ax Bj;unfold B7;go_wp2;rw[←HW4.o];clear HW4 u0 u1 u2 u3 u4 fu lu;obtain⟨u0,u1,u2,u3,u4,fu,lu⟩:=Pd Im.o;obtain⟨v0,v1,v2,v3,v4,fv,lv⟩:=Pd HT2.o;go_region
 all_goals go_wp2
 all_goals refine B9 (v:=.tuple #[.agg #[.n m.pop.top.k,.bool m.pop.top.y,.i m.pop.top.n,.s m.pop.top.t,.pointer (Bf β m.pop.top)],.agg #[.n m.top.k,.bool m.top.y,.i m.top.n,.s m.top.t,.pointer (Bf β m.top)]]) (by simp[results,Tryz.results210,go_sem,u0,u1,u2,u3,u4,v0,v1,v2,v3,v4]) rfl ?_
 all_goals
  have q1:=(HM4.o.Yq HXY.o HND1.o (.n m.pop.top.k) (.bool m.pop.top.y) (.i m.pop.top.n) (.s m.pop.top.t) (.pointer (Bf β m.pop.top))).Yq HXX.o HND2.o (.n m.top.k) (.bool m.top.y) (.i m.top.n) (.s m.top.t) (.pointer (Bf β m.top));have q2:=(Yr (w:=w4) HNe1.o (.n m.pop.top.k) (.bool m.pop.top.y) (.i m.pop.top.n) (.s m.pop.top.t) (.pointer (Bf β m.pop.top))).trans (Yr HNe2.o (.n m.top.k) (.bool m.top.y) (.i m.top.n) (.s m.top.t) (.pointer (Bf β m.top)));exact⟨rfl,q1.Ahs,D6.o.trans (q2.trans (Eb _ _ 1))⟩
