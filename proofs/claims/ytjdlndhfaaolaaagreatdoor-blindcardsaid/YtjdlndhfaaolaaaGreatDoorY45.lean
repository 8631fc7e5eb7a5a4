import Derived.Test.YtjdlndhfaaolaaaGreatDoorY42
import Derived.Test.YtjdlndhfaaolaaaGreatDoorY43
set_option maxHeartbeats 20000000
set_option linter.all false
namespace Go.Proofs.YtjdlndhfaaolaaaGreatDoor
section
set_option maxRecDepth 100000
open Go.RowKit
open Go.Deep (BT)
variable {b o:Nat}{w:World}{cs:Array Value}{t:TypeId}{va:Option Addr}{vn vc:Nat}{xs:List Kn}
def A1g:(Tryz.prog.info? 407).map (fun i=>(i.zero,i.size,i.bytes))=some (some (.agg #[.bool false,.bool false,.i 0,.bool false,.i 0,.string ⟨#[]⟩,.pointer none]),7,56):=by kernel_rfl
def W0(h:E0 407 7 F8 b o w cs t va vn vc xs):Calls Tryz.prog 305 #[.pointer (some ⟨b,o,none⟩)] w fun e w'=>e=.returned (.n xs.length)/\w'=w:=by
 have c:=E6 h.blk h.cell;have lb:=A6 h.blk;have hv:vn=xs.length:=(Cm h.own).1;subst hv;go_in;exact z07a
def Aln(h:E0 407 7 F8 b o w cs t va vn vc xs)(i:Nat)(hi:i<xs.length)(hb:xs.length<=1000000):Calls Tryz.prog 318 #[.pointer (some ⟨b,o,none⟩),.int .i64 (i:Nat)] w fun e w'=>e=.returned (.agg #[.bool (xs[i]).kind,.bool (xs[i]).whole,.int .i64 ((xs[i]).like.k:Nat),.bool (xs[i]).like.y,.int .i64 (xs[i]).like.n,.string ⟨(xs[i]).like.t.toArray⟩,.pointer none])/\Bw w w':=by
 have c:=E6 h.blk h.cell;have lb:=A6 h.blk;have hv:vn=xs.length:=(Cm h.own).1;subst hv;obtain⟨g,rfl,hvn9,hcap,lg,hcell⟩:=G1 h.own z4ma;have d0:=hcell (i*7+0) _ ((D8 (sz:=7) (fun _=>rfl) xs i 0 hi z4ma).trans rfl);have d1:=hcell (i*7+1) _ ((D8 (sz:=7) (fun _=>rfl) xs i 1 hi z4ma).trans rfl);have d2:=hcell (i*7+2) _ ((D8 (sz:=7) (fun _=>rfl) xs i 2 hi z4ma).trans rfl);have d3:=hcell (i*7+3) _ ((D8 (sz:=7) (fun _=>rfl) xs i 3 hi z4ma).trans rfl);have d4:=hcell (i*7+4) _ ((D8 (sz:=7) (fun _=>rfl) xs i 4 hi z4ma).trans rfl);have d5:=hcell (i*7+5) _ ((D8 (sz:=7) (fun _=>rfl) xs i 5 hi z4ma).trans rfl);have d6:=hcell (i*7+6) _ ((D8 (sz:=7) (fun _=>rfl) xs i 6 hi z4ma).trans rfl);rw[Ma]at d0;generalize xs[i]=x at *;go_in;go_wp2;refine B9 (v:=.agg #[.bool x.kind,.bool x.whole,.int .i64 (x.like.k:Nat),.bool x.like.y,.int .i64 x.like.n,.string ⟨x.like.t.toArray⟩,.pointer none]) (by simp[results,Tryz.results318,go_sem]) rfl ⟨rfl,?_⟩;exact Ah (Al _ _) (Af _) _
def z21a {P:Prop} (h:P:=by
  go_wp2;refine B9 (v:=.agg #[.bool false,.bool false,.i 0,.bool false,.i 0,.string ⟨#[]⟩,.pointer none]) (by simp[results,Tryz.results318,go_sem]) rfl ⟨rfl,?_⟩;exact z09a):P:=h
def A6w(h:E0 407 7 F8 b o w cs t va vn vc xs)(i:Int)(hi:i<0\/(xs.length:Int)<=i):Calls Tryz.prog 318 #[.pointer (some ⟨b,o,none⟩),.i i] w fun e w'=>e=.returned (.agg #[.bool false,.bool false,.i 0,.bool false,.i 0,.string ⟨#[]⟩,.pointer none])/\Bw w w':=by
 have c:=E6 h.blk h.cell;have lb:=A6 h.blk;have hv:vn=xs.length:=(Cm h.own).1;subst hv;by_cases h0:i<0
 ·clear hi;go_in;exact z21a
 ·have h1:(xs.length:Int)<=i:=by omega
  go_in;exact z21a
def Sx(h:E0 407 7 F8 b o w cs t va vn vc xs)(i:Int)(hb:xs.length<=1000000)(x:Kn)(hx:x=if i<0 then E2 else(xs[i.toNat]?).getD E2):Calls Tryz.prog 318 #[.pointer (some ⟨b,o,none⟩),.int .i64 i] w fun e w'=>e=.returned (.agg #[.bool x.kind,.bool x.whole,.int .i64 (x.like.k:Nat),.bool x.like.y,.int .i64 x.like.n,.string ⟨x.like.t.toArray⟩,.pointer none])/\Below w.heap.size w w':=by
 by_cases h0:i<0
 ·rw[A7 h0]at hx;subst hx;exact A6w h i (.inl h0)
 ·rw[A1 h0]at hx;by_cases h1:i.toNat<xs.length
  ·rw[Eh h1]at hx;have:=Aln h i.toNat h1 hb;exact z2va
  ·rw[N6 z4ma]at hx;subst hx;exact A6w h i (.inr z4ma)
def Alo(h:E0 407 7 F8 b o w cs t va vn vc xs)(hn:xs.length<=900000)(u:Kn)(ho:o<cs.size):Calls Tryz.prog 307 #[.pointer (some ⟨b,o,none⟩),.agg #[.bool u.kind,.bool u.whole,.n u.like.k,.bool u.like.y,.i u.like.n,.s u.like.t,.pointer none]] w fun e w'=>e=.returned (.tuple #[])/\Zv 407 7 F8 b o w cs t va vn vc xs u w':=by
 have Ir:E0 407 7 F8 b o (w.alloc (.cells #[.bool u.kind,.bool u.whole,.n u.like.k,.bool u.like.y,.i u.like.n,.s u.like.t,.pointer none] 407)) cs t va vn vc xs:=h.keep (fun g hg=>Ck _ _ _ hg);have Bq:Bw w (w.alloc (.cells #[.bool u.kind,.bool u.whole,.n u.like.k,.bool u.like.y,.i u.like.n,.s u.like.t,.pointer none] 407)):=Ah (Al _ _) (Af _) _;have Fz:=Bp w (.cells #[.bool u.kind,.bool u.whole,.n u.like.k,.bool u.like.y,.i u.like.n,.s u.like.t,.pointer none] 407);have hlr:=Bs h.own;clear h;generalize hW:w.alloc (.cells #[.bool u.kind,.bool u.whole,.n u.like.k,.bool u.like.y,.i u.like.n,.s u.like.t,.pointer none] 407)=w0 at *;generalize hxb:w.heap.size=xb at *;have HW:=A0 hW;have HXb:=A0 hxb;have Ag:=A0 Bq;have hsz0:=Bq.size;clear hW Bq;have c:=E6 Ir.blk Ir.cell;have lb:=A6 Ir.blk;have hv:vn=xs.length:=(Cm Ir.own).1;subst hv;have x0:=A4 Fz 0 _ rfl;have x1:=A4 Fz 1 _ rfl;have x2:=A4 Fz 2 _ rfl;have x3:=A4 Fz 3 _ rfl;have x4:=A4 Fz 4 _ rfl;have x5:=A4 Fz 5 _ rfl;have x6:=A4 Fz 6 _ rfl;have lx:=A6 Fz;have hown:w0.drew.ownsRow 0 407 7 (.slice va xs.length vc) xs.length (C0 F8 xs):=Bc Ir.own (fun _ _ _=>rfl);have HH:=A0 Ir;have HNe:=A0 Ir.ne;have HLr:=A0 hlr;clear Ir Fz hxb hlr;go_in;go_wp2;rw[HW.o,HXb.o];go_region_law (refine Pt _ w0.heap.size #[.bool u.kind,.bool u.whole,.n u.like.k,.bool u.like.y,.i u.like.n,.s u.like.t,.pointer none] 407 (Bp w0.drew _) rfl (.tmp 8) (.tmp 10) 379 rfl 0 7 56 _ Tryz.underlying379 A1g rfl z4ma (.slice va xs.length vc) xs.length (C0 F8 xs) rfl rfl (hown.alloc _) rfl (fun v hv=>by simp at hv;rcases hv with rfl|rfl|rfl|rfl|rfl|rfl|rfl <;> rfl) z4ma z4ma (De _) ?_;intro g cap w1 Ev hgrow' hat' hg;have Fy:=Oh (Oo w0.drew _ none) hgrow';have hgrow:w0.grownBy w1 (Value.slice va xs.length vc).ownBlock:=⟨Fy.os,Fy.tape,Fy.output,Fy.size,Fy.block⟩;clear Fy;have hat:(Value.slice va xs.length vc).ownBlock=some g\/w0.heap.size<=g:=hat'.imp id (fun e=>by rw[e];simp);have A2:=(hgrow.block b lb (fun e=>HNe.o e.symm)).trans HH.o.blk;have c1:=E6 A2 HH.o.cell;have f1:=By A2;have Bn:=A6 A2;have A9:=A0 A2;have HOwn1:=A0 Ev;have HGrow:=A0 hgrow;have HAt:=A0 hat;clear A2 Ev hgrow hat hgrow' hat')
 all_goals go_wp2
 all_goals go_end0
 all_goals
  exact z0da
def Alk(h:E0 407 7 F8 b o w cs t va vn vc xs)(m:Nat)(hm:m<=xs.length)(ho:o<cs.size):Calls Tryz.prog 304 #[.pointer (some ⟨b,o,none⟩),.int .i64 (m:Nat)] w fun e w'=>e=.returned (.tuple #[])/\Ll 407 7 F8 b o w cs t va vn vc xs m w':=by
 have c:=E6 h.blk h.cell;have lb:=A6 h.blk;have hv:vn=xs.length:=(Cm h.own).1;subst hv;have fz:=By h.blk;have HNe:=A0 h.ne;by_cases he:m=xs.length
 ·subst he;go_in;go_wp2;refine B9 (v:=.tuple #[]) (by simp[results,Tryz.results304,go_sem]) rfl ⟨rfl,?_,Gm.refl _ _ _⟩;rw[Qo h.cell,Q1];exact h
 ·obtain⟨hl,⟨h2,h3⟩|⟨g,cap,cur,hv,_,hg,hcap',hmx,hsz,ht⟩⟩:=h.own
  ·omega
  ·injection hv with e1 e2 e3;subst e1 e3;have hgb:g≠b:=fun e=>h.ne z5ia;have fg:=By hg;have lg:=A6 hg;have hzs:(.agg #[.bool false,.bool false,.int .i64 0,.bool false,.int .i64 0,.string ⟨#[]⟩,.pointer none]:Value).cells.size=7:=rfl;have hmul:m*7+(xs.length-m)*7=xs.length*7:=by omega
   have hcs:∀j,j<(xs.length-m)*(.agg #[.bool false,.bool false,.int .i64 0,.bool false,.int .i64 0,.string ⟨#[]⟩,.pointer none]:Value).cells.size->(w.cell? ⟨g,m*7+j,none⟩).isSome=true:=by
    intro j hj;rw[hzs]at hj;rw[K2 w g (m*7+j) cur _ _ hg,Li z4ma];rfl
   have hcl:∀ty,(Builtin.clear_ #[379] ty #[.slice (some ⟨g,m*7,none⟩) (xs.length-m) (vc-m)]).run Tryz.prog w=.ok (.tuple #[]) (w.setCells g (m*7) (Builtin.zeroCells (.agg #[.bool false,.bool false,.int .i64 0,.bool false,.int .i64 0,.string ⟨#[]⟩,.pointer none]:Value).cells (xs.length-m)).toList):=
    fun ty=>A25 w 379 407 ty (.agg #[.bool false,.bool false,.int .i64 0,.bool false,.int .i64 0,.string ⟨#[]⟩,.pointer none]) Tryz.underlying379 Tryz.zeroValue407 (by rw[hzs];omega) (fun v hv=>by simp[Value.cells]at hv;rcases hv with rfl|rfl|rfl|rfl|rfl|rfl|rfl <;> rfl) g (m*7) (xs.length-m) (vc-m) z4ma hcs (fun j hj=>fg _)
   obtain⟨cur',k1,k2,k3⟩:=Su g 407 (0,0) (Builtin.zeroCells (.agg #[.bool false,.bool false,.int .i64 0,.bool false,.int .i64 0,.string ⟨#[]⟩,.pointer none]:Value).cells (xs.length-m)).toList (m*7) cur w hg;obtain⟨f1,f2,f3,f4,f5⟩:=N0 g (Builtin.zeroCells (.agg #[.bool false,.bool false,.int .i64 0,.bool false,.int .i64 0,.string ⟨#[]⟩,.pointer none]:Value).cells (xs.length-m)).toList (m*7) w;have A2:=(f5 b (fun e=>hgb e.symm)).trans h.blk;have HK3:=k3 (m*7) (Af _);have HF:=C3 f1 (C3 f2 (C3 f3 (C3 f4 f5)));have HSz:=k2.trans hsz;have hlen9:=hcap';have c1:=E6 A2 h.cell;have g1:=By A2;have Bn:=A6 A2;generalize w.setCells g (m*7) (Builtin.zeroCells (.agg #[.bool false,.bool false,.int .i64 0,.bool false,.int .i64 0,.string ⟨#[]⟩,.pointer none]:Value).cells (xs.length-m)).toList=w1 at *;go_in;go_wp2;go_end0;obtain⟨p1,p2,p3,p4,p5⟩:=HF;have hset:∀k,k≠b->(w1.setCell ⟨b,o,none⟩ (.slice (some ⟨g,0,none⟩) m vc)).heap[k]?=w1.heap[k]?:=fun k hk=>Bh _ _ _ _ z5ja;refine⟨rfl,⟨heap_set A2 _,?_,⟨?_,.inr ⟨g,vc,cur',?_,De _,(hset g hgb).trans k1,?_,hmx,HSz,?_⟩⟩,?_⟩,⟨p1,p2,p3,by simp[World.setCell];omega,fun k hk hkb hkr=>?_⟩⟩
   ·rw[N5,A7 rfl,A7 ho]
   ·exact Nw (f:=F8) (sz:=7) (fun _=>rfl) _
   ·rw[G3,Hp hm]
   ·rw[G3,Hp hm];omega
   ·rw[G3,Hp hm,HK3,←A23 (sz:=7) (fun _=>rfl),←ht,Sd,Hp z4ma]
   ·exact z3ca
   ·exact z37a
def z3sa {P:Prop} (h:P:=by
  go_wp2;refine B9 (v:=.tuple #[]) (by simp[results,Tryz.results304,go_sem]) rfl ⟨rfl,rfl⟩):P:=h
def Alm(h:E0 407 7 F8 b o w cs t va vn vc xs)(i:Int)(hi:i<0):Calls Tryz.prog 304 #[.pointer (some ⟨b,o,none⟩),.i i] w fun e w'=>e=.returned (.tuple #[])/\w'=w:=by
 have c:=E6 h.blk h.cell;have lb:=A6 h.blk;have hv:vn=xs.length:=(Cm h.own).1;subst hv;go_in;exact z3sa
def All(h:E0 407 7 F8 b o w cs t va vn vc xs)(i:Int)(hi:(xs.length:Int)<=i):Calls Tryz.prog 304 #[.pointer (some ⟨b,o,none⟩),.i i] w fun e w'=>e=.returned (.tuple #[])/\w'=w:=by
 have c:=E6 h.blk h.cell;have lb:=A6 h.blk;have hv:vn=xs.length:=(Cm h.own).1;subst hv;have h0:¬i<0:=by omega
 go_in;exact z3sa
end
section
set_option maxRecDepth 100000
open Go.RowKit
open Go.Deep (BT)
def Bm(x:Kn):Value:=.agg #[.bool x.kind,.bool x.whole,.n x.like.k,.bool x.like.y,.i x.like.n,.s x.like.t,.pointer none]
def P1(k:Nat)(w:World):Calls Tryz.prog 289 #[.n k] w fun e w'=>e=.returned (Bm (Dh k))/\Bw w w':=by
 go_in;go_wp2;refine B9 (v:=.agg #[.bool true,.bool false,.n k,.bool false,.i 0,.string ⟨#[]⟩,.pointer none]) (by simp[results,Tryz.results289,go_sem]) rfl ⟨rfl,?_⟩;exact z09a
def A1k(v:PV)(w:World):Calls Tryz.prog 290 #[.agg #[.n v.k,.bool v.y,.i v.n,.s v.t,.pointer none]] w fun e w'=>e=.returned (Bm (Lf v))/\Bw w w':=by
 go_in;go_wp2;refine B9 (v:=.agg #[.bool true,.bool true,.n v.k,.bool v.y,.i v.n,.s v.t,.pointer none]) (by simp[results,Tryz.results290,go_sem]) rfl ⟨rfl,?_⟩;exact z09a
def cast_eq(a b:Nat):(((a:Nat):Int)==((b:Nat):Int))=(a==b):=by
 by_cases h:a=b
 ·rw[h];simp
 ·have h1:(a==b)=false:=by simp[h]
  rw[h1,Am];omega
def z2ta {P:Prop} (h:P:=by
  cases hk:x.kind
  ·go_in;go_wp2;go_ret;refine⟨rfl,?_⟩;exact z09a
  ·go_in;go_wp2;go_ret;refine⟨rfl,?_⟩;exact z09a):P:=h
def Rx(x:Kn)(kd:Nat)(w:World):Calls Tryz.prog 301 #[Bm x,.n kd] w fun e w'=>e=.returned (.bool (x.sure kd))/\Bw w w':=by
 have hq:=cast_eq x.like.k kd;unfold Kn.sure Bm;generalize (x.like.k==kd)=q at *;exact z2ta
def Aku{n:Nat}(w:World)(sa:Option Addr)(sc:Nat)(i:Nat)(hi:n<=i):Calls Tryz.prog 291 #[.slice sa n sc,.n i] w fun e w'=>e=.returned (.i 0)/\w'=w:=by
 have t0:decide (((n:Nat):Int)<=((i:Nat):Int))=true:=by rw[Jg];omega
 go_in;exact z07a
def Akt(w:World)(g o n sc:Nat)(i:Nat)(x:Int)(hi:i<n)(hc:w.cell? ⟨g,o+i,none⟩=some (.i x)):Calls Tryz.prog 291 #[.slice (some ⟨g,o,none⟩) n sc,.n i] w fun e w'=>e=.returned (.i x)/\w'=w:=by
 have t0:¬((n:Nat):Int)<=((i:Nat):Int):=by omega
 go_in;exact z07a
def Ams(o:Nat)(w:World):Calls Tryz.prog 302 #[.n o] w fun e w'=>e=.returned (.n (Ik o))/\w'=w:=by
 by_cases h12:o=12
 ·have e:Ik o=13:=by rw[h12];rfl
  rw[e,h12];go_in;exact z07a
 by_cases h15:o=15
 ·have e:Ik o=16:=by rw[h15];rfl
  rw[e,h15];go_in;exact z07a
 by_cases h17:o=17
 ·have e:Ik o=18:=by rw[h17];rfl
  rw[e,h17];go_in;exact z07a
 by_cases h19:o=19
 ·have e:Ik o=20:=by rw[h19];rfl
  rw[e,h19];go_in;exact z07a
 by_cases h21:o=21
 ·have e:Ik o=22:=by rw[h21];rfl
  rw[e,h21];go_in;exact z07a
 by_cases h28:o=28
 ·have e:Ik o=32:=by rw[h28];rfl
  rw[e,h28];go_in;exact z07a
 by_cases h29:o=29
 ·have e:Ik o=33:=by rw[h29];rfl
  rw[e,h29];go_in;exact z07a
 by_cases h30:o=30
 ·have e:Ik o=34:=by rw[h30];rfl
  rw[e,h30];go_in;exact z07a
 by_cases h31:o=31
 ·have e:Ik o=35:=by rw[h31];rfl
  rw[e,h31];go_in;exact z07a
 have e:Ik o=o:=by unfold Ik;simp only[A1 h12,A1 h15,A1 h17,A1 h19,A1 h21,A1 h28,A1 h29,A1 h30,A1 h31]
 rw[e];have t12:(((o:Nat):Int)==12)=false:=by rw[Am];omega
 have t15:(((o:Nat):Int)==15)=false:=by rw[Am];omega
 have t17:(((o:Nat):Int)==17)=false:=by rw[Am];omega
 have t19:(((o:Nat):Int)==19)=false:=by rw[Am];omega
 have t21:(((o:Nat):Int)==21)=false:=by rw[Am];omega
 have t28:(((o:Nat):Int)==28)=false:=by rw[Am];omega
 have t29:(((o:Nat):Int)==29)=false:=by rw[Am];omega
 have t30:(((o:Nat):Int)==30)=false:=by rw[Am];omega
 have t31:(((o:Nat):Int)==31)=false:=by rw[Am];omega
 go_in;exact z07a
def Ui(β:Nat->Nat)(v:PV)(d:Nat)(w:World):(Op.equalIn (d+1) 223 (.pointer (Bf β v)) (.pointer none)).run Tryz.prog w=.ok (v.r==none) w:=by
 have hp:Tryz.prog.underlying 223=some (.pointer 356):=by kernel_rfl
 unfold Bf;cases hr:v.r with
 | none=>simp[Op.equalIn,P7 hp]
 | some y=>simp[Op.equalIn,P7 hp]
def z1pa {P:Prop} (h:P:=by
  have tk:((v.k:Int)==(x.like.k:Int))=(v.k==x.like.k):=cast_eq _ _;rw[hk]at tk;have ht2:=y9 v.t x.like.t;rw[ht]at ht2;have hqe:=fun(W:World)=>Ui β v 9998 W;rw[hr]at hqe;unfold Bm B7;go_in;go_wp2;go_ret;refine⟨rfl,?_⟩;exact z09a):P:=h
def Al8(x:Kn)(v:PV)(β:Nat->Nat)(w:World)(hw:x.whole=true)(hk:(v.k==x.like.k)=true)(hy:(v.y==x.like.y)=true)(hn:(v.n==x.like.n)=true)(ht:(v.t==x.like.t)=true)(hr:(v.r==none)=true):Calls Tryz.prog 294 #[Bm x,B7 β v] w fun e w'=>e=.returned (.bool true)/\Bw w w':=by
 exact z1pa
def z1ea {P:Prop} (h:P:=by
  have tk:((v.k:Int)==(x.like.k:Int))=(v.k==x.like.k):=cast_eq _ _;rw[hk]at tk;have hqe:=fun(W:World)=>Ui β v 9998 W;unfold Bm B7;go_in;go_wp2;go_ret;refine⟨rfl,?_⟩;exact z09a):P:=h
def Al5(x:Kn)(v:PV)(β:Nat->Nat)(w:World)(hw:x.whole=true)(hk:(v.k==x.like.k)=false):Calls Tryz.prog 294 #[Bm x,B7 β v] w fun e w'=>e=.returned (.bool false)/\Bw w w':=by
 exact z1ea
def Ala(x:Kn)(v:PV)(β:Nat->Nat)(w:World)(hw:x.whole=true)(hk:(v.k==x.like.k)=true)(hy:(v.y==x.like.y)=false):Calls Tryz.prog 294 #[Bm x,B7 β v] w fun e w'=>e=.returned (.bool false)/\Bw w w':=by
 exact z1ea
def Al6(x:Kn)(v:PV)(β:Nat->Nat)(w:World)(hw:x.whole=true)(hk:(v.k==x.like.k)=true)(hy:(v.y==x.like.y)=true)(hn:(v.n==x.like.n)=false):Calls Tryz.prog 294 #[Bm x,B7 β v] w fun e w'=>e=.returned (.bool false)/\Bw w w':=by
 exact z1ea
def Al9(x:Kn)(v:PV)(β:Nat->Nat)(w:World)(hw:x.whole=true)(hk:(v.k==x.like.k)=true)(hy:(v.y==x.like.y)=true)(hn:(v.n==x.like.n)=true)(ht:(v.t==x.like.t)=false):Calls Tryz.prog 294 #[Bm x,B7 β v] w fun e w'=>e=.returned (.bool false)/\Bw w w':=by
 have tk:((v.k:Int)==(x.like.k:Int))=(v.k==x.like.k):=cast_eq _ _;rw[hk]at tk;have ht2:=y9 v.t x.like.t;rw[ht]at ht2;have hqe:=fun(W:World)=>Ui β v 9998 W;unfold Bm B7;go_in;go_wp2;go_ret;refine⟨rfl,?_⟩;exact z09a
def Al7(x:Kn)(v:PV)(β:Nat->Nat)(w:World)(hw:x.whole=true)(hk:(v.k==x.like.k)=true)(hy:(v.y==x.like.y)=true)(hn:(v.n==x.like.n)=true)(ht:(v.t==x.like.t)=true)(hr:(v.r==none)=false):Calls Tryz.prog 294 #[Bm x,B7 β v] w fun e w'=>e=.returned (.bool false)/\Bw w w':=by
 exact z1pa
def Al4(x:Kn)(v:PV)(β:Nat->Nat)(w:World)(hw:x.whole=false):Calls Tryz.prog 294 #[Bm x,B7 β v] w fun e w'=>e=.returned (.bool (!x.kind||v.k==x.like.k))/\Bw w w':=by
 have hq:=cast_eq v.k x.like.k;generalize (v.k==x.like.k)=q at *;unfold Bm B7;exact z2ta
def Alb(x:Kn)(hx:x.like.r=none)(v:PV)(β:Nat->Nat)(w:World):Calls Tryz.prog 294 #[Bm x,B7 β v] w fun e w'=>e=.returned (.bool (x.is v))/\Bw w w':=by
 unfold Kn.is;cases hw:x.whole
 ·exact Al4 x v β w hw
 ·simp only[P6];unfold PV.same;rw[hx];cases hk:(v.k==x.like.k)
  ·simp only[V2];exact Al5 x v β w hw hk
  cases hy:(v.y==x.like.y)
  ·simp only[Uy,V2];exact Ala x v β w hw hk hy
  cases hn:(v.n==x.like.n)
  ·simp only[Uy,V2];exact Al6 x v β w hw hk hy hn
  cases ht:(v.t==x.like.t)
  ·simp only[Uy,V2];exact Al9 x v β w hw hk hy hn ht
  cases hr:(v.r==none)
  ·simp only[Uy];exact Al7 x v β w hw hk hy hn ht hr
  ·simp only[Uy];exact Al8 x v β w hw hk hy hn ht hr
def An8{w:World}{fb:Nat}{sl st:Value}{n:Nat}{ka:Option Addr}{kc:Nat}(h:w.heap[fb]?=some (.cells #[sl,st,.slice ka n kc] 381 (0,0))):Calls Tryz.prog 278 #[.p fb] w fun e w'=>e=.returned (.n n)/\w'=w:=by
 have c2:=A4 h 2 _ rfl;have lb:=A6 h;go_in;exact z07a
def Aj9{w:World}{fb:Nat}{sl st:Value}{n:Nat}{ka:Option Addr}{kc:Nat}{ks:List Kn}(h:w.heap[fb]?=some (.cells #[sl,st,.slice ka n kc] 381 (0,0)))(ho:w.ownsRow 0 407 7 (.slice ka n kc) ks.length (C0 F8 ks))(hk:∀x∈ks,x.like.r=none)(i:Nat)(hi:i<ks.length)(hl:ks.length<=10000)(v:PV)(β:Nat->Nat) :
  Calls Tryz.prog 279 #[.p fb,.n i,B7 β v] w fun e w'=>e=.returned (.bool (ks[i].is v))/\Bw w w':=by
 have hv0:=Bp w (.cells #[.n v.k,.bool v.y,.i v.n,.s v.t,.pointer (Bf β v)] 225);have h0:=alloc_old (o':=.cells #[.n v.k,.bool v.y,.i v.n,.s v.t,.pointer (Bf β v)] 225) h;have ho0:(w.alloc (.cells #[.n v.k,.bool v.y,.i v.n,.s v.t,.pointer (Bf β v)] 225)).ownsRow 0 407 7 (.slice ka n kc) ks.length (C0 F8 ks):=Bc ho (fun k _ hl=>Ck _ _ _ hl);have Bq:Bw w (w.alloc (.cells #[.n v.k,.bool v.y,.i v.n,.s v.t,.pointer (Bf β v)] 225)):=Ah (Al _ _) (Af _) _;obtain⟨w0,Dk⟩:∃w0,w0=w.alloc (.cells #[.n v.k,.bool v.y,.i v.n,.s v.t,.pointer (Bf β v)] 225):=⟨_,rfl⟩;rw[←Dk]at hv0 h0 ho0 Bq;clear h ho;have c2:=A4 h0 2 _ rfl;have lb:=A6 h0;obtain⟨p0,p1,p2,p3,p4,fp,lp⟩:=Pd hv0;have hvn:n=ks.length:=(Cm ho0).1;subst hvn;obtain⟨g,rfl,hvn9,hcap,lg,hcell⟩:=G1 ho0 z4ma;clear hvn9;have d0:=hcell (i*7+0) _ ((D8 (sz:=7) (fun _=>rfl) ks i 0 hi z4ma).trans rfl);have d1:=hcell (i*7+1) _ ((D8 (sz:=7) (fun _=>rfl) ks i 1 hi z4ma).trans rfl);have d2:=hcell (i*7+2) _ ((D8 (sz:=7) (fun _=>rfl) ks i 2 hi z4ma).trans rfl);have d3:=hcell (i*7+3) _ ((D8 (sz:=7) (fun _=>rfl) ks i 3 hi z4ma).trans rfl);have d4:=hcell (i*7+4) _ ((D8 (sz:=7) (fun _=>rfl) ks i 4 hi z4ma).trans rfl);have d5:=hcell (i*7+5) _ ((D8 (sz:=7) (fun _=>rfl) ks i 5 hi z4ma).trans rfl);have d6:=hcell (i*7+6) _ ((D8 (sz:=7) (fun _=>rfl) ks i 6 hi z4ma).trans rfl);rw[Ma]at d0;have HI:=fun(W:World)=>Alb ks[i] (hk _ (Ho hi)) v β W;have Ag:=A0 Bq;have ls0:=Bq.size;have As:=A0 Dk;clear h0 hcell ho0 hk Bq hv0 Dk;generalize ks[i]=x at *;unfold Bm at HI;unfold B7 at *;go_in;go_wp2;rw[←As.o];refine Jt 8 z4pa z4pa ?_;simp only[Jh,J1,Ia,Hl];iterate 8 (refine Fm (fun K' hK'=>?_);go_simp;refine hK' _ ?_;clear hK' K')
 refine Js ?_;go_wp2_with fail
 refine(HI _).mono ?_;rintro e w1 ⟨rfl,A2⟩;have A9:Bw w w1:=Ag.o.trans (Ib (b:=w0.drew) ⟨rfl,rfl,rfl,Af _,fun _ _=>rfl⟩ (A2.mono ls0));clear A2;go_wp2;go_ret;exact⟨rfl,A9⟩
def A6x{b o:Nat}{w:World}{cs:Array Value}{t:TypeId}{va:Option Addr}{vn vc:Nat}{xs:List Kn}(h:E0 407 7 F8 b o w cs t va vn vc xs)(hb:xs.length<=1000000)(x:Kn)(hx:x=xs.getLastD E2):Calls Tryz.prog 300 #[.pointer (some ⟨b,o,none⟩)] w fun e w'=>e=.returned (.agg #[.bool x.kind,.bool x.whole,.n x.like.k,.bool x.like.y,.i x.like.n,.s x.like.t,.pointer none])/\Bw w w':=by
 have lb:=A6 h.blk;have HL:=W0 (h.keep (w':=w.alloc (.cells #[.bool false,.bool false,.i 0,.bool false,.i 0,.string ⟨#[]⟩,.pointer none] 407)) (fun g hg=>Ck _ _ _ hg));have HA:=Sx (h.keep (w':=w.alloc (.cells #[.bool false,.bool false,.i 0,.bool false,.i 0,.string ⟨#[]⟩,.pointer none] 407)) (fun g hg=>Ck _ _ _ hg)) ((xs.length:Int)-1) hb x (by rw[hx];exact U8 _ xs);clear h hx;go_in;go_wp2_with fail
 refine HL.mono ?_;rintro e w0 ⟨rfl,Dk⟩;subst Dk;go_wp2_with fail
 refine HA.mono ?_;rintro e w1 ⟨rfl,A2⟩;have hR:=Gn A2 (Bp w (.cells #[.bool false,.bool false,.i 0,.bool false,.i 0,.string ⟨#[]⟩,.pointer none] 407));have r0:=A4 hR 0 _ rfl;have r1:=A4 hR 1 _ rfl;have r2:=A4 hR 2 _ rfl;have r3:=A4 hR 3 _ rfl;have r4:=A4 hR 4 _ rfl;have r5:=A4 hR 5 _ rfl;have r6:=A4 hR 6 _ rfl;have fr:=By hR;have lr:=A6 hR;have A9:Bw w w1:=(Ah (Al _ _) (Af _) _).trans (A2.mono z4ra);clear A2 hR HL HA;go_wp2;refine B9 (v:=.agg #[.bool x.kind,.bool x.whole,.n x.like.k,.bool x.like.y,.i x.like.n,.s x.like.t,.pointer none]) (by simp[results,Tryz.results300,go_sem,r0,r1,r2,r3,r4,r5,r6]) rfl ⟨rfl,?_⟩;iterate 7 refine B0 ?_ z4ra _
 exact A9
structure Gf (D : Nat -> Prop) (kb pb : Nat) (P : C5) (ps : List Kn) (pa : Option Addr) (pc : Nat) (w : World) (ab : List Kn) (va : Option Addr) (vc : Nat) : Prop where
 st:E0 407 7 F8 kb 2 w #[.p pb,.slice pa ps.length pc,.slice va ab.length vc] 414 va ab.length vc ab
 par:Dj D w 407 7 (.slice pa ps.length pc) ps.length (C0 F8 ps)
 prog:M0 D w pb P
 nd:¬D kb/\∀g,(Value.slice va ab.length vc).ownBlock=some g->¬D g
 lo:∀g,D g->g<w.heap.size
 C1:ab.length<=100000/\ps.length<=5000
variable {D:Nat->Prop} {kb pb:Nat} {P:C5} {ps:List Kn} {pa:Option Addr} {pc:Nat} {w w':World} {ab:List Kn} {va:Option Addr} {vc:Nat}
def Gf.below(h:Gf D kb pb P ps pa pc w ab va vc)(hb:Bw w w'):Gf D kb pb P ps pa pc w' ab va vc:=
 ⟨h.st.keep hb.block,h.par.keep (fun g hg hl=>⟨hb.block g hl,hg⟩),h.prog.keep (fun g hg hl=>⟨hb.block g hl,hg⟩),h.nd,fun g hg=>Cb (h.lo g hg) hb.size,h.C1⟩
def KP(w:World)(r:Value)(e:Ending)(w':World):Prop:=e=.returned r/\Bw w w'
def Xp{a b:World}{B:Nat}(h:Below B a b)(n:Nat):Below B a (b.drewN n):=⟨h.os,h.tape,h.output,h.size,h.block⟩
def Kq{w W:World}(hb:Bw w W){b:Nat}(hk:w.heap.size<=b)(c0 c1 c2 c3 c4 c5 c6:Value):Bw w (((((((W.setCell ⟨b,0,none⟩ c0).setCell ⟨b,1,none⟩ c1).setCell ⟨b,2,none⟩ c2).setCell ⟨b,3,none⟩ c3).setCell ⟨b,4,none⟩ c4).setCell ⟨b,5,none⟩ c5).setCell ⟨b,6,none⟩ c6):=by
 iterate 7 refine B0 ?_ hk _
 exact hb
def Mr(w:World)(o:Obj):Bw w (w.alloc o):=Ah (Al _ _) (Af _) _
def z1wa {P:Prop} (h:P:=by
  go_wp2;go_quiet (fail)
  go_wp2;refine B9 (v:=Bm E2) (by simp[results,Tryz.results298,go_sem,Bm,E2,Bb]) rfl ⟨rfl,?_⟩;exact Kq (Xp (Ah (Ah (Al _ _) (Af _) _) z4ra _) _) z4ma _ _ _ _ _ _ _):P:=h
def A7c(h:Gf D kb pb P ps pa pc w ab va vc)(i:Aa)(hn:¬(i.op=1/\i.arg<(ps.length:Nat))):Calls Tryz.prog 298 #[.p kb,Ac i] w (KP w (Bm E2)):=by
 have c1:=A4 h.st.blk 1 _ rfl;have lb:=A6 h.st.blk;unfold Ac;by_cases ho:i.op=1
 ·have t0:((i.op:Int)==1)=true:=by rw[ho];rfl
  have t1:¬i.arg<((ps.length:Nat):Int):=fun q=>hn ⟨ho,q⟩;go_in;exact z1wa
 ·have t0:((i.op:Int)==1)=false:=by rw[Am];omega
  go_in;exact z1wa
def Am9(h:Gf D kb pb P ps pa pc w ab va vc)(i:Aa)(ho:i.op=1)(j:Nat)(hj:i.arg=(j:Nat))(hl:j<ps.length):Calls Tryz.prog 298 #[.p kb,Ac i] w (KP w (Bm ps[j])):=by
 have c1:=A4 h.st.blk 1 _ rfl;have lb:=A6 h.st.blk;have hfew:=h.C1.2;have t0:((i.op:Int)==1)=true:=by rw[ho];rfl
 have t1:((j:Nat):Int)<((ps.length:Nat):Int):=by omega
 obtain⟨g,rfl,hvn9,hcap,lg,hcell⟩:=G1 h.par.1 z4ma;clear hvn9;have d0:=hcell (j*7+0) _ ((D8 (sz:=7) (fun _=>rfl) ps j 0 hl z4ma).trans rfl);have d1:=hcell (j*7+1) _ ((D8 (sz:=7) (fun _=>rfl) ps j 1 hl z4ma).trans rfl);have d2:=hcell (j*7+2) _ ((D8 (sz:=7) (fun _=>rfl) ps j 2 hl z4ma).trans rfl);have d3:=hcell (j*7+3) _ ((D8 (sz:=7) (fun _=>rfl) ps j 3 hl z4ma).trans rfl);have d4:=hcell (j*7+4) _ ((D8 (sz:=7) (fun _=>rfl) ps j 4 hl z4ma).trans rfl);have d5:=hcell (j*7+5) _ ((D8 (sz:=7) (fun _=>rfl) ps j 5 hl z4ma).trans rfl);have d6:=hcell (j*7+6) _ ((D8 (sz:=7) (fun _=>rfl) ps j 6 hl z4ma).trans rfl);rw[Ma]at d0;clear h hcell ho;generalize ps[j]=x at *;unfold Ac;rw[hj];go_in;go_wp2;go_quiet (fail)
 go_wp2;obtain⟨w5,L6⟩:∃w5,w5=(((w.alloc (.cells #[.n i.op,.n j,.n i.line,.n i.v.k,.bool i.v.y,.i i.v.n,.s i.v.t,.pointer none] 251)).alloc (.cells #[.bool false,.bool false,.i 0,.bool false,.i 0,.string ⟨#[]⟩,.pointer none] 407)).drewN nq):=⟨_,rfl⟩;rw[←L6];have Cz:Bw w w5:=by rw[L6];exact Xp (Ah (Ah (Al _ _) (Af _) _) z4ra _) _
 have q1:w5.heap[w.heap.size]?=some (.cells #[.n i.op,.n j,.n i.line,.n i.v.k,.bool i.v.y,.i i.v.n,.s i.v.t,.pointer none] 251 (0,0)):=by rw[L6];exact alloc_old (Bp w _)
 have q2:w5.heap[w.heap.size+1]?=some (.cells #[.bool false,.bool false,.i 0,.bool false,.i 0,.string ⟨#[]⟩,.pointer none] 407 (0,0)):=by
  rw[L6,show w.heap.size+1=(w.alloc (.cells #[.n i.op,.n j,.n i.line,.n i.v.k,.bool i.v.y,.i i.v.n,.s i.v.t,.pointer none] 251)).heap.size by simp];exact Bp (w.alloc (.cells #[.n i.op,.n j,.n i.line,.n i.v.k,.bool i.v.y,.i i.v.n,.s i.v.t,.pointer none] 251)) (.cells #[.bool false,.bool false,.i 0,.bool false,.i 0,.string ⟨#[]⟩,.pointer none] 407)
 have Ez:=A0 Cz;have hc5:∀(k o:Nat),k<w.heap.size->w5.cell? ⟨k,o,none⟩=w.cell? ⟨k,o,none⟩:=fun k o hk=>D9 (Cz.block k hk);rw[←hc5 _ _ lb]at c1;rw[←hc5 _ _ lg]at d0 d1 d2 d3 d4 d5 d6;have nn:=Bi q1;have r0:=A4 q2 0 _ rfl;have r1:=A4 q2 1 _ rfl;have r2:=A4 q2 2 _ rfl;have r3:=A4 q2 3 _ rfl;have r4:=A4 q2 4 _ rfl;have r5:=A4 q2 5 _ rfl;have r6:=A4 q2 6 _ rfl;have fr:=By q2;have lr:=A6 q2;have lb5:=Cb lb Cz.size;have lg5:=Cb lg Cz.size;clear L6 q1 q2 hc5 Cz;refine Jt 8 z4pa z4pa ?_;simp only[Jh,J1,Ia,Hl];iterate 8 (refine Fm (fun K' hK'=>?_);go_simp;refine hK' _ ?_;clear hK' K')
 refine Js ?_;go_wp2;refine B9 (v:=Bm x) (by simp[results,Tryz.results298,go_sem,Bm,r0,r1,r2,r3,r4,r5,r6]) rfl ⟨rfl,?_⟩;exact B8 (Kq Ez.o z4ma _ _ _ _ _ _ _)
def A7b(h:Gf D kb pb P ps pa pc w ab va vc)(i:Aa)(ha:0<=i.arg):Calls Tryz.prog 298 #[.p kb,Ac i] w (KP w (Bm (Mi ps i))):=by
 unfold Mi;by_cases ho:i.op=1
 ·rw[A7 ho];by_cases hl:i.arg.toNat<ps.length
  ·rw[Eh hl];exact Am9 h i ho i.arg.toNat z4ma hl
  ·rw[N6 z4ma];exact A7c h i (fun q=>hl z4ma)
 ·rw[A1 ho];exact A7c h i (fun q=>ho q.1)
def A2o(ab:List Kn):El ab=if((ab.length:Int)-1)<0 then E2 else(ab[((ab.length:Int)-1).toNat]?).getD E2:=U8 _ ab
def A2e(ab:List Kn):M8 ab=if((ab.length:Int)-1-1)<0 then E2 else(ab[((ab.length:Int)-1-1).toNat]?).getD E2:=by
 unfold M8;rw[U8];by_cases h:ab.length<=1
 ·rw[A7 z4qa,Mn]
 ·rw[A1 z4qa,Ai];rw[Sg,List.getElem?_dropLast];rw[Mn];congr 3
  omega
def A6t(h:Gf D kb pb P ps pa pc w ab va vc)(kd:Nat):Calls Tryz.prog 299 #[.p kb,.n kd] w (KP w (.bool (Gb ab kd))):=by
 have lb:=A6 h.st.blk;have hfew:=h.C1.1;have HL:=W0 h.st;have HA:=Sx h.st ((ab.length:Int)-1) z4ma (El ab) (A2o ab);unfold Gb;cases hx:(El ab).sure kd
 ·go_in;go_wp2_with fail
  refine HL.mono ?_;rintro e w1 ⟨rfl,Fe⟩;rw[Fe];go_wp2_with fail
  refine HA.mono ?_;rintro e w1 ⟨rfl,A2⟩;have B5:=A0 (fun(W:World)=>Rx (El ab) kd W);rw[hx]at B5;have A9:=A0 A2;have HM1:=A0 (h.below A2);have Bn:kb<w1.heap.size:=Cb lb A2.size;unfold Bm at B5;generalize El ab=x at *;go_wp2_with fail
  refine(B5.o _).mono ?_;rintro e w2 ⟨rfl,Ad⟩;have Ab:Hid (Bw w w2):=A9.o.trans (Ad.mono A9.o.size);have HM2:=A0 (HM1.o.below Ad);have Ed:kb<w2.heap.size:=Cb Bn Ad.size;go_wp2;go_ret;exact⟨rfl,Ab.o⟩
 ·go_in;go_wp2_with fail
  refine HL.mono ?_;rintro e w1 ⟨rfl,Fe⟩;rw[Fe];go_wp2_with fail
  refine HA.mono ?_;rintro e w1 ⟨rfl,A2⟩;have B5:=A0 (fun(W:World)=>Rx (El ab) kd W);rw[hx]at B5;have A9:=A0 A2;have HM1:=A0 (h.below A2);have Bn:kb<w1.heap.size:=Cb lb A2.size;unfold Bm at B5;generalize El ab=x at *;go_wp2_with fail
  refine(B5.o _).mono ?_;rintro e w2 ⟨rfl,Ad⟩;have Ab:Hid (Bw w w2):=A9.o.trans (Ad.mono A9.o.size);have HM2:=A0 (HM1.o.below Ad);have Ed:kb<w2.heap.size:=Cb Bn Ad.size;have HA2:=Sx HM2.o.st ((ab.length:Int)-1-1) (by have:=HM2.o.C1.1;omega) (M8 ab) (A2e ab);have Bu:=fun(W:World)=>Rx (M8 ab) kd W;unfold Bm at Bu;generalize hy:M8 ab=y at *;generalize hz:y.sure kd=z at *;go_wp2_with fail
  refine HA2.mono ?_;rintro e w3 ⟨rfl,Ay⟩;have Ba:Bw w w3:=Ab.o.trans (Ay.mono Ab.o.size);go_wp2_with fail
  refine(Bu _).mono ?_;rintro e w4 ⟨rfl,Bz⟩;have D6:Bw w w4:=Ba.trans (Bz.mono Ba.size);go_wp2;go_ret;exact⟨rfl,D6⟩
end
section
set_option maxRecDepth 100000
open Go.RowKit
open Go.Deep (BT)
variable {D:Nat->Prop} {kb pb:Nat} {P:C5} {ps:List Kn} {pa:Option Addr} {pc:Nat} {w w':World} {ab:List Kn} {va:Option Addr} {vc:Nat}
def Q9(ab:List Kn)(kd:Nat):Bool:=(El ab).sure kd||(M8 ab).sure kd
def Wp(ab:List Kn):Ny ab=if Q9 ab 2 then Dh 2 else if Q9 ab 3 then Dh 3 else E2:=rfl
def z67a {P:Prop} (h:P:=by simp[results,Tryz.results319,go_sem,Bm,Dh,r0,r1,r2,r3,r4,r5,r6]):P:=h
def z0xa {P:Prop} (h:P:=by
  unfold Bm Dh at HO;go_wp2_with fail
  refine HO.o.mono ?_;rintro e w9 ⟨rfl,Dm⟩;have Az:=(Dm.block _ lqr).trans HQr.o;have Dq:Hid (Bw w w9):=Ag.o.trans (N7 (HBr.o.trans (Dm.mono HBr.o.size)) ls0);have r0:=A4 Az 0 _ rfl;have r1:=A4 Az 1 _ rfl;have r2:=A4 Az 2 _ rfl;have r3:=A4 Az 3 _ rfl;have r4:=A4 Az 4 _ rfl;have r5:=A4 Az 5 _ rfl;have r6:=A4 Az 6 _ rfl;have fr:=By Az;have lr:=A6 Az;clear Dm Az HO;go_wp2;refine B9 (v:=Bm (Dh 3)) z67a rfl ⟨by rw[HRS.o],?_⟩;exact Kq Dq.o (Af _) _ _ _ _ _ _ _):P:=h
def z0wa {P:Prop} (h:P:=by
  unfold Bm Dh at HO;go_wp2_with fail
  refine HO.o.mono ?_;rintro e w9 ⟨rfl,Dm⟩;have Az:=(Dm.block _ lqr).trans HQr.o;have Dq:Hid (Bw w w9):=Ag.o.trans (N7 (HBr.o.trans (Dm.mono HBr.o.size)) ls0);have r0:=A4 Az 0 _ rfl;have r1:=A4 Az 1 _ rfl;have r2:=A4 Az 2 _ rfl;have r3:=A4 Az 3 _ rfl;have r4:=A4 Az 4 _ rfl;have r5:=A4 Az 5 _ rfl;have r6:=A4 Az 6 _ rfl;have fr:=By Az;have lr:=A6 Az;clear Dm Az HO;go_wp2;refine B9 (v:=Bm (Dh 2)) z67a rfl ⟨by rw[HRS.o],?_⟩;exact Kq Dq.o (Af _) _ _ _ _ _ _ _):P:=h
def Alp(h:Gf D kb pb P ps pa pc w ab va vc):Calls Tryz.prog 319 #[.p kb] w (KP w (Bm (Ny ab))):=by
 have Bq:=Mr w (.cells #[.bool false,.bool false,.i 0,.bool false,.i 0,.string ⟨#[]⟩,.pointer none] 407);have hq0:=Bp w (.cells #[.bool false,.bool false,.i 0,.bool false,.i 0,.string ⟨#[]⟩,.pointer none] 407);have h0:=h.below Bq;have C9:=A6 h0.st.blk;have hfew:=h.C1.1;have HL:=W0 h0.st;have HM:=A0 h0;have Ag:=A0 Bq;have HQ:=A0 hq0;have lq:=A6 hq0;clear h h0 Bq hq0;go_in;go_wp2_with fail
 refine HL.mono ?_;rintro e w1 ⟨rfl,Fe⟩;rw[Fe];clear Fe w1;obtain⟨w0,Dk⟩:∃w0,w0=w.alloc (.cells #[.bool false,.bool false,.i 0,.bool false,.i 0,.string ⟨#[]⟩,.pointer none] 407):=⟨_,rfl⟩;rw[←Dk]at HM Ag HQ HL C9 lq ⊢;clear Dk HL;have ls0:=Ag.o.size;go_wp2;go_loopg [12] 2 (fun k v wr=>∃i:Nat,v=.i i/\i+k=2/\(∀j,j<i->Q9 ab (j+2)=false)/\Bw w0 wr)
 case atStart=>exact⟨0,rfl,rfl,fun j hj=>by omega,Al _ _⟩
 case round=>
  obtain⟨i,rfl,hik,hno,hbr⟩:=hrel;have HBr:=A0 hbr;have HNo:=A0 hno;have HMr:=HM.o.below hbr;have lbr:=Cb C9 hbr.size;have HQr:=A0 ((hbr.block _ lq).trans HQ.o);have lqr:=Cb lq hbr.size;clear hbr hno;have h3:i=0\/i=1\/i=2:=by omega
  rcases h3 with rfl|rfl|rfl
  ·have hix:(Instr.index 457 (.agg #[.i 2,.i 3]) (.i 0)).run Tryz.prog wr=.ok (.i 2) wr:=by kernel_rfl
   have HA:=A0 (Sx HMr.st ((ab.length:Int)-1) z4ma (El ab) (A2o ab));have B5:=A0 (fun(W:World)=>Rx (El ab) 2 W);unfold Bm at B5;generalize hxx:El ab=x at *;have HXX:=A0 hxx;clear hxx;go_wp2_with fail
   refine HA.o.mono ?_;rintro e w2 ⟨rfl,Ad⟩;have hbr:=HBr.o.trans (Ad.mono HBr.o.size);clear HBr;have HBr:=A0 hbr;have HMr2:=A0 (HMr.below Ad);have HQr2:=A0 ((Ad.block _ lqr).trans HQr.o);have lqr2:=Cb lqr Ad.size;have lbr2:=Cb lbr Ad.size;clear Ad hbr HA HMr HQr lqr lbr;cases hs:x.sure 2
   ·rw[hs]at B5;have HA2:=A0 (fun(W:World) (hb:Bw w2 W)=>Sx (HMr2.o.below hb).st ((ab.length:Int)-1-1) z4ma (M8 ab) (A2e ab));have Bu:=A0 (fun(W:World)=>Rx (M8 ab) 2 W);unfold Bm at Bu;generalize hyy:M8 ab=y at *;have HYY:=A0 hyy;clear hyy;go_wp2_with fail
    refine(B5.o _).mono ?_;rintro e w3 ⟨rfl,Ay⟩;have HA3:=A0 (HA2.o w3 Ay);have hbr:=HBr.o.trans (Ay.mono HBr.o.size);clear HBr;have HBr:=A0 hbr;have HMr3:=A0 (HMr2.o.below Ay);have HQr3:=A0 ((Ay.block _ lqr2).trans HQr2.o);have lqr3:=Cb lqr2 Ay.size;have lbr3:=Cb lbr2 Ay.size;clear Ay hbr HA2 HMr2 HQr2 lqr2 lbr2;go_wp2_with fail
    refine HA3.o.mono ?_;rintro e w4 ⟨rfl,Bz⟩;have hbr:=HBr.o.trans (Bz.mono HBr.o.size);clear HBr;have HBr:=A0 hbr;have HQr4:=A0 ((Bz.block _ lqr3).trans HQr3.o);have lqr4:=Cb lqr3 Bz.size;have lbr4:=Cb lbr3 Bz.size;clear Bz hbr HA3 HMr3 HQr3 lqr3 lbr3;cases Bj:y.sure 2
    ·rw[Bj]at Bu;have HN2:Hid (Q9 ab 2=false):=by show(_||_)=false;rw[HXX.o,HYY.o,hs,Bj];rfl
     go_wp2_with fail
     refine(Bu.o _).mono ?_;rintro e w5 ⟨rfl,Cz⟩;have hbr:=HBr.o.trans (Cz.mono HBr.o.size);clear HBr;have HBr:=A0 hbr;clear Cz hbr;go_wp2;go_roundg (gk-1)
     case measure=>omega
     case rel=>exact⟨0+1,by simp,by omega,fun j hj=>(by rcases N2 j 0 with q|q;exact HNo.o j q;rw[show j+2=2 by omega];exact HN2.o),HBr.o⟩
    ·rw[Bj]at Bu;have HN2:Hid (Q9 ab 2=true):=by show(_||_)=true;rw[HXX.o,HYY.o,hs,Bj];rfl
     have HRS:Hid (Ny ab=Dh 2):=by show _=_;rw[Wp,HN2.o];rfl
     go_wp2_with fail
     refine(Bu.o _).mono ?_;rintro e w5 ⟨rfl,Cz⟩;have hbr:=HBr.o.trans (Cz.mono HBr.o.size);clear HBr;have HBr:=A0 hbr;have HQr:=A0 ((Cz.block _ lqr4).trans HQr4.o);have lqr:=Cb lqr4 Cz.size;clear Cz hbr HQr4 lqr4;have HO:=A0 (P1 2 w5);exact z0wa
   ·rw[hs]at B5;have HN2:Hid (Q9 ab 2=true):=by show(_||_)=true;rw[HXX.o,hs];rfl
    have HRS:Hid (Ny ab=Dh 2):=by show _=_;rw[Wp,HN2.o];rfl
    go_wp2_with fail
    refine(B5.o _).mono ?_;rintro e w3 ⟨rfl,Ay⟩;have hbr:=HBr.o.trans (Ay.mono HBr.o.size);clear HBr;have HBr:=A0 hbr;have HQr:=A0 ((Ay.block _ lqr2).trans HQr2.o);have lqr:=Cb lqr2 Ay.size;clear Ay hbr HQr2 lqr2;have HO:=A0 (P1 2 w3);exact z0wa
  ·have hix:(Instr.index 457 (.agg #[.i 2,.i 3]) (.i 1)).run Tryz.prog wr=.ok (.i 3) wr:=by kernel_rfl
   have HA:=A0 (Sx HMr.st ((ab.length:Int)-1) z4ma (El ab) (A2o ab));have B5:=A0 (fun(W:World)=>Rx (El ab) 3 W);unfold Bm at B5;generalize hxx:El ab=x at *;have HXX:=A0 hxx;clear hxx;go_wp2_with fail
   refine HA.o.mono ?_;rintro e w2 ⟨rfl,Ad⟩;have hbr:=HBr.o.trans (Ad.mono HBr.o.size);clear HBr;have HBr:=A0 hbr;have HMr2:=A0 (HMr.below Ad);have HQr2:=A0 ((Ad.block _ lqr).trans HQr.o);have lqr2:=Cb lqr Ad.size;have lbr2:=Cb lbr Ad.size;clear Ad hbr HA HMr HQr lqr lbr;cases hs:x.sure 3
   ·rw[hs]at B5;have HA2:=A0 (fun(W:World) (hb:Bw w2 W)=>Sx (HMr2.o.below hb).st ((ab.length:Int)-1-1) z4ma (M8 ab) (A2e ab));have Bu:=A0 (fun(W:World)=>Rx (M8 ab) 3 W);unfold Bm at Bu;generalize hyy:M8 ab=y at *;have HYY:=A0 hyy;clear hyy;go_wp2_with fail
    refine(B5.o _).mono ?_;rintro e w3 ⟨rfl,Ay⟩;have HA3:=A0 (HA2.o w3 Ay);have hbr:=HBr.o.trans (Ay.mono HBr.o.size);clear HBr;have HBr:=A0 hbr;have HMr3:=A0 (HMr2.o.below Ay);have HQr3:=A0 ((Ay.block _ lqr2).trans HQr2.o);have lqr3:=Cb lqr2 Ay.size;have lbr3:=Cb lbr2 Ay.size;clear Ay hbr HA2 HMr2 HQr2 lqr2 lbr2;go_wp2_with fail
    refine HA3.o.mono ?_;rintro e w4 ⟨rfl,Bz⟩;have hbr:=HBr.o.trans (Bz.mono HBr.o.size);clear HBr;have HBr:=A0 hbr;have HQr4:=A0 ((Bz.block _ lqr3).trans HQr3.o);have lqr4:=Cb lqr3 Bz.size;have lbr4:=Cb lbr3 Bz.size;clear Bz hbr HA3 HMr3 HQr3 lqr3 lbr3;cases Bj:y.sure 3
    ·rw[Bj]at Bu;have HN2:Hid (Q9 ab 3=false):=by show(_||_)=false;rw[HXX.o,HYY.o,hs,Bj];rfl
     go_wp2_with fail
     refine(Bu.o _).mono ?_;rintro e w5 ⟨rfl,Cz⟩;have hbr:=HBr.o.trans (Cz.mono HBr.o.size);clear HBr;have HBr:=A0 hbr;clear Cz hbr;go_wp2;go_roundg (gk-1)
     case measure=>omega
     case rel=>exact⟨1+1,by simp,by omega,fun j hj=>(by rcases N2 j 1 with q|q;exact HNo.o j q;rw[show j+2=3 by omega];exact HN2.o),HBr.o⟩
    ·rw[Bj]at Bu;have HN2:Hid (Q9 ab 3=true):=by show(_||_)=true;rw[HXX.o,HYY.o,hs,Bj];rfl
     have HRS:Hid (Ny ab=Dh 3):=by show _=_;rw[Wp,HNo.o 0 z4ma,HN2.o];rfl
     go_wp2_with fail
     refine(Bu.o _).mono ?_;rintro e w5 ⟨rfl,Cz⟩;have hbr:=HBr.o.trans (Cz.mono HBr.o.size);clear HBr;have HBr:=A0 hbr;have HQr:=A0 ((Cz.block _ lqr4).trans HQr4.o);have lqr:=Cb lqr4 Cz.size;clear Cz hbr HQr4 lqr4;have HO:=A0 (P1 3 w5);exact z0xa
   ·rw[hs]at B5;have HN2:Hid (Q9 ab 3=true):=by show(_||_)=true;rw[HXX.o,hs];rfl
    have HRS:Hid (Ny ab=Dh 3):=by show _=_;rw[Wp,HNo.o 0 z4ma,HN2.o];rfl
    go_wp2_with fail
    refine(B5.o _).mono ?_;rintro e w3 ⟨rfl,Ay⟩;have hbr:=HBr.o.trans (Ay.mono HBr.o.size);clear HBr;have HBr:=A0 hbr;have HQr:=A0 ((Ay.block _ lqr2).trans HQr2.o);have lqr:=Cb lqr2 Ay.size;clear Ay hbr HQr2 lqr2;have HO:=A0 (P1 3 w3);exact z0xa
  ·have HRS:Hid (Ny ab=E2):=by show _=_;rw[Wp,HNo.o 0 z4ma,HNo.o 1 z4ma];rfl
   have r0:=A4 HQr.o 0 _ rfl;have r1:=A4 HQr.o 1 _ rfl;have r2:=A4 HQr.o 2 _ rfl;have r3:=A4 HQr.o 3 _ rfl;have r4:=A4 HQr.o 4 _ rfl;have r5:=A4 HQr.o 5 _ rfl;have r6:=A4 HQr.o 6 _ rfl;have fr:=By HQr.o;have Dq:Hid (Bw w wr):=Ag.o.trans (N7 HBr.o ls0);go_wp2;refine B9 (v:=Bm E2) (by simp[results,Tryz.results319,go_sem,Bm,E2,Bb,r0,r1,r2,r3,r4,r5,r6]) rfl ⟨by rw[HRS.o],?_⟩;exact Kq Dq.o (Af _) _ _ _ _ _ _ _
def Auw(w:World)(i:Aa)(h:i.op=0\/i.op=1\/i.op=2\/i.op=6\/i.op=43):Calls Tryz.prog 306 #[.p kb,Ac i] w (KP w (.i 0)):=by
 obtain⟨op,arg,line,v⟩:=i;unfold Ac;dsimp only at *;rcases h with rfl|rfl|rfl|rfl|rfl <;>
  (go_in;go_wp2;go_ret;exact⟨rfl,Mr _ _⟩)
def z34a {P:Prop} (h:P:=by
  obtain⟨op,arg,line,v⟩:=i;unfold Ac;dsimp only at *;subst h;
   (go_in;go_wp2;go_ret;exact⟨rfl,Mr _ _⟩)):P:=h
def Auz(w:World)(i:Aa)(h:i.op=36):Calls Tryz.prog 306 #[.p kb,Ac i] w (KP w (.i i.arg)):=by
 exact z34a
def Av0(w:World)(i:Aa)(h:i.op=40):Calls Tryz.prog 306 #[.p kb,Ac i] w (KP w (.i 3)):=by
 exact z34a
def Auy(w:World)(i:Aa)(h:i.op=12\/i.op=15\/i.op=17\/i.op=19\/i.op=21\/i.op=38\/i.op=39\/i.op=25\/i.op=26\/i.op=28\/i.op=29\/i.op=30\/i.op=31):Calls Tryz.prog 306 #[.p kb,Ac i] w (KP w (.i 2)):=by
 obtain⟨op,arg,line,v⟩:=i;unfold Ac;dsimp only at *;rcases h with rfl|rfl|rfl|rfl|rfl|rfl|rfl|rfl|rfl|rfl|rfl|rfl|rfl <;>
  (go_in;go_wp2;go_ret;exact⟨rfl,Mr _ _⟩)
def Aux(w:World)(i:Aa)(h:¬(i.op=0\/i.op=1\/i.op=2\/i.op=6\/i.op=43\/i.op=36\/i.op=42\/i.op=40\/i.op=12\/i.op=15\/i.op=17\/i.op=19\/i.op=21\/i.op=38\/i.op=39\/i.op=25\/i.op=26\/i.op=28\/i.op=29\/i.op=30\/i.op=31)):Calls Tryz.prog 306 #[.p kb,Ac i] w (KP w (.i 1)):=by
 have t0:((i.op:Int)==0)=false:=by rw[Am];omega
 have t1:((i.op:Int)==1)=false:=by rw[Am];omega
 have t2:((i.op:Int)==2)=false:=by rw[Am];omega
 have t6:((i.op:Int)==6)=false:=by rw[Am];omega
 have t43:((i.op:Int)==43)=false:=by rw[Am];omega
 have t36:((i.op:Int)==36)=false:=by rw[Am];omega
 have t42:((i.op:Int)==42)=false:=by rw[Am];omega
 have t40:((i.op:Int)==40)=false:=by rw[Am];omega
 have t12:((i.op:Int)==12)=false:=by rw[Am];omega
 have t15:((i.op:Int)==15)=false:=by rw[Am];omega
 have t17:((i.op:Int)==17)=false:=by rw[Am];omega
 have t19:((i.op:Int)==19)=false:=by rw[Am];omega
 have t21:((i.op:Int)==21)=false:=by rw[Am];omega
 have t38:((i.op:Int)==38)=false:=by rw[Am];omega
 have t39:((i.op:Int)==39)=false:=by rw[Am];omega
 have t25:((i.op:Int)==25)=false:=by rw[Am];omega
 have t26:((i.op:Int)==26)=false:=by rw[Am];omega
 have t28:((i.op:Int)==28)=false:=by rw[Am];omega
 have t29:((i.op:Int)==29)=false:=by rw[Am];omega
 have t30:((i.op:Int)==30)=false:=by rw[Am];omega
 have t31:((i.op:Int)==31)=false:=by rw[Am];omega
 unfold Ac;go_in;go_wp2;go_ret;exact⟨rfl,Mr _ _⟩
def Av1(h:Gf D kb pb P ps pa pc w ab va vc)(i:Aa)(ho:i.op=42)(j:Nat)(hj:i.arg=(j:Nat))(f:Fn)(hf:P.fns[j]?=some f)(hN:P.fns.length<=1000000):Calls Tryz.prog 306 #[.p kb,Ac i] w (KP w (.n f.params)):=by
 have c0:=A4 h.st.blk 0 _ rfl;have lb:=A6 h.st.blk;obtain⟨hb,hc,sa,sn,sc,p3,hcc,_,_,lp,lh,hlt,d1,_,_,_⟩:=h.prog.Y5 hf;have hfew:P.fns.length<=1000000:=hN;have t42:((i.op:Int)==42)=true:=by rw[ho];rfl
 have t0:((i.op:Int)==0)=false:=by rw[ho];rfl
 have t1:((i.op:Int)==1)=false:=by rw[ho];rfl
 have t2:((i.op:Int)==2)=false:=by rw[ho];rfl
 have t6:((i.op:Int)==6)=false:=by rw[ho];rfl
 have t43:((i.op:Int)==43)=false:=by rw[ho];rfl
 have t36:((i.op:Int)==36)=false:=by rw[ho];rfl
 clear ho;unfold Ac;rw[hj];go_in;go_wp2;go_quiet (fail)
 go_wp2;go_ret;exact⟨rfl,Xp (Mr _ _) _⟩
def A6y(h:Gf D kb pb P ps pa pc w ab va vc)(i:Aa)(ha:0<=i.arg)(hc:i.op=42->i.arg.toNat<P.fns.length)(hN:P.fns.length<=1000000):Calls Tryz.prog 306 #[.p kb,Ac i] w (KP w (.i (Dv P i))):=by
 unfold Dv;by_cases h0:i.op=0\/i.op=1\/i.op=2\/i.op=6\/i.op=43
 ·rw[A7 h0];exact Auw w i h0
 rw[A1 h0];by_cases h36:i.op=36
 ·rw[A7 h36];exact Auz w i h36
 rw[A1 h36];by_cases h42:i.op=42
 ·rw[A7 h42];have hl:=hc h42;rw[Eh hl];exact Av1 h i h42 i.arg.toNat z4ma _ (Eh hl) hN
 rw[A1 h42];by_cases h40:i.op=40
 ·rw[A7 h40];exact Av0 w i h40
 rw[A1 h40];by_cases h2:i.op=12\/i.op=15\/i.op=17\/i.op=19\/i.op=21\/i.op=38\/i.op=39\/i.op=25\/i.op=26\/i.op=28\/i.op=29\/i.op=30\/i.op=31
 ·rw[A7 h2];exact Auy w i h2
 rw[A1 h2];exact Aux w i z4ma
