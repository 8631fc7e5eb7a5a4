import Derived.Test.YtjdlndhfaaolaaaGreatDoorY17
import Derived.Test.YtjdlndhfaaolaaaGreatDoorY33
set_option maxHeartbeats 20000000
set_option linter.all false
namespace Go.Proofs.YtjdlndhfaaolaaaGreatDoor
section
set_option maxRecDepth 100000
open Go.RowKit
open Go.Deep (BT)
variable {C:MC} {D X:Nat->Prop} {w w':World} {m:MS} {β:Nat->Nat}
def Dd(X:Nat->Prop)(w:World):Nat->Prop:=fun g=>X g\/(w.heap.size<=g/\g<w.heap.size+1)
def MC.Ms.back(h:C.Ms D (Dd X w) β w' m):C.Ms D X β w' m:=h.less (fun _ h=>.inl h) (fun _ _ _=>rfl) rfl
def Ae{w1 w2:World}(h:A3 (dx D (Dd X w)) w1 w2):A3 (dx D X) w1 w2:=h.weak (fun _ hg=>hg.imp id .inl)
def MC.Ms.J6(h:C.Ms D X β w m):C.Ms D X β w.drew m:=(h.below (w':=w.drew) ⟨rfl,rfl,rfl,Af _,fun _ _=>rfl⟩).1
def MC.Ms.enter(h:C.Ms D X β w m)(o:Obj):C.Ms D (Dd X w) β (w.alloc o) m/\A3 (dx D X) w (w.alloc o)/\dx D (Dd X w) w.heap.size:=by
 have hb:Bw w (w.alloc o):=Ah (Al _ _) (Af _) _;refine⟨?_,(h.below hb).2,.inr (.inr ⟨Af _,by omega⟩)⟩;have:=h.more hb;rw[K3]at this;exact this
def Bi{w:World}{b:Nat}{a0 a1 a2 a3 a4 a5 a6 a7:Value}{t:TypeId}(h:w.heap[b]?=some (.cells #[a0,a1,a2,a3,a4,a5,a6,a7] t (0,0))):w.cell? ⟨b,0,none⟩=some a0/\w.cell? ⟨b,1,none⟩=some a1/\w.cell? ⟨b,2,none⟩=some a2/\w.cell? ⟨b,3,none⟩=some a3/\w.cell? ⟨b,4,none⟩=some a4/\w.cell? ⟨b,5,none⟩=some a5/\w.cell? ⟨b,6,none⟩=some a6/\w.cell? ⟨b,7,none⟩=some a7/\b<w.heap.size:=
 ⟨A4 h 0 _ rfl,A4 h 1 _ rfl,A4 h 2 _ rfl,A4 h 3 _ rfl,A4 h 4 _ rfl,A4 h 5 _ rfl,A4 h 6 _ rfl,A4 h 7 _ rfl,A6 h⟩
def MC.Ms.Ci(h:C.Ms D X β w m)(i:Aa):∃w0,Hid (w0=w.alloc (.cells #[.n i.op,.i i.arg,.n i.line,.n i.v.k,.bool i.v.y,.i i.v.n,.s i.v.t,.pointer none] 251))/\Hid (C.Ms D (Dd X w) β w0 m)/\Hid (A3 (dx D X) w w0)/\Hid (dx D (Dd X w) w.heap.size)/\Hid (w0.heap[w.heap.size]?=some (.cells #[.n i.op,.i i.arg,.n i.line,.n i.v.k,.bool i.v.y,.i i.v.n,.s i.v.t,.pointer none] 251 (0,0)))/\w0.cell? ⟨w.heap.size,0,none⟩=some (.n i.op)/\w0.cell? ⟨w.heap.size,1,none⟩=some (.i i.arg)/\w0.cell? ⟨w.heap.size,2,none⟩=some (.n i.line)/\w0.cell? ⟨w.heap.size,3,none⟩=some (.n i.v.k)/\w0.cell? ⟨w.heap.size,4,none⟩=some (.bool i.v.y)/\w0.cell? ⟨w.heap.size,5,none⟩=some (.i i.v.n)/\w0.cell? ⟨w.heap.size,6,none⟩=some (.s i.v.t)/\w0.cell? ⟨w.heap.size,7,none⟩=some (.pointer none)/\w.heap.size<w0.heap.size/\C.mb<w.heap.size/\C.mb<w0.heap.size:=by
 obtain⟨h0,Bq,Fz⟩:=h.enter (.cells #[.n i.op,.i i.arg,.n i.line,.n i.v.k,.bool i.v.y,.i i.v.n,.s i.v.t,.pointer none] 251);have hi0:=Bp w (.cells #[.n i.op,.i i.arg,.n i.line,.n i.v.k,.bool i.v.y,.i i.v.n,.s i.v.t,.pointer none] 251);obtain⟨n0,n1,n2,n3,n4,n5,n6,n7,ln⟩:=Bi hi0;exact⟨_,A0 rfl,A0 h0,A0 Bq,A0 Fz,A0 hi0,n0,n1,n2,n3,n4,n5,n6,n7,ln,h.B3,h0.B3⟩
def z1va {P:Prop} (h:P:=by
  refine Js ?_;go_wp2_with fail
  refine(HP).mono ?_;rintro e w1 ⟨rfl,h1,k1⟩;have B5:=A0 h1.back;have A9:A3 (dx D X) w w1:=Ag.o.trans ((Eb _ w0 1).trans (Ae k1));go_wp2;go_end0;exact⟨rfl,B5.o,A9⟩):P:=h
def aconst(h:C.Ms D X β w m)(i:Aa)(hr:i.v.r=none)(hk:i.v.k≠4)(hn:m.vals.length+1<=90000000000):Calls Tryz.prog 148 #[.p C.mb,Ac i] w (MP C D X β w (m.push i.v) (.tuple #[])):=by
 obtain⟨w0,As,Av,Ag,Ao,Aw,nn,lb,C9⟩:=h.Ci i;have HP:=(Av.o.J6).push i.v (by unfold Ca;rw[hr];exact hk) hn;have hrf:Bf β i.v=none:=by unfold Bf;rw[hr]
 unfold B7 at HP;rw[hrf]at HP;unfold Ac;go_in;go_wp2;rw[←As.o];refine Jt 5 z4pa z4pa ?_;simp only[Jh,J1,Ia,Hl];iterate 5 (refine Fm (fun K' hK'=>?_);go_simp;refine hK' _ ?_;clear hK' K')
 exact z1va
def Acu(h:C.Ms D X β w m)(i:Aa):Calls Tryz.prog 153 #[.p C.mb,Ac i] w (MP C D X β w (m.pop) (.tuple #[])):=by
 obtain⟨w0,As,Av,Ag,Ao,Aw,nn,lb,C9⟩:=h.Ci i;have HP:=A0 Av.o.pop;unfold Ac;go_in;go_wp2_with fail
 rw[←As.o];refine HP.o.mono ?_;rintro e w1 ⟨rfl,h1,k1⟩;have B5:=A0 h1.back;have A9:A3 (dx D X) w w1:=Ag.o.trans (Ae k1);unfold B7;go_wp2;go_end0;exact⟨rfl,B5.o,A9⟩
def z4ja {P:Prop} (h:P:=by
  exact⟨rfl,Au.o,Ab⟩):P:=h
def Abq(h:C.Ms D X β w m)(i:Aa):Calls Tryz.prog 157 #[.p C.mb,Ac i] w (MP C D X β w (if m.top.k=1 then m else m.fail 5 i) (.tuple #[])):=by
 obtain⟨w0,As,Av,Ag,Ao,Aw,nn,lb,C9⟩:=h.Ci i;have HP:=A0 Av.o.top;have HF:=fun(W:World) (hs:C.Ms D (Dd X w) β W m)=>Ih hs 5 i;have vf0:=Uv;by_cases hk:m.top.k=1
 ·have t1:(((m.top.k:Nat):Int) !=1)=false:=by rw[hk];rfl
  rw[A7 hk];unfold Ac;go_in;go_wp2_with fail
  rw[←As.o];refine HP.o.mono ?_;rintro e w1 ⟨rfl,h1,k1⟩;have B5:=A0 h1.back;have A9:Hid (A3 (dx D X) w w1):=Ag.o.trans (Ae k1);unfold B7;go_wp2;go_end0;exact⟨rfl,B5.o,A9.o⟩
 ·have t1:(((m.top.k:Nat):Int) !=1)=true:=by rw[P8];omega
  rw[A1 hk];unfold Ac;go_in;go_wp2_with fail
  rw[←As.o];refine HP.o.mono ?_;rintro e w1 ⟨rfl,h1,k1⟩;have An:=(k1.block _ Ao.o).trans Aw.o;have HF1:=HF w1 h1;have A9:Hid (A3 (dx D X) w w1):=Ag.o.trans (Ae k1);have nn:=Bi An;unfold B7;unfold Ac at HF1;go_wp2_with fail
  refine HF1.mono ?_;rintro e w2 ⟨rfl,h2,k2⟩;have Au:=A0 h2.back;have Ab:A3 (dx D X) w w2:=A9.o.trans (Ae k2);go_wp2;go_end0;exact z4ja
def Wb(h:C.Ms D X β w m)(i:Aa)(hb:m.both 2=true):Calls Tryz.prog 251 #[.p C.mb,Ac i] w (MP C D X β w (m) (.bool true)):=by
 obtain⟨w0,As,Av,Ag,Ao,Aw,nn,lb,C9⟩:=h.Ci i;have HP:=L7 Av.o 2;rw[hb]at HP;have HF:=fun(W:World) (hs:C.Ms D (Dd X w) β W m)=>Ih hs 5 i;unfold Ac;go_in;go_wp2_with fail
 rw[←As.o];refine HP.mono ?_;rintro e w1 ⟨rfl,h1,k1⟩;have B5:=A0 h1.back;have A9:A3 (dx D X) w w1:=Ag.o.trans (Ae k1);go_wp2;go_ret;exact⟨rfl,B5.o,A9⟩
def Wa(h:C.Ms D X β w m)(i:Aa)(hb:m.both 2=false):Calls Tryz.prog 251 #[.p C.mb,Ac i] w (MP C D X β w (m.fail 5 i) (.bool false)):=by
 obtain⟨w0,As,Av,Ag,Ao,Aw,nn,lb,C9⟩:=h.Ci i;have HP:=L7 Av.o 2;rw[hb]at HP;have HF:=fun(W:World) (hs:C.Ms D (Dd X w) β W m)=>Ih hs 5 i;unfold Ac;go_in;go_wp2_with fail
 rw[←As.o];refine HP.mono ?_;rintro e w1 ⟨rfl,h1,k1⟩;have An:=(k1.block _ Ao.o).trans Aw.o;have HF1:=HF w1 h1;have A9:A3 (dx D X) w w1:=Ag.o.trans (Ae k1);have nn:=Bi An;unfold Ac at HF1;go_wp2_with fail
 refine HF1.mono ?_;rintro e w2 ⟨rfl,h2,k2⟩;have Au:=A0 h2.back;have Ab:A3 (dx D X) w w2:=A9.trans (Ae k2);go_wp2;go_ret;exact z4ja
def z0la {P:Prop} (h:P:=by
  unfold B7 at HT;unfold Ac;go_in;go_wp2_with fail
  rw[←As.o];refine HT.mono ?_;rintro e w1 ⟨rfl,h1,k1⟩;have Bn:=h1.B3;have Ad:Bw w1 ((w1.alloc (.cells #[.n m.pop.top.k,.bool m.pop.top.y,.i m.pop.top.n,.s m.pop.top.t,.pointer (Bf β m.pop.top)] 225)).alloc (.cells #[.n m.top.k,.bool m.top.y,.i m.top.n,.s m.top.t,.pointer (Bf β m.top)] 225)):=Ah (Ah (Al _ _) (Af _) _) z4ra _;have Bk:=HP _ (h1.below Ad).1;have Ab:A3 (dx D X) w ((w1.alloc (.cells #[.n m.pop.top.k,.bool m.pop.top.y,.i m.pop.top.n,.s m.pop.top.t,.pointer (Bf β m.pop.top)] 225)).alloc (.cells #[.n m.top.k,.bool m.top.y,.i m.top.n,.s m.top.t,.pointer (Bf β m.top)] 225)):=Ag.o.trans ((Ae k1).trans (Ae (h1.below Ad).2));go_wp2_with fail
  refine Bk.mono ?_;rintro e w3 ⟨rfl,h3,k3⟩;have Bu:=A0 h3.back;have Ba:A3 (dx D X) w w3:=Ab.trans (Ae k3);go_wp2;go_end0;exact⟨rfl,Bu.o,Ba⟩):P:=h
def z4ta {P:Prop} (h:P:=by simp[MS.pop];omega):P:=h
def Aeb(h:C.Ms D X β w m)(i:Aa)(ho:i.op=16)(hn:m.vals.length+1<=90000000000):Calls Tryz.prog 214 #[.p C.mb,Ac i] w (MP C D X β w (m.two fun a b m'=>m'.push (ofInt (wr (a.n-b.n)))) (.tuple #[])):=by
 obtain⟨w0,As,Av,Ag,Ao,Aw,nn,lb,C9⟩:=h.Ci i;have HT:=F1 Av.o;have HP:=fun(W:World) (hs:C.Ms D (Dd X w) β W m.pop.pop)=>Oi hs (wr (m.pop.top.n-m.top.n)) z4ta;have t0:((i.op:Int)==15)=false:=by rw[ho];rfl
 have t1:((i.op:Int)==16)=true:=by rw[ho];rfl
 clear ho;exact z0la
def z0ja {P:Prop} (h:P:=by
  rw[A7 rfl];have HA:=A0 (Wb Av.o i hb);unfold Ac at HA;unfold Ac;go_in;go_wp2_with fail
  rw[←As.o];refine HA.o.mono ?_;rintro e w9 ⟨rfl,h9,k9⟩;have HTx:=HTw w9 h9;unfold B7 at HTx;have Dq:A3 (dx D X) w w9:=Ag.o.trans (Ae k9);have lb9:=h9.B3;go_wp2_with fail
  refine HTx.mono ?_;rintro e w1 ⟨rfl,h1,k1⟩;have Bn:=h1.B3;have Ad:Bw w1 ((w1.alloc (.cells #[.n m.pop.top.k,.bool m.pop.top.y,.i m.pop.top.n,.s m.pop.top.t,.pointer (Bf β m.pop.top)] 225)).alloc (.cells #[.n m.top.k,.bool m.top.y,.i m.top.n,.s m.top.t,.pointer (Bf β m.top)] 225)):=Ah (Ah (Al _ _) (Af _) _) z4ra _;have Bk:=HP _ (h1.below Ad).1;have Ab:A3 (dx D X) w ((w1.alloc (.cells #[.n m.pop.top.k,.bool m.pop.top.y,.i m.pop.top.n,.s m.pop.top.t,.pointer (Bf β m.pop.top)] 225)).alloc (.cells #[.n m.top.k,.bool m.top.y,.i m.top.n,.s m.top.t,.pointer (Bf β m.top)] 225)):=Dq.trans ((Ae k1).trans (Ae (h1.below Ad).2));go_wp2_with fail
  refine Bk.mono ?_;rintro e w3 ⟨rfl,h3,k3⟩;have Bu:=A0 h3.back;have Ba:A3 (dx D X) w w3:=Ab.trans (Ae k3);go_wp2;go_end0;exact⟨rfl,Bu.o,Ba⟩):P:=h
def Aea(h:C.Ms D X β w m)(i:Aa)(ho:i.op=15)(hn:m.vals.length+1<=90000000000):Calls Tryz.prog 214 #[.p C.mb,Ac i] w (MP C D X β w (m.ints i (fun a b m'=>m'.push (ofInt (wr (a-b))))) (.tuple #[])):=by
 obtain⟨w0,As,Av,Ag,Ao,Aw,nn,lb,C9⟩:=h.Ci i;have HP:=fun(W:World) (hs:C.Ms D (Dd X w) β W m.pop.pop)=>Oi hs (wr (m.pop.top.n-m.top.n)) z4ta;have t0:((i.op:Int)==15)=true:=by rw[ho];rfl
 clear ho;have HTw:=fun(W:World) (hs:C.Ms D (Dd X w) β W m)=>F1 hs;unfold MS.ints;cases hb:m.both 2
 ·rw[A1 z4ra];have HA:=A0 (Wa Av.o i hb);unfold Ac at HA;unfold Ac;go_in;go_wp2_with fail
  rw[←As.o];refine HA.o.mono ?_;rintro e w1 ⟨rfl,h1,k1⟩;have B5:=A0 h1.back;have A9:A3 (dx D X) w w1:=Ag.o.trans (Ae k1);go_wp2;refine B9 (v:=.tuple #[]) (by simp[results,Tryz.results214,go_sem]) rfl ?_;exact⟨rfl,B5.o,A9⟩
 ·exact z0ja
def Adj(h:C.Ms D X β w m)(i:Aa)(ho:i.op=18)(hn:m.vals.length+1<=90000000000):Calls Tryz.prog 215 #[.p C.mb,Ac i] w (MP C D X β w (m.two fun a b m'=>m'.push (ofInt (wr (a.n*b.n)))) (.tuple #[])):=by
 obtain⟨w0,As,Av,Ag,Ao,Aw,nn,lb,C9⟩:=h.Ci i;have HT:=F1 Av.o;have HP:=fun(W:World) (hs:C.Ms D (Dd X w) β W m.pop.pop)=>Oi hs (wr (m.pop.top.n*m.top.n)) z4ta;have t0:((i.op:Int)==17)=false:=by rw[ho];rfl
 have t1:((i.op:Int)==18)=true:=by rw[ho];rfl
 clear ho;exact z0la
def Adi(h:C.Ms D X β w m)(i:Aa)(ho:i.op=17)(hn:m.vals.length+1<=90000000000):Calls Tryz.prog 215 #[.p C.mb,Ac i] w (MP C D X β w (m.ints i (fun a b m'=>m'.push (ofInt (wr (a*b))))) (.tuple #[])):=by
 obtain⟨w0,As,Av,Ag,Ao,Aw,nn,lb,C9⟩:=h.Ci i;have HP:=fun(W:World) (hs:C.Ms D (Dd X w) β W m.pop.pop)=>Oi hs (wr (m.pop.top.n*m.top.n)) z4ta;have t0:((i.op:Int)==17)=true:=by rw[ho];rfl
 clear ho;have HTw:=fun(W:World) (hs:C.Ms D (Dd X w) β W m)=>F1 hs;unfold MS.ints;cases hb:m.both 2
 ·rw[A1 z4ra];have HA:=A0 (Wa Av.o i hb);unfold Ac at HA;unfold Ac;go_in;go_wp2_with fail
  rw[←As.o];refine HA.o.mono ?_;rintro e w1 ⟨rfl,h1,k1⟩;have B5:=A0 h1.back;have A9:A3 (dx D X) w w1:=Ag.o.trans (Ae k1);go_wp2;refine B9 (v:=.tuple #[]) (by simp[results,Tryz.results215,go_sem]) rfl ?_;exact⟨rfl,B5.o,A9⟩
 ·exact z0ja
def MC.Ms.base(h:C.Ms D X β w m):w.cell? ⟨C.mb,8,none⟩=some (.i m.now.base):=by
 obtain⟨ρ,s,x,fv,ab,lp,h⟩:=h;have:=A4 h.cell 8 (.i x.base) rfl;rw[h.now.base]at this;exact this
def Ad5(h:C.Ms D X β w m)(i:Aa)(ha:0<=i.arg):Calls Tryz.prog 154 #[.pointer (some ⟨C.mb,0,none⟩),Ac i] w (MP C D X β w (m.jump i.arg) (.tuple #[])):=by
 obtain⟨ρ,s,x,fv,ab,lp,h⟩:=h;obtain⟨c0,c1,c2,c3,c4,c5,c6,c7,c8,c9,c10,c11,c12,c13,fz,lb⟩:=Tz (show w.heap[C.mb]?=some (.cells #[_,_,_,_,_,_,_,_,_,_,_,_,_,_] _ (0,0)) from h.cell);have HH:=A0 h;have HA:((i.arg.toNat:Nat):Int)=i.arg:=by show _=_;omega
 have HN:=show Ld D w { x with pc:=i.arg.toNat } ⟨m.now.steps,i.arg.toNat,m.now.base⟩ from⟨h.now.row,rfl,h.now.base⟩;clear h c0 c1 c2 c3 c4 c5 c6 c8 c9 c10 c11 c12 c13 ha;unfold Ac;go_in;go_wp2;go_end0;rw[show Value.int .i64 i.arg=.int .i64 ((i.arg.toNat:Nat):Int) by rw[HA]];have hcl:((w.setCell ⟨C.mb,7,none⟩ (.int .i64 ((i.arg.toNat:Nat):Int))).alloc (.cells #[.int .i64 (i.op:Nat),.int .i64 ((i.arg.toNat:Nat):Int),.int .i64 (i.line:Nat),.int .i64 (i.v.k:Nat),.bool i.v.y,.int .i64 i.v.n,.string ⟨i.v.t.toArray⟩,.pointer none] 251)).heap[C.mb]?=some (.cells (C.cells s { x with pc:=i.arg.toNat } (m.fuel) (m.cells) (m.code) (m.line)) 167 (0,0)):=by
  rw[Ck _ _ _ z4sa,(heap_set (j:=7) HH.o.cell (.int .i64 ((i.arg.toNat:Nat):Int)))];simp[MC.cells]
 have hkk:∀g,g<w.heap.size->g≠C.mb->((w.setCell ⟨C.mb,7,none⟩ (.int .i64 ((i.arg.toNat:Nat):Int))).alloc (.cells #[.int .i64 (i.op:Nat),.int .i64 ((i.arg.toNat:Nat):Int),.int .i64 (i.line:Nat),.int .i64 (i.v.k:Nat),.bool i.v.y,.int .i64 i.v.n,.string ⟨i.v.t.toArray⟩,.pointer none] 251)).heap[g]?=w.heap[g]?:=by
  exact z26a
 have hpl:=HH.o.plain (now:=⟨m.now.steps,i.arg.toNat,m.now.base⟩) (fuel:=m.fuel) (cells:=m.cells) (code:=m.code) (line:=m.line) (x':={ x with pc:=i.arg.toNat }) HN hcl hkk z4za rfl rfl rfl;exact⟨rfl,hpl⟩
def Adf(h:C.Ms D X β w m)(i:Aa)(hb:-1000000<=m.now.base/\m.now.base<=100000000000)(ha:-1000000<=i.arg/\i.arg<=1000000)(hn:m.vals.length+1<=90000000000)(hv:Ca m.arr.length (m.at' (m.now.base+i.arg))):Calls Tryz.prog 149 #[.p C.mb,Ac i] w (MP C D X β w (m.push (m.at' (m.now.base+i.arg))) (.tuple #[])):=by
 obtain⟨w0,As,Av,Ag,Ao,Aw,nn,lb,C9⟩:=h.Ci i;clear h;have cb:=Av.o.base;have HA:=Av.o.J6.at' (m.now.base+i.arg);have HP:=fun(W:World) (hs:C.Ms D (Dd X w) β W m)=>hs.push (m.at' (m.now.base+i.arg)) hv hn;have Ff:IntKind.i64.wrap (m.now.base+i.arg)=m.now.base+i.arg:=by rw[O7];omega
 unfold B7 at HA HP;clear hv;generalize hu9:m.at' (m.now.base+i.arg)=u at *;clear hu9;rw[←Ff]at HA;clear Ff;unfold Ac;go_in;go_wp2;rw[←As.o];go_region_law (first
  | (refine F9 rfl 99 _ _ rfl #[.pointer (some ⟨C.mb,4,none⟩),.agg #[.n u.k,.bool u.y,.i u.n,.s u.t,.pointer (Bf β u)]] z4pa Cn.o ?_;rintro e w2 ⟨rfl,h2,k2⟩;refine⟨_,rfl,?_⟩;have Au:=A0 h2.back;have Ab:Hid (A3 (dx D X) w w2):=A9.o.trans (Ae k2);clear h2 k2)
  | (refine F9 rfl 195 _ _ rfl #[.pointer (some ⟨C.mb,4,none⟩),.i (IntKind.i64.wrap (m.now.base+i.arg))] z4pa HA ?_;rintro e w1 ⟨rfl,h1,k1⟩;refine⟨_,rfl,?_⟩;have Cn:=A0 (HP w1 h1);have Bn:=h1.B3;have A9:Hid (A3 (dx D X) w w1):=Ag.o.trans ((Eb _ w0 1).trans (Ae k1));clear h1 k1))
 all_goals go_wp2
 all_goals go_end0
 all_goals exact⟨rfl,Au.o,Ab.o⟩
def Ae8(h:C.Ms D X β w m)(i:Aa)(hb:-1000000<=m.now.base/\m.now.base<=100000000000)(ha:-1000000<=i.arg/\i.arg<=1000000)(hv:Ca m.arr.length m.top):Calls Tryz.prog 151 #[.p C.mb,Ac i] w (MP C D X β w (m.pop.put (m.now.base+i.arg) m.top) (.tuple #[])):=by
 obtain⟨w0,As,Av,Ag,Ao,Aw,nn,lb,C9⟩:=h.Ci i;clear h;have cb:=Av.o.base;have HA:=A0 Av.o.J6.pop;have HP:=fun(W:World) (hs:C.Ms D (Dd X w) β W m.pop)=>hs.put (m.now.base+i.arg) m.top hv;have Ff:IntKind.i64.wrap (m.now.base+i.arg)=m.now.base+i.arg:=by rw[O7];omega
 unfold B7 at HA HP;clear hv;have HBs:=fun(W:World) (hs:C.Ms D (Dd X w) β W m.pop)=>hs.base;generalize hu9:m.top=u at *;have HU:=A0 hu9;clear hu9;rw[show(m.now.base+i.arg)=IntKind.i64.wrap (m.now.base+i.arg) from Ff.symm]at HP;have HW9:=A0 Ff;clear Ff;unfold Ac;go_in;go_wp2;rw[←As.o];go_region_law (first
  | (refine F9 rfl 196 _ _ rfl #[.pointer (some ⟨C.mb,4,none⟩),.i (IntKind.i64.wrap (m.now.base+i.arg)),.agg #[.n u.k,.bool u.y,.i u.n,.s u.t,.pointer (Bf β u)]] z4pa Cn.o ?_;rintro e w2 ⟨rfl,h2,k2⟩;refine⟨_,rfl,?_⟩;have Au:=A0 h2.back;have Ab:Hid (A3 (dx D X) w w2):=A9.o.trans (Ae k2);clear h2 k2)
  | (refine F9 rfl 197 _ _ rfl #[.pointer (some ⟨C.mb,4,none⟩)] z4pa HA.o ?_;rintro e w1 ⟨rfl,h1,k1⟩;refine⟨_,rfl,?_⟩;have Cn:=A0 (HP w1 h1);have Bn:=h1.B3;have cb1:=HBs w1 h1;simp only[MS.pop]at cb1;have An:=(k1.block _ Ao.o).trans Aw.o;have y1:=A4 An 1 _ rfl;have ly:=A6 An;have A9:Hid (A3 (dx D X) w w1):=Ag.o.trans ((Eb _ w0 1).trans (Ae k1));clear h1 k1 An))
 all_goals go_wp2
 all_goals go_end0
 all_goals
  have q:=Au.o;rw[HW9.o]at q;exact⟨rfl,q,Ab.o⟩
def z4na {P:Prop} (h:P:=by repeat (first|exact Al _ _|refine Ah ?_ z4ra _|refine B0 ?_ z4ra _|refine B8 ?_)):P:=h
def z01a {P:Prop} (h:P:=by
  rintro e w1 ⟨rfl,h1,k1⟩;have Bn:=h1.B3;have C2:=fun(W:World) (hb:Bw w1 W)=>((HP W (h1.below hb).1).mono (fun e w3 (q:MP C D (Dd X w) β W _ _ e w3)=>(⟨q.1,q.2.1.back,Ag.o.trans ((Ae k1).trans ((Ae (h1.below hb).2).trans (Ae q.2.2)))⟩:MP C D X β w _ _ e w3)));have An:=(k1.block _ Ao.o).trans Aw.o;have nn:=Bi An;go_wp2_with fail
  refine(C2 _ z4na).mono ?_;rintro e w3 ⟨rfl,q2,q3⟩;go_wp2;go_end0;exact⟨rfl,q2,q3⟩):P:=h
def z1ma {P:Prop} (h:P:=by
  unfold B7 at HT;unfold Ac;go_in;go_wp2_with fail
  rw[←As.o];refine HT.mono ?_;exact z01a):P:=h
def Adh(h:C.Ms D X β w m)(i:Aa)(ho:i.op=33)(hn:m.vals.length+1<=90000000000):Calls Tryz.prog 222 #[.p C.mb,Ac i] w (MP C D X β w (m.two fun a b m'=>m'.push (ofBool (decide (a.n<b.n)))) (.tuple #[])):=by
 obtain⟨w0,As,Av,Ag,Ao,Aw,nn,lb,C9⟩:=h.Ci i;have t32:((i.op:Int)==32)=false:=by rw[ho];rfl
 have t33:((i.op:Int)==33)=true:=by rw[ho];rfl
 clear ho;have HT:=F1 Av.o;have HP:=fun(W:World) (hs:C.Ms D (Dd X w) β W m.pop.pop)=>L8 hs (decide (m.pop.top.n<m.top.n)) z4ta;exact z1ma
def Ad9(h:C.Ms D X β w m)(i:Aa)(ho:i.op=35)(hn:m.vals.length+1<=90000000000):Calls Tryz.prog 222 #[.p C.mb,Ac i] w (MP C D X β w (m.two fun a b m'=>m'.push (ofBool (decide (a.n<=b.n)))) (.tuple #[])):=by
 obtain⟨w0,As,Av,Ag,Ao,Aw,nn,lb,C9⟩:=h.Ci i;have t32:((i.op:Int)==32)=false:=by rw[ho];rfl
 have t33:((i.op:Int)==33)=false:=by rw[ho];rfl
 have t34:((i.op:Int)==34)=false:=by rw[ho];rfl
 have t35:((i.op:Int)==35)=true:=by rw[ho];rfl
 clear ho;have HT:=F1 Av.o;have HP:=fun(W:World) (hs:C.Ms D (Dd X w) β W m.pop.pop)=>L8 hs (decide (m.pop.top.n<=m.top.n)) z4ta;exact z1ma
def Ad2(h:C.Ms D X β w m)(i:Aa)(ho:i.op=32)(hn:m.vals.length+1<=90000000000):Calls Tryz.prog 222 #[.p C.mb,Ac i] w (MP C D X β w (m.two fun a b m'=>m'.push (ofBool (decide (b.n<a.n)))) (.tuple #[])):=by
 obtain⟨w0,As,Av,Ag,Ao,Aw,nn,lb,C9⟩:=h.Ci i;have t32:((i.op:Int)==32)=true:=by rw[ho];rfl
 clear ho;have HT:=F1 Av.o;have HP:=fun(W:World) (hs:C.Ms D (Dd X w) β W m.pop.pop)=>L8 hs (decide (m.top.n<m.pop.top.n)) z4ta;exact z1ma
def Ad1(h:C.Ms D X β w m)(i:Aa)(ho:i.op=34)(hn:m.vals.length+1<=90000000000):Calls Tryz.prog 222 #[.p C.mb,Ac i] w (MP C D X β w (m.two fun a b m'=>m'.push (ofBool (decide (b.n<=a.n)))) (.tuple #[])):=by
 obtain⟨w0,As,Av,Ag,Ao,Aw,nn,lb,C9⟩:=h.Ci i;have t32:((i.op:Int)==32)=false:=by rw[ho];rfl
 have t33:((i.op:Int)==33)=false:=by rw[ho];rfl
 have t34:((i.op:Int)==34)=true:=by rw[ho];rfl
 clear ho;have HT:=F1 Av.o;have HP:=fun(W:World) (hs:C.Ms D (Dd X w) β W m.pop.pop)=>L8 hs (decide (m.top.n<=m.pop.top.n)) z4ta;exact z1ma
def z2ia {P:Prop} (h:P:=by
  unfold Ac;go_in;go_wp2_with fail
  rw[←As.o];refine HT.o.mono ?_;exact z01a):P:=h
def Adl(h:C.Ms D X β w m)(i:Aa)(ho:i.op=24)(hn:m.vals.length+1<=90000000000):Calls Tryz.prog 218 #[.p C.mb,Ac i] w (MP C D X β w (m.pop.push (ofInt (wr (-m.top.n)))) (.tuple #[])):=by
 obtain⟨w0,As,Av,Ag,Ao,Aw,nn,lb,C9⟩:=h.Ci i;have HT:=A0 Av.o.pop;have HP:=fun(W:World) (hs:C.Ms D (Dd X w) β W m.pop)=>Oi hs (wr (-m.top.n)) z4ta;have vf2:=Aa2;have t23:((i.op:Int)==23)=false:=by rw[ho];rfl
 have t24:((i.op:Int)==24)=true:=by rw[ho];rfl
 clear ho;unfold B7 at HT;exact z2ia
def Ado(h:C.Ms D X β w m)(i:Aa)(ho:i.op=27)(hk:m.top.k=1)(hn:m.vals.length+1<=90000000000):Calls Tryz.prog 220 #[.p C.mb,Ac i] w (MP C D X β w (m.pop.push (ofBool (!m.top.y))) (.tuple #[])):=by
 obtain⟨w0,As,Av,Ag,Ao,Aw,nn,lb,C9⟩:=h.Ci i;have HT:=A0 Av.o.pop;have HP:=fun(W:World) (hs:C.Ms D (Dd X w) β W m.pop)=>L8 hs (!m.top.y) z4ta;have tk:(((m.top.k:Nat):Int) !=1)=false:=by rw[hk];rfl
 have t26:((i.op:Int)==26)=false:=by rw[ho];rfl
 have t27:((i.op:Int)==27)=true:=by rw[ho];rfl
 clear ho;unfold B7 at HT;exact z2ia
def Adn(h:C.Ms D X β w m)(i:Aa)(ho:i.op=27)(hk:m.top.k≠1):Calls Tryz.prog 220 #[.p C.mb,Ac i] w (MP C D X β w (m.pop.fail 5 i) (.tuple #[])):=by
 obtain⟨w0,As,Av,Ag,Ao,Aw,nn,lb,C9⟩:=h.Ci i;have HT:=A0 Av.o.pop;have HP:=fun(W:World) (hs:C.Ms D (Dd X w) β W m.pop)=>Ih hs 5 i;have tk:(((m.top.k:Nat):Int) !=1)=true:=by rw[P8];omega
 have t26:((i.op:Int)==26)=false:=by rw[ho];rfl
 have t27:((i.op:Int)==27)=true:=by rw[ho];rfl
 clear ho;unfold B7 at HT;unfold Ac at HP;unfold Ac;go_in;go_wp2_with fail
 rw[←As.o];refine HT.o.mono ?_;rintro e w1 ⟨rfl,h1,k1⟩;have Bn:=h1.B3;have C2:=fun(W:World) (hb:Bw w1 W)=>((HP W (h1.below hb).1).mono (fun e w3 (q:MP C D (Dd X w) β W _ _ e w3)=>(⟨q.1,q.2.1.back,Ag.o.trans ((Ae k1).trans ((Ae (h1.below hb).2).trans (Ae q.2.2)))⟩:MP C D X β w _ _ e w3)));have An:=(k1.block _ Ao.o).trans Aw.o;have nn:=Bi An;go_wp2_with fail
 refine(C2 _ z4na).mono ?_;rintro e w3 ⟨rfl,q2,q3⟩;go_wp2;refine B9 (v:=.tuple #[]) (by simp[results,Tryz.results220,go_sem]) rfl ?_;exact⟨rfl,q2,q3⟩
def MC.Ms.Yj(h:C.Ms D X β w m):(∃v,w.cell? ⟨C.mb,7,none⟩=some v)/\(∀o,w.frozen? ⟨C.mb,o,none⟩=false):=by
 obtain⟨ρ,s,x,fv,ab,lp,h⟩:=h;exact⟨⟨_,A4 h.cell 7 (.n x.pc) rfl⟩,By h.cell⟩
def MC.Ms.Wj(h:C.Ms D X β w m)(a:Int)(ha:0<=a):C.Ms D X β (w.setCell ⟨C.mb,7,none⟩ (.i a)) (m.jump a)/\A3 (dx D X) w (w.setCell ⟨C.mb,7,none⟩ (.i a)):=by
 obtain⟨ρ,s,x,fv,ab,lp,hv⟩:=h;have hcl:(w.setCell ⟨C.mb,7,none⟩ (.i a)).heap[C.mb]?=some (.cells (C.cells s { x with pc:=a.toNat } m.fuel m.cells m.code m.line) 167 (0,0)):=by
  rw[heap_set (j:=7) hv.cell (.i a)];have:((a.toNat:Nat):Int)=a:=by omega
  simp[MC.cells,this]
 exact hv.plain (now:=⟨m.now.steps,a.toNat,m.now.base⟩) (x':={ x with pc:=a.toNat }) ⟨hv.now.row,rfl,hv.now.base⟩ hcl (fun g _ hne=>Bh _ _ _ _ z5ca) z4za rfl rfl rfl
def Aeg(h:C.Ms D X β w m)(i:Aa)(ho:i.op=8)(hk:m.top.k≠1):Calls Tryz.prog 155 #[.p C.mb,Ac i] w (MP C D X β w (m.pop.fail 5 i) (.tuple #[])):=by
 obtain⟨w0,As,Av,Ag,Ao,Aw,nn,lb,C9⟩:=h.Ci i;have HT:=A0 Av.o.pop;have HP:=fun(W:World) (hs:C.Ms D (Dd X w) β W m.pop)=>Ih hs 5 i;have tk:(((m.top.k:Nat):Int) !=1)=true:=by rw[P8];omega
 have t7:((i.op:Int)==7)=false:=by rw[ho];rfl
 have t8:((i.op:Int)==8)=true:=by rw[ho];rfl
 clear ho;unfold B7 at HT;unfold Ac at HP;exact z2ia
def Aei(h:C.Ms D X β w m)(i:Aa)(ho:i.op=8)(hk:m.top.k=1)(hy:m.top.y=true):Calls Tryz.prog 155 #[.p C.mb,Ac i] w (MP C D X β w (m.pop) (.tuple #[])):=by
 obtain⟨w0,As,Av,Ag,Ao,Aw,nn,lb,C9⟩:=h.Ci i;have HT:=A0 Av.o.pop;have tk:(((m.top.k:Nat):Int) !=1)=false:=by rw[hk];rfl
 have t7:((i.op:Int)==7)=false:=by rw[ho];rfl
 have t8:((i.op:Int)==8)=true:=by rw[ho];rfl
 clear ho;unfold B7 at HT;unfold Ac;go_in;go_wp2_with fail
 rw[←As.o];refine HT.o.mono ?_;rintro e w1 ⟨rfl,h1,k1⟩;have An:=(k1.block _ Ao.o).trans Aw.o;have nn:=Bi An;have HQ:=fun(W:World) (hb:Bw w1 W)=>C3 (h1.below hb).1.back (Ag.o.trans ((Ae k1).trans (Ae (h1.below hb).2)));go_wp2;go_end0;exact⟨rfl,HQ _ (Ah (Al _ _) (Af _) _)⟩
def Aeh(h:C.Ms D X β w m)(i:Aa)(ho:i.op=8)(hk:m.top.k=1)(hy:m.top.y=false)(ha:0<=i.arg):Calls Tryz.prog 155 #[.p C.mb,Ac i] w (MP C D X β w (m.pop.jump i.arg) (.tuple #[])):=by
 obtain⟨w0,As,Av,Ag,Ao,Aw,nn,lb,C9⟩:=h.Ci i;have HT:=A0 Av.o.pop;have tk:(((m.top.k:Nat):Int) !=1)=false:=by rw[hk];rfl
 have t7:((i.op:Int)==7)=false:=by rw[ho];rfl
 have t8:((i.op:Int)==8)=true:=by rw[ho];rfl
 clear ho;unfold B7 at HT;unfold Ac;go_in;go_wp2_with fail
 rw[←As.o];refine HT.o.mono ?_;rintro e w1 ⟨rfl,h1,k1⟩;have An:=(k1.block _ Ao.o).trans Aw.o;have nn:=Bi An;obtain⟨⟨v7,c7⟩,f7⟩:=h1.Yj;have Bn:=h1.B3;obtain⟨s1,s2⟩:=h1.Wj i.arg ha;have HQ:=fun(W:World) (hb:Below (w1.setCell ⟨C.mb,7,none⟩ (.i i.arg)).heap.size (w1.setCell ⟨C.mb,7,none⟩ (.i i.arg)) W)=>C3 (s1.below hb).1.back (Ag.o.trans ((Ae k1).trans ((Ae s2).trans (Ae (s1.below hb).2))));go_wp2;go_end0;exact⟨rfl,HQ _ (Ah (Al _ _) (Af _) _)⟩
end
section
open Go.RowKit
open Go.Deep (BT)
variable {C:MC} {D X:Nat->Prop} {w w':World} {m:MS} {ρ β:Nat->Nat} {s:Qz} {x:Fi} {fv:List Fi} {ab:List AB} {lp:List (Option Addr×En)}
def MC.Mv.Yt(h:C.Mv D X w m ρ β s x fv ab lp)(hc:Hq 5 ρ w w'){ca:Option Addr}{cn cc:Nat}{fv':List Fi}{calls:List Fr}{x':Fi}{now:Fr}{fuel cells code line:Nat}
  (hcell:w'.heap[C.mb]?=some (.cells (C.cells { s with ca:=ca,cn:=cn,cc:=cc } x' fuel cells code line) 167 (0,0)))
  (hrow:w'.ownsRow 0 165 3 (.slice ca cn cc) fv'.length (C0 Jj fv')) (hro:∀g,(Value.slice ca cn cc).ownBlock=some g->(Value.slice s.ca s.cn s.cc).ownBlock=some g\/w.heap.size<=g) (hx:Ld D w x' now) (hfr:Mp D w fv' calls) (hl:calls.length<=100) :
  C.Mv D X w' { m with calls:=calls,now:=now,fuel:=fuel,cells:=cells,code:=code,line:=line } (Fs ρ w.heap.size 5) β { s with ca:=ca,cn:=cn,cc:=cc } x' fv' ab lp:=by
 have hbd:=h.Fv hc z4ma;have hk:∀g,D g->g<w.heap.size->w'.heap[g]?=w.heap[g]?/\D g:=fun g hg _=>⟨hbd.block g (.inl hg),hg⟩;have hown:∀g,(Value.slice ca cn cc).ownBlock=some g->Fs ρ w.heap.size 5 g=5:=by
  intro g hg;rcases hro g hg with e|e
  ·rw[Br (Bs h.calls g e)];exact h.callo g e
  ·exact J0 e
 refine⟨hcell,h.prog.keep hk,Bc h.lots (fun g hg hl=>hc.block g hl z4ya z4ya),fun g hg=>by rw[Br (Bs h.lots g hg)];exact h.loto g hg,h.lotm,fun q hq=>(h.forms q hq).keep hk,
  Bc h.gl (fun g hg hl=>hc.block g hl z50a z50a),fun g hg=>by rw[Br (Bs h.gl g hg)];exact h.glo g hg,Bc h.vals (fun g hg hl=>hc.block g hl z4wa z4wa),fun g hg=>by rw[Br (Bs h.vals g hg)];exact h.valo g hg,
  hrow,hown,hfr.keep hk,hx.keep hk,
  Bc h.out (fun g hg hl=>hc.block g hl z4xa z4xa),fun g hg=>by rw[Br (Bs h.out g hg)];exact h.outo g hg,h.arr.keep (fun g hl h7=>⟨hc.block g hl z4ma z4ma,Br hl⟩),
  fun g hg=>⟨Cb (h.prot g hg).1 hc.size,by rw[Br (h.prot g hg).1];exact(h.prot g hg).2⟩,⟨by rw[Br h.lo.1];exact h.one.1,fun g hg=>?_⟩,⟨h.C1.1,hl,h.C1.2.2⟩,h.vv⟩
 exact z10a
def MC.Mv.Ard(h:C.Mv D X w m ρ β s x fv ab lp)(hc:Hq 6 ρ w w'){oa:Option Addr}{on oc:Nat}{out:List (List UInt8)}{x':Fi}{now:Fr}{fuel cells code line:Nat}
  (hcell:w'.heap[C.mb]?=some (.cells (C.cells { s with oa:=oa,on:=on,oc:=oc } x' fuel cells code line) 167 (0,0)))
  (hrow:w'.ownsRow 0 9 1 (.slice oa on oc) out.length (C0 Wn out)) (hro:∀g,(Value.slice oa on oc).ownBlock=some g->(Value.slice s.oa s.on s.oc).ownBlock=some g\/w.heap.size<=g) (hx:Ld D w x' now) (hl:out.length<=100) :
  C.Mv D X w' { m with out:=out,now:=now,fuel:=fuel,cells:=cells,code:=code,line:=line } (Fs ρ w.heap.size 6) β { s with oa:=oa,on:=on,oc:=oc } x' fv ab lp:=by
 have hbd:=h.Fv hc z4ma;have hk:∀g,D g->g<w.heap.size->w'.heap[g]?=w.heap[g]?/\D g:=fun g hg _=>⟨hbd.block g (.inl hg),hg⟩;have hown:∀g,(Value.slice oa on oc).ownBlock=some g->Fs ρ w.heap.size 6 g=6:=by
  intro g hg;rcases hro g hg with e|e
  ·rw[Br (Bs h.out g e)];exact h.outo g e
  ·exact J0 e
 refine⟨hcell,h.prog.keep hk,Bc h.lots (fun g hg hl=>hc.block g hl z4ya z4ya),fun g hg=>by rw[Br (Bs h.lots g hg)];exact h.loto g hg,h.lotm,fun q hq=>(h.forms q hq).keep hk,
  Bc h.gl (fun g hg hl=>hc.block g hl z50a z50a),fun g hg=>by rw[Br (Bs h.gl g hg)];exact h.glo g hg,Bc h.vals (fun g hg hl=>hc.block g hl z4wa z4wa),fun g hg=>by rw[Br (Bs h.vals g hg)];exact h.valo g hg,
  Bc h.calls (fun g hg hl=>hc.block g hl z4va z4va),fun g hg=>by rw[Br (Bs h.calls g hg)];exact h.callo g hg,h.frs.keep hk,hx.keep hk,
  hrow,hown,h.arr.keep (fun g hl h7=>⟨hc.block g hl z4ma z4ma,Br hl⟩),
  fun g hg=>⟨Cb (h.prot g hg).1 hc.size,by rw[Br (h.prot g hg).1];exact(h.prot g hg).2⟩,⟨by rw[Br h.lo.1];exact h.one.1,fun g hg=>?_⟩,⟨h.C1.1,h.C1.2.1,hl⟩,h.vv⟩
 exact z10a
def MC.Mv.A29(h:C.Mv D X w m ρ β s x fv ab lp)(hc:Hq 3 ρ w w'){ga:Option Addr}{gn gc:Nat}{gl:List PV}{x':Fi}{now:Fr}{fuel cells code line:Nat}
  (hcell:w'.heap[C.mb]?=some (.cells (C.cells { s with ga:=ga,gn:=gn,gc:=gc } x' fuel cells code line) 167 (0,0)))
  (hrow:w'.ownsRow 0 225 5 (.slice ga gn gc) gl.length (C0 (Cj β) gl)) (hro:∀g,(Value.slice ga gn gc).ownBlock=some g->(Value.slice s.ga s.gn s.gc).ownBlock=some g\/w.heap.size<=g) (hx:Ld D w x' now) (hvv:∀v∈gl,Ca m.arr.length v) :
  C.Mv D X w' { m with gl:=gl,now:=now,fuel:=fuel,cells:=cells,code:=code,line:=line } (Fs ρ w.heap.size 3) β { s with ga:=ga,gn:=gn,gc:=gc } x' fv ab lp:=by
 have hbd:=h.Fv hc z4ma;have hk:∀g,D g->g<w.heap.size->w'.heap[g]?=w.heap[g]?/\D g:=fun g hg _=>⟨hbd.block g (.inl hg),hg⟩;have hown:∀g,(Value.slice ga gn gc).ownBlock=some g->Fs ρ w.heap.size 3 g=3:=by
  intro g hg;rcases hro g hg with e|e
  ·rw[Br (Bs h.gl g e)];exact h.glo g e
  ·exact J0 e
 refine⟨hcell,h.prog.keep hk,Bc h.lots (fun g hg hl=>hc.block g hl z4ya z4ya),fun g hg=>by rw[Br (Bs h.lots g hg)];exact h.loto g hg,h.lotm,fun q hq=>(h.forms q hq).keep hk,
  hrow,hown,Bc h.vals (fun g hg hl=>hc.block g hl z4wa z4wa),fun g hg=>by rw[Br (Bs h.vals g hg)];exact h.valo g hg,
  Bc h.calls (fun g hg hl=>hc.block g hl z4va z4va),fun g hg=>by rw[Br (Bs h.calls g hg)];exact h.callo g hg,h.frs.keep hk,hx.keep hk,
  Bc h.out (fun g hg hl=>hc.block g hl z4xa z4xa),fun g hg=>by rw[Br (Bs h.out g hg)];exact h.outo g hg,h.arr.keep (fun g hl h7=>⟨hc.block g hl z4ma z4ma,Br hl⟩),
  fun g hg=>⟨Cb (h.prot g hg).1 hc.size,by rw[Br (h.prot g hg).1];exact(h.prot g hg).2⟩,⟨by rw[Br h.lo.1];exact h.one.1,fun g hg=>?_⟩,h.C1,⟨h.vv.1,hvv,h.vv.2.2⟩⟩
 exact z10a
def MC.Mv.Arc(h:C.Mv D X w m ρ β s x fv ab lp)(hc:Hq 2 ρ w w'){la:Option Addr}{ln lc:Nat}{lp':List (Option Addr×En)}{x':Fi}{now:Fr}{fuel cells code line:Nat}
  (hcell:w'.heap[C.mb]?=some (.cells (C.cells { s with la:=la,ln:=ln,lc:=lc } x' fuel cells code line) 167 (0,0)))
  (hrow:w'.ownsRow 0 172 4 (.slice la ln lc) lp'.length (C0 Jz lp')) (hro:∀g,(Value.slice la ln lc).ownBlock=some g->(Value.slice s.la s.ln s.lc).ownBlock=some g\/w.heap.size<=g) (hx:Ld D w x' now) (hf:∀q∈lp',Oa D w q.1 q.2.form) :
  C.Mv D X w' { m with lots:=lp'.map Prod.snd,now:=now,fuel:=fuel,cells:=cells,code:=code,line:=line } (Fs ρ w.heap.size 2) β { s with la:=la,ln:=ln,lc:=lc } x' fv ab lp':=by
 have hbd:=h.Fv hc z4ma;have hk:∀g,D g->g<w.heap.size->w'.heap[g]?=w.heap[g]?/\D g:=fun g hg _=>⟨hbd.block g (.inl hg),hg⟩;have hown:∀g,(Value.slice la ln lc).ownBlock=some g->Fs ρ w.heap.size 2 g=2:=by
  intro g hg;rcases hro g hg with e|e
  ·rw[Br (Bs h.lots g e)];exact h.loto g e
  ·exact J0 e
 refine⟨hcell,h.prog.keep hk,hrow,hown,rfl,fun q hq=>(hf q hq).keep hk,
  Bc h.gl (fun g hg hl=>hc.block g hl z50a z50a),fun g hg=>by rw[Br (Bs h.gl g hg)];exact h.glo g hg,Bc h.vals (fun g hg hl=>hc.block g hl z4wa z4wa),fun g hg=>by rw[Br (Bs h.vals g hg)];exact h.valo g hg,
  Bc h.calls (fun g hg hl=>hc.block g hl z4va z4va),fun g hg=>by rw[Br (Bs h.calls g hg)];exact h.callo g hg,h.frs.keep hk,hx.keep hk,
  Bc h.out (fun g hg hl=>hc.block g hl z4xa z4xa),fun g hg=>by rw[Br (Bs h.out g hg)];exact h.outo g hg,h.arr.keep (fun g hl h7=>⟨hc.block g hl z4ma z4ma,Br hl⟩),
  fun g hg=>⟨Cb (h.prot g hg).1 hc.size,by rw[Br (h.prot g hg).1];exact(h.prot g hg).2⟩,⟨by rw[Br h.lo.1];exact h.one.1,fun g hg=>?_⟩,h.C1,h.vv⟩
 exact z10a
def MC.Ms.Amf(h:C.Ms D X β w m)(Y:Nat->Prop)(hY:∀g,Y g->X g):C.Ms (fun g=>D g\/Y g) X β w m:=by
 obtain⟨ρ,s,x,fv,ab,lp,h⟩:=h;have hk:∀g,D g->g<w.heap.size->w.heap[g]?=w.heap[g]?/\(D g\/Y g):=fun g hg _=>⟨rfl,.inl hg⟩;refine⟨ρ,s,x,fv,ab,lp,h.cell,h.prog.keep hk,h.lots,h.loto,h.lotm,fun q hq=>(h.forms q hq).keep hk,h.gl,h.glo,h.vals,h.valo,h.calls,h.callo,h.frs.keep hk,h.now.keep hk,h.out,h.outo,h.arr,?_,h.one,h.C1,h.vv⟩;intro g hg;rcases hg with(hg|hg)|hg
 ·exact h.prot g (.inl hg)
 ·exact h.prot g (.inr (hY g hg))
 ·exact h.prot g (.inr hg)
def Ajq:∀{xs:List Fi} {fs:List Fr},Mp D w xs fs->Ld D w (xs.getLastD Qi) (fs.getLastD ⟨[],0,0⟩):=by
 intro xs;induction xs with
 | nil=>intro fs h;cases fs with
  | nil=>exact⟨Rr _ _ _ _,rfl,rfl⟩
  | cons=>exact h.elim
 | cons x xs ih=>intro fs h;cases fs with
  | nil=>exact h.elim
  | cons f fs=>
   cases xs with
   | nil=>cases fs with
    | nil=>exact h.1
    | cons=>exact h.2.elim
   | cons y ys=>cases fs with
    | nil=>exact h.2.elim
    | cons g gs=>
     have q:=ih (fs:=g::gs) h.2;simpa only[List.getLastD_cons]using q
def Mp.less:∀{xs:List Fi} {fs:List Fr},Mp D w xs fs->Mp D w xs.dropLast fs.dropLast:=by
 intro xs;induction xs with
 | nil=>intro fs h;cases fs with
  | nil=>trivial
  | cons=>exact h.elim
 | cons x xs ih=>intro fs h;cases fs with
  | nil=>exact h.elim
  | cons f fs=>
   cases xs with
   | nil=>cases fs with
    | nil=>trivial
    | cons=>exact h.2.elim
   | cons y ys=>cases fs with
    | nil=>exact h.2.elim
    | cons g gs=>exact⟨h.1,ih h.2⟩
def Vu(x:Fi):Value:=.agg #[.slice x.a x.n x.c,.n x.pc,.i x.base]
def MC.Ms.A69(h:C.Ms D X β w m):Calls Tryz.prog 202 #[.pointer (some ⟨C.mb,5,none⟩)] w fun e w'=>e=.returned (.n m.calls.length)/\w'=w:=by
 obtain⟨ρ,s,x,fv,ab,lp,h⟩:=h;rw[←h.frs.len];exact A1a h.P3
def MC.Ms.A6d(h:C.Ms D X β w m):Calls Tryz.prog 206 #[.pointer (some ⟨C.mb,5,none⟩)] w fun e w'=>∃x,e=.returned (Vu x)/\Ld D w' x (m.calls.getLastD ⟨[],0,0⟩)/\C.Ms D X β w' { m with calls:=m.calls.dropLast }/\A3 (dx D X) w w':=by
 obtain⟨ρ,s,x,fv,ab,lp,h⟩:=h;have hfl:=h.frs.len;refine(Ajw h.P3 (by have:=h.C1.2.1;omega) z5na (fv.getLastD Qi) rfl).mono ?_;rintro e w1 ⟨rfl,hs,hf⟩;have hc:Hq 5 ρ w w1:=Vk hf h.one.1 h.callo;have hbd:=h.Fv hc z4ma;refine⟨_,rfl,(Ajq h.frs).keep (fun g hg _=>⟨hbd.block g (.inl hg),hg⟩),⟨_,{ s with ca:=s.ca,cn:=fv.length-1,cc:=s.cc },x,fv.take (fv.length-1),ab,lp,h.Yt hc ?_ hs.own (fun g hg=>.inl ((P2 _ _ _ _).trans hg)) h.now ?_ ?_⟩,hbd⟩
 ·rw[hs.blk];simp[MC.cells]
 ·rw[A2l];exact h.frs.less
 ·have:=h.C1.2.1;simp;omega
def MC.Ms.Ajp(h:C.Ms D X β w m)(u:Fi)(f:Fr)(hu:Ld D w u f)(hn:m.calls.length+1<=100):Calls Tryz.prog 203 #[.pointer (some ⟨C.mb,5,none⟩),Vu u] w (MP C D X β w { m with calls:=m.calls++[f] } (.tuple #[])):=by
 obtain⟨ρ,s,x,fv,ab,lp,h⟩:=h;have hfl:=h.frs.len;refine(Ajx h.P3 z4ma u z5na).mono ?_;rintro e w1 ⟨rfl,g,cap,hs,hat,hf⟩;have hc:Hq 5 ρ w w1:=Vk hf h.one.1 h.callo;refine⟨rfl,⟨_,{ s with ca:=some ⟨g,0,none⟩,cn:=fv.length+1,cc:=cap },x,fv++[u],ab,lp,h.Yt hc ?_ hs.own ?_ h.now (h.frs.app hu) z4qa⟩,h.Fv hc z4ma⟩
 ·rw[hs.blk];simp[MC.cells]
 ·intro k hk;exact z3ka
def MC.Ms.Yf(h:C.Ms D X β w m):∃x,Ld D w x m.now/\w.cell? ⟨C.mb,6,none⟩=some (.slice x.a x.n x.c)/\w.cell? ⟨C.mb,7,none⟩=some (.n x.pc)/\w.cell? ⟨C.mb,8,none⟩=some (.i x.base)/\(∀o,w.frozen? ⟨C.mb,o,none⟩=false):=by
 obtain⟨ρ,s,x,fv,ab,lp,h⟩:=h;exact⟨x,h.now,A4 h.cell 6 _ rfl,A4 h.cell 7 _ rfl,A4 h.cell 8 _ rfl,By h.cell⟩
def MC.Ms.Wi(h:C.Ms D X β w m)(u:Fi)(f:Fr)(hu:Ld D w u f):C.Ms D X β (((w.setCell ⟨C.mb,6,none⟩ (.slice u.a u.n u.c)).setCell ⟨C.mb,7,none⟩ (.n u.pc)).setCell ⟨C.mb,8,none⟩ (.i u.base)) { m with now:=f }/\A3 (dx D X) w (((w.setCell ⟨C.mb,6,none⟩ (.slice u.a u.n u.c)).setCell ⟨C.mb,7,none⟩ (.n u.pc)).setCell ⟨C.mb,8,none⟩ (.i u.base)):=by
 obtain⟨ρ,s,x,fv,ab,lp,hv⟩:=h;refine hv.plain (now:=f) (x':=u) hu ?_ (fun g _ hne=>?_) z4za (by simp only[Uk]) (by simp only[Um]) (by simp only[Ul])
 ·rw[heap_set (j:=8) (heap_set (j:=7) (heap_set (j:=6) hv.cell _) _) _];simp[MC.cells]
 ·rw[Bh _ _ _ _ z5ca,Bh _ _ _ _ z5ca,Bh _ _ _ _ z5ca]
end
section
set_option maxRecDepth 100000
open Go.RowKit
open Go.Deep (BT)
variable {C:MC} {D X:Nat->Prop} {w w':World} {m:MS} {β:Nat->Nat}
def MC.Ms.A4m(h:C.Ms D X β w m):w.cell? ⟨C.mb,1,none⟩=some (.slice C.ba C.bn C.bc):=by
 obtain⟨ρ,s,x,fv,ab,lp,h⟩:=h;exact A4 h.cell 1 _ rfl
def Abk(n c:Nat)(bets:List Cl)(w:World)(e:Ending)(w':World):Prop:=Bw w w'/\((e=.returned (.i (-1))/\taken n c bets=none)\/∃j,∃h:j<bets.length,e=.returned (.n j)/\taken n c bets=some bets[j])
def z1qa {P:Prop} (h:P:=by
  go_wp2;go_roundg j
  case measure=>omega
  case rel=>
   refine⟨by omega,?_,HM.o,⟨HB.o.os,HB.o.tape,HB.o.output,HB.o.size,HB.o.block⟩⟩;cases j with
   | zero=>exact .inl ⟨rfl,by simp⟩
   | succ j=>exact .inr ⟨j,rfl,by simp⟩):P:=h
def Aur(h:C.Ms D X β w m){K:Nat->Prop}{bets:List Cl}(hb:H7 K w (.slice C.ba C.bn C.bc) bets)(hl:bets.length<=1000)(n c:Nat) :
  Calls Tryz.prog 245 #[.p C.mb,.n n,.n c] w (Abk n c bets w):=by
 have c1:=h.A4m;have lb:=h.B3;obtain⟨a,cc,ev,hcc,hbt⟩:=hb;injection ev with e1 e2 e3;rw[e1,e2,e3]at c1;go_in;have hst:IntKind.i64.wrap ((bets.length:Int)-1)=(bets.length:Int)-1:=by rw[O7];omega
 go_wp2;go_loopg [7] bets.length (fun k v wr=>k<=bets.length/\((k=0/\v=.i (-1))\/(∃j:Nat,k=j+1/\v=.n j))/\taken n c (bets.drop k)=none/\Bw w wr)
 case atStart=>
  refine⟨Af _,?_,by rw[List.drop_length];rfl,Al _ _⟩;cases hl9:bets.length with
  | zero=>exact .inl ⟨rfl,by simp⟩
  | succ j=>exact .inr ⟨j,rfl,by simp⟩
 case round=>
  obtain⟨hk,hv,htk,hbel⟩:=hrel;have c1r:=(D9 (hbel.block C.mb lb)).trans c1;have ls:=hbel.size;have lbr:C.mb<wr.heap.size:=by omega
  have HB:=A0 hbel;have HTk:=A0 htk;rcases hv with⟨h0,rfl⟩|⟨j,hj,rfl⟩
  ·clear hbel;rw[h0,Hl]at HTk;go_wp2;exact B9 (v:=.i (-1)) (by simp[results,Tryz.results245,go_sem]) rfl ⟨HB.o,.inl ⟨rfl,HTk.o⟩⟩
  ·have hjl:j<bets.length:=by omega
   obtain⟨g,o,rfl,_,hgl,hcell⟩:=hbt z4ma;obtain⟨q0,q1,kv,iv,_⟩:=hcell j hjl;have d0:=(D9 (hbel.block g hgl)).trans q0;have d1:=(D9 (hbel.block g hgl)).trans q1;have d1':=d1;rw[←X0]at d1';have lg:g<wr.heap.size:=by omega
   rw[hj]at HTk;have hcl:=hcc;generalize hbj:bets[j]=bj at *;cases t1:(bj.fn==((n:Nat):Int))
   ·have HM:=A0 (A9s hjl HTk.o (fun q=>by rw[hbj]at q;rw[q.1]at t1;simp at t1));exact z1qa
   ·cases t2:(bj.after==((c:Nat):Int))
    ·have HM:=A0 (A9s hjl HTk.o (fun q=>by rw[hbj]at q;rw[q.2]at t2;simp at t2));exact z1qa
    ·have HM:=A0 (Auu hjl HTk.o (by rw[hbj];exact eq_of_beq t1) (by rw[hbj];exact eq_of_beq t2));go_wp2;refine B9 (v:=.n j) (by simp[results,Tryz.results245,go_sem]) rfl ⟨⟨HB.o.os,HB.o.tape,HB.o.output,HB.o.size,HB.o.block⟩,.inr ⟨j,hjl,rfl,HM.o⟩⟩
def A7z{T:TypeId}{sz n c g:Nat}{cs:List Value}(h:w.ownsRow 0 T sz (.slice (some ⟨g,0,none⟩) n c) n cs):∀o,w.frozen? ⟨g,o,none⟩=false:=by
 rcases h.2 with⟨h2,_⟩|⟨g',cap,cur,hv,_,hgc,_⟩
 ·cases h2
 ·injection hv with e1;injection e1 with e1;injection e1 with e1;subst e1;exact By hgc
end
section
open Go.RowKit
open Go.Deep (BT)
variable {C:MC} {D X:Nat->Prop} {w w':World} {m:MS} {β:Nat->Nat}
variable {α:Type} {T:TypeId} {sz:Nat} {f:α->List Value}
def Aqh(hf:∀x,(f x).length=sz):∀(xs:List α) (i:Nat) (h:i<xs.length),C0 f xs=(C0 f xs).take (i*sz)++f xs[i]++(C0 f xs).drop ((i+1)*sz):=by
 intro xs i h;have:=Yn hf xs[i] xs i h;rw[List.set_getElem_self]at this;exact this
def Aqg(hf:∀x,(f x).length=sz)(xs:List α)(i o:Nat)(h:i<xs.length)(ho:o<sz)(y:α)(v:Value)(hy:f y=(f xs[i]).set o v):C0 f (xs.set i y)=(C0 f xs).set (i*sz+o) v:=by
 have hl:=Nw hf xs;have hadd:(i+1)*sz=i*sz+sz:=by rw[Mm,V5]
 have hin:(i+1)*sz<=xs.length*sz:=O5 _ h;rw[Yn hf y xs i h,hy];conv=>rhs;rw[Aqh hf xs i h]
 have ht:((C0 f xs).take (i*sz)).length=i*sz:=by simp;omega
 rw[Gv,Gv,Aat _ _ z4ma,ht,show i*sz+o-i*sz=o by omega,List.set_append_left _ _ (by rw[hf];exact ho)]
def An2{g c:Nat}{xs:List α}(ho:w.ownsRow 0 T sz (.slice (some ⟨g,0,none⟩) xs.length c) xs.length (C0 f xs))(hf:∀x,(f x).length=sz)(i o:Nat)(hi:i<xs.length)(hos:o<sz)(y:α)(v:Value)(hy:f y=(f xs[i]).set o v):(w.setCell ⟨g,i*sz+o,none⟩ v).ownsRow 0 T sz (.slice (some ⟨g,0,none⟩) (xs.set i y).length c) (xs.set i y).length (C0 f (xs.set i y)):=by
 obtain⟨hl,⟨h2,h3⟩|⟨g',cap,cur,hv,_,hgc,hcap,hmx,hsz,ht⟩⟩:=ho
 ·cases h2
 injection hv with e1 e2 e3;injection e1 with e1;injection e1 with e1;subst e1 e3;refine⟨by rw[Nw hf],.inr ⟨g,c,cur.setIfInBounds (i*sz+o) v,rfl,De _,heap_set hgc v,by rw[Lc];exact hcap,hmx,by simp;exact hsz,?_⟩⟩;rw[Lc,Aqg hf xs i o hi hos y v hy,←ht,V4,List.take_set]
def MC.Ms.A1o(h:C.Ms D X β w m){n:Nat}(hn:n<m.lots.length):∃lb lc p,w.cell? ⟨C.mb,2,none⟩=some (.slice (some ⟨lb,0,none⟩) m.lots.length lc)/\m.lots.length<=lc/\lb<w.heap.size/\(lb≠C.mb/\∀g,dx D X g->lb≠g)/\(∀o,w.frozen? ⟨lb,o,none⟩=false)/\w.cell? ⟨lb,n*4,none⟩=some (.n (m.lots[n].calls))/\w.cell? ⟨lb,n*4+1,none⟩=some (.pointer p)/\w.cell? ⟨lb,n*4+2,none⟩=some (.n (m.lots[n].fast))/\w.cell? ⟨lb,n*4+3,none⟩=some (.n (m.lots[n].drops))/\Oa D w p m.lots[n].form/\
  ∀(o:Nat) (v:Value) (p':Option Addr) (l':En),o<4->Jz (p',l')=(Jz (p,m.lots[n])).set o v->Oa D w p' l'.form->C.Ms D X β (w.setCell ⟨lb,n*4+o,none⟩ v) { m with lots:=m.lots.set n l' }/\A3 (dx D X) w (w.setCell ⟨lb,n*4+o,none⟩ v)/\(w.setCell ⟨lb,n*4+o,none⟩ v).cell? ⟨lb,n*4+1,none⟩=some (.pointer p'):=by
 obtain⟨ρ,s,x,fv,ab,lp,h⟩:=h;have hlm:=h.lotm;have hll:m.lots.length=lp.length:=by rw[hlm];simp
 have hnl:n<lp.length:=by omega
 obtain⟨lb,k1,k2,hcap,lbl,hcell⟩:=G1 h.lots z4ma;have hown:=h.lots;have hlo:=h.loto lb (by rw[k1];rfl);have hne:lb≠C.mb:=fun e=>by rw[e,h.one.1]at hlo;cases hlo
 have hq:m.lots[n]=lp[n].2:=by simp[hlm]
 have c2:=A4 h.cell 2 (.slice s.la s.ln s.lc) rfl;rw[k1,k2,←hll]at c2;have hat:∀j v,j<4->(Jz lp[n])[j]?=some v->w.cell? ⟨lb,n*4+j,none⟩=some v:=fun j v hj hv=>hcell (n*4+j) v ((D8 (sz:=4) (fun _=>rfl) lp n j hnl hj).trans hv);rw[hq];have hfr:∀o,w.frozen? ⟨lb,o,none⟩=false:=by
  rw[k1,k2]at hown;exact A7z hown
 refine⟨lb,s.lc,lp[n].1,c2,by rw[hll];exact hcap,lbl,⟨hne,fun g hg e=>by have:=(h.prot g hg).2;rw[←e,hlo]at this;cases this⟩,hfr,hat 0 _ z4ma rfl,hat 1 _ z4ma rfl,hat 2 _ z4ma rfl,hat 3 _ z4ma rfl,h.forms _ (Ho hnl),?_⟩;intro o v p' l' ho hlc hform;have hc:Hq 2 ρ w (w.setCell ⟨lb,n*4+o,none⟩ v):=⟨rfl,rfl,rfl,by simp[World.setCell],fun k hk h1 h2=>Bh _ _ _ _ (by show k≠lb;exact fun e=>h2 (by rw[e];exact hlo))⟩;rw[k1,k2]at hown;have hrow:=An2 hown (fun _=>rfl) n o hnl ho (p',l') v hlc;have hfin:=h.Arc hc (la:=some ⟨lb,0,none⟩) (ln:=(lp.set n (p',l')).length) (lc:=s.lc) (lp':=lp.set n (p',l')) (x':=x) (now:=m.now) (fuel:=m.fuel) (cells:=m.cells) (code:=m.code) (line:=m.line)
  (by
   rw[Bh _ _ _ _ (by show C.mb≠lb;exact fun e=>hne e.symm),h.cell,Lc];simp only[MC.cells];rw[←k1,←k2])
  hrow (fun g hg=>.inl (by rw[k1];exact(P2 _ _ _ _).trans hg)) h.now
  (fun q hq=>by
   rcases O6 hq with e|e
   ·exact h.forms q e
   ·rw[e];exact hform)
 have hmap:(lp.set n (p',l')).map Prod.snd=m.lots.set n l':=by rw[hlm,List.map_set]
 rw[hmap]at hfin;refine⟨⟨_,_,_,_,_,_,hfin⟩,h.Fv hc z4ma,?_⟩;have hnl':n<(lp.set n (p',l')).length:=by rw[Lc];exact hnl
 obtain⟨Ed,k3,_,_,_,hcell2⟩:=G1 hrow z4ma;injection k3 with k3;injection k3 with k3;subst k3;refine hcell2 (n*4+1) _ ((D8 (f:=Jz) (sz:=4) (fun _=>rfl) (lp.set n (p',l')) n 1 hnl' z4ma).trans ?_);rw[Aaw];rfl
end
section
open Go.RowKit
open Go.Deep (BT)
variable {C:MC} {D X:Nat->Prop} {w w':World} {m:MS} {β:Nat->Nat}
structure Qx (C : MC) (D X : Nat -> Prop) (β : Nat -> Nat) (w : World) (m : MS) (lb n : Nat) (p : Option Addr) (l : En) : Prop where
 st:C.Ms D X β w m
 cell:∃c,w.cell? ⟨C.mb,2,none⟩=some (.slice (some ⟨lb,0,none⟩) m.lots.length c)/\m.lots.length<=c
 lt:n<m.lots.length
 lot:m.lots[n]?=some l
 lbl:lb<w.heap.size
 ne:lb≠C.mb/\∀g,dx D X g->lb≠g
 fz:∀o,w.frozen? ⟨lb,o,none⟩=false
 c0:w.cell? ⟨lb,n*4,none⟩=some (.n l.calls)
 c1:w.cell? ⟨lb,n*4+1,none⟩=some (.pointer p)
 c2:w.cell? ⟨lb,n*4+2,none⟩=some (.n l.fast)
 c3:w.cell? ⟨lb,n*4+3,none⟩=some (.n l.drops)
 form:Oa D w p l.form
def A7e(h:C.Ms D X β w m){n:Nat}{l:En}(hl:m.lots[n]?=some l):∃lb p,Qx C D X β w m lb n p l:=by
 have hn:n<m.lots.length:=(K4.1 hl).1;have e:m.lots[n]=l:=(K4.1 hl).2;obtain⟨lb,lc,p,q1,q2,q3,q4,q5,q6,q7,q8,q9,q10,_⟩:=h.A1o hn;rw[e]at q6 q8 q9 q10;exact⟨lb,p,h,⟨lc,q1,q2⟩,hn,hl,q3,q4,q5,q6,q7,q8,q9,q10⟩
def Qx.same{lb n:Nat}{p:Option Addr}{l:En}(h:Qx C D X β w m lb n p l){D' X':Nat->Prop}{m':MS}(hs:C.Ms D' X' β w' m')(hl:m'.lots=m.lots)(hk:∀g,g<w.heap.size->w'.heap[g]?=w.heap[g]?):Qx C D' X' β w' m' lb n p l:=by
 obtain⟨c,hc,hcc⟩:=h.cell;have lm:=h.st.B3;have hn:n<m'.lots.length:=by rw[hl];exact h.lt
 have hlot:m'.lots[n]?=some l:=by rw[hl];exact h.lot
 have e:m'.lots[n]=l:=(K4.1 hlot).2;obtain⟨lb',lc,p',q1,q2,q3,q4,q5,q6,q7,q8,q9,q10,_⟩:=hs.A1o hn;have hc':=(D9 (hk _ lm)).trans hc;rw[q1]at hc';simp only[Cg,Zh,Addr.mk.injEq,and_true]at hc';obtain⟨e1,e2,e3⟩:=hc';subst e1 e3;have hp:=(D9 (hk _ h.lbl)).trans h.c1;rw[q7]at hp;simp only[Cg,A3g]at hp;subst hp;rw[e]at q6 q8 q9 q10;exact⟨hs,⟨lc,q1,q2⟩,hn,hlot,q3,q4,q5,q6,q7,q8,q9,q10⟩
def Qx.set{lb n:Nat}{p:Option Addr}{l:En}(h:Qx C D X β w m lb n p l)(o:Nat)(v:Value)(p':Option Addr)(l':En)(ho:o<4)(hv:Jz (p',l')=(Jz (p,l)).set o v)(hf:Oa D w p' l'.form):Qx C D X β (w.setCell ⟨lb,n*4+o,none⟩ v) { m with lots:=m.lots.set n l' } lb n p' l'/\A3 (dx D X) w (w.setCell ⟨lb,n*4+o,none⟩ v):=by
 obtain⟨c,hc,hcc⟩:=h.cell;have hn:=h.lt;have e:m.lots[n]=l:=by have:=h.lot;rw[Eh h.lt]at this;exact Dl this
 obtain⟨lb',lc,q0,q1,q2,q3,q4,q5,q6,q7,q8,q9,q10,hset⟩:=h.st.A1o h.lt;rw[hc]at q1;simp only[Cg,Zh,Addr.mk.injEq,and_true,true_and]at q1;obtain⟨e1,e2,e3⟩:=q1;subst e1;have hp:=h.c1;rw[q7]at hp;simp only[Cg,A3g]at hp;subst hp;obtain⟨s1,s2,s3⟩:=hset o v p' l' ho (by rw[e];exact hv) hf;refine⟨?_,s2⟩;have hn':n<(m.lots.set n l').length:=by rw[Lc];exact h.lt
 have hl':({ m with lots:=m.lots.set n l' }:MS).lots[n]?=some l':=by show(m.lots.set n l')[n]?=some l';rw[Zk h.lt]
 obtain⟨Ed,p2,hL⟩:=A7e s1 hl';obtain⟨c2,hc2,hcc2⟩:=hL.cell;have hcm:(w.setCell ⟨lb,n*4+o,none⟩ v).cell? ⟨C.mb,2,none⟩=w.cell? ⟨C.mb,2,none⟩:=D9 (Bh _ _ _ _ (by show C.mb≠lb;exact fun q=>h.ne.1 q.symm));rw[hcm,hc]at hc2;simp only[Cg,Zh,Addr.mk.injEq,and_true]at hc2;obtain⟨e4,_,_⟩:=hc2;subst e4;have hp2:p2=p':=by
  have h1:=hL.c1;rw[s3]at h1;simp only[Cg,A3g]at h1;exact h1.symm
 rw[hp2]at hL;exact hL
end
section
set_option maxRecDepth 100000
open Go.RowKit
open Go.Deep (BT)
variable {C:MC} {D X:Nat->Prop} {w w':World} {m:MS} {β:Nat->Nat}
structure N8 (D : Nat -> Prop) (w : World) (bb oo slots : Nat) (steps : List Aa) (sa : Option Addr) (sn sc : Nat) : Prop where
 kept:D bb
 slots:w.cell? ⟨bb,oo,none⟩=some (.n slots)
 row:w.cell? ⟨bb,oo+1,none⟩=some (.slice sa sn sc)
 own:Dj D w 251 8 (.slice sa sn sc) steps.length (F7 steps)
def N8.keep{bb oo slots:Nat}{steps:List Aa}{sa:Option Addr}{sn sc:Nat}(h:N8 D w bb oo slots steps sa sn sc)(hb:A3 (dx D X) w w'):N8 D w' bb oo slots steps sa sn sc:=
 ⟨h.kept,(D9 (hb.block bb (.inl h.kept))).trans h.slots,(D9 (hb.block bb (.inl h.kept))).trans h.row,h.own.keep (fun g hg _=>⟨hb.block g (.inl hg),hg⟩)⟩
def A7h(h:C.Ms D X β w m){bb oo slots args:Nat}{steps:List Aa}{sa:Option Addr}{sn sc:Nat}(hB:N8 D w bb oo slots steps sa sn sc)(hs:slots<=10000)(ha:args<=10000)(hn:m.vals.length+slots<=90000000000) :
  Calls Tryz.prog 57 #[.p C.mb,.pointer (some ⟨bb,oo,none⟩),.n args] w (MP C D X β w (m.begin slots steps args) (.tuple #[])):=by
 have c0:=hB.slots;have c1:=hB.row;have lb:=h.B3;have lc:=O3 c0;have HL:=A0 h.J6.len;obtain⟨x0,_,g6,g7,g8,gz⟩:=h.Yf;have HS:=A0 h;have HBd:=A0 hB;clear h hB;go_in;go_wp2;go_region_law (refine F9 rfl 98 _ _ rfl #[.pointer (some ⟨C.mb,4,none⟩)] z4pa HL.o ?_;rintro e w1 ⟨rfl,Fe⟩;subst Fe;refine⟨_,rfl,?_⟩)
 all_goals
  have Ff:IntKind.i64.wrap ((m.vals.length:Int)-(args:Nat))=(m.vals.length:Int)-(args:Nat):=by rw[O7];omega
  rw[Ff];obtain⟨W1,hW1⟩:∃W1,W1=(((w.setCell ⟨C.mb,6,none⟩ (.slice sa sn sc)).setCell ⟨C.mb,7,none⟩ (.i 0)).setCell ⟨C.mb,8,none⟩ (.i ((m.vals.length:Int)-(args:Nat)))).drew:=⟨_,rfl⟩;rw[←hW1];have hq:=HS.o.Wi ⟨sa,sn,sc,0,(m.vals.length:Int)-(args:Nat)⟩ ⟨steps,0,(m.vals.length:Int)-(args:Nat)⟩ ⟨HBd.o.own,rfl,rfl⟩;have s1:C.Ms D X β W1 { m with now:=⟨steps,0,(m.vals.length:Int)-(args:Nat)⟩ }:=by rw[hW1];exact hq.1.J6
  have s2:A3 (dx D X) w W1:=by rw[hW1];exact hq.2.trans (Eb _ _ 1)
  clear hq Ff c0 c1 lc g6 g7 g8 gz;have c0:=(HBd.o.keep s2).slots;have Bn:=s1.B3;have lc:=O3 c0;have B5:=A0 s1;have A9:=A0 s2;clear s1 s2 hW1 HL HS;go_wp2;go_loopg [26] (slots-args) (fun k v wr=>∃i:Nat,v=.i i/\i+k=slots-args/\C.Ms D X β wr { m with now:=⟨steps,0,(m.vals.length:Int)-(args:Nat)⟩,vals:=m.vals++Jc i }/\A3 (dx D X) w wr)
  case atStart=>exact⟨0,rfl,by omega,by simpa [Jc]using B5.o,A9.o⟩
  case round=>
   obtain⟨i,rfl,hik,hsr,hbr⟩:=hrel;have HBr:=A0 hbr;have HSr:=A0 hsr;have lbr:=hsr.B3;clear hbr;by_cases hlt:i<slots-args
   ·have t0:((i:Nat):Int)<((slots:Nat):Int)-((args:Nat):Int):=by omega
    have HP:Calls Tryz.prog 99 #[.pointer (some ⟨C.mb,4,none⟩),.agg #[.i 0,.bool false,.i 0,.string ⟨#[]⟩,.pointer none]] wr (MP C D X β wr ({ m with now:=⟨steps,0,(m.vals.length:Int)-(args:Nat)⟩,vals:=m.vals++Jc i }.push Bb) (.tuple #[])):=hsr.push Bb (by simp[Ca,Bb]) (by simp[Jc];omega);clear hsr;go_wp2_with fail
    refine HP.mono ?_;rintro e w2 ⟨rfl,h2,k2⟩;have Au:=A0 h2;have Ab:A3 (dx D X) w w2:=HBr.o.trans k2;have Ed:=h2.B3;clear h2 k2 HP;go_wp2;go_roundg (gk-1)
    case measure=>omega
    case rel=>
     refine⟨i+1,by simp,by omega,?_,Ab⟩;have:=Au.o;rw[MS.push]at this;simpa [Jc,List.replicate_succ',Gv]using this
   ·have t0:¬((i:Nat):Int)<((slots:Nat):Int)-((args:Nat):Int):=by omega
    clear hsr;go_wp2;go_end0;have e:i=slots-args:=by omega
    refine⟨rfl,?_,HBr.o⟩;have:=HSr.o;rw[e]at this;exact this
def in2(X:Nat->Prop)(w w1:World):Nat->Prop:=fun g=>Dd X w g\/(w1.heap.size<=g/\g<w1.heap.size+1)
def MC.Ms.A4k{w1:World}(h:C.Ms D (in2 X w w1) β w' m):C.Ms D X β w' m:=h.less (fun _ h=>.inl (.inl h)) (fun _ _ _=>rfl) rfl
def Re{w1 w2 w3:World}(h:A3 (dx D (in2 X w w1)) w2 w3):A3 (dx D X) w2 w3:=h.weak (fun _ hg=>hg.imp id (fun q=>.inl (.inl q)))
def MC.Ms.A6v(h:C.Ms D (Dd X w) β w' m)(o:Obj):C.Ms D (in2 X w w') β (w'.alloc o) m/\A3 (dx D (Dd X w)) w' (w'.alloc o):=by
 have hb:Below w'.heap.size w' (w'.alloc o):=Ah (Al _ _) (Af _) _;have:=h.more hb;rw[K3]at this;exact⟨this,(h.below hb).2⟩
def z0qa {P:Prop} (h:P:=by
  unfold B7 at HP;go_wp2;refine Jt 4 z4pa z4pa ?_;simp only[Jh,J1,Ia,Hl];iterate 4 (refine Fm (fun K' hK'=>?_);go_simp;refine hK' _ ?_;clear hK' K')
  refine Js ?_;go_wp2_with fail
  refine HP.mono ?_;rintro e w3 ⟨rfl,h3,k3⟩;have lb3:=h3.B3;have Ba:A3 (dx D X) w w3:=Ab.trans ((Eb _ w2 1).trans (Re k3));have HF:=A0 h3.A6d;go_wp2_with fail
  refine HF.o.mono ?_;rintro e w4 ⟨y,rfl,hy,h4,k4⟩;obtain⟨x4,_,g6,g7,g8,gz⟩:=h4.Yf;have lb4:=h4.B3;obtain⟨s1,s2⟩:=h4.Wi y _ hy;have Ic:=A0 s1.A4k;have Ez:A3 (dx D X) w _:=Ba.trans ((Re k4).trans (Re s2));unfold Vu;go_wp2;go_end0;exact⟨rfl,Ic.o,Ez⟩):P:=h
def Ae0(h:C.Ms D X β w m)(i:Aa)(ho:i.op=44)(hv:Ca m.arr.length m.top)(hn:m.vals.length+1<=90000000000):Calls Tryz.prog 160 #[.pointer (some ⟨C.mb,0,none⟩),Ac i] w (MP C D X β w ({ (m.pop.cut m.now.base).push m.top with now:=m.calls.getLastD ⟨[],0,0⟩,calls:=m.calls.dropLast }) (.tuple #[])):=by
 obtain⟨w0,As,Av,Ag,Ao,Aw,nn,lb,C9⟩:=h.Ci i;have t43:((i.op:Int)==43)=false:=by rw[ho];rfl
 have t44:((i.op:Int)==44)=true:=by rw[ho];rfl
 clear ho;have HT:=A0 Av.o.pop;have cb:=Av.o.base;generalize hu:m.top=u at *;unfold B7 at HT;unfold Ac;go_in;go_wp2_with fail
 rw[←As.o];refine HT.o.mono ?_;rintro e w1 ⟨rfl,h1,k1⟩;have Bn:=h1.B3;have A9:A3 (dx D X) w w1:=Ag.o.trans (Ae k1);have An:=(k1.block _ Ao.o).trans Aw.o;have nn:=Bi An;have cb1:=h1.base;obtain⟨wa,hwa⟩:∃wa,wa=w1.alloc (.cells #[.int .i64 (u.k:Nat),.bool u.y,.int .i64 u.n,.string ⟨u.t.toArray⟩,.pointer (Bf β u)] 225):=⟨_,rfl⟩;have hka:=h1.A6v (.cells #[.int .i64 (u.k:Nat),.bool u.y,.int .i64 u.n,.string ⟨u.t.toArray⟩,.pointer (Bf β u)] 225);have hqa:=Bp w1 (.cells #[.int .i64 (u.k:Nat),.bool u.y,.int .i64 u.n,.string ⟨u.t.toArray⟩,.pointer (Bf β u)] 225);rw[←hwa]at hka hqa;have HBa:A3 (dx D X) w wa:=A9.trans (Ae hka.2);have cba:=hka.1.base;have lba:=hka.1.B3;have HC:=hka.1.J6.cut m.now.base;go_wp2;rw[←hwa];clear hwa;refine Jt 8 z4pa z4pa ?_;simp only[Jh,J1,Ia,Hl];iterate 8 (refine Fm (fun K' hK'=>?_);go_simp;refine hK' _ ?_;clear hK' K')
 refine Js ?_;go_wp2_with fail
 refine HC.mono ?_;rintro e w2 ⟨rfl,h2,k2⟩;have Gd:=(k2.block _ (.inr (.inr ⟨Af _,by omega⟩))).trans hqa;obtain⟨p0,p1,p2,p3,p4,fp,lp⟩:=Pd Gd;have Ed:=h2.B3;have Ab:A3 (dx D X) w w2:=HBa.trans ((Eb _ wa 1).trans (Re k2));have HP:=h2.J6.push u hv (by have:=hn;simp[MS.cut,MS.pop];split <;> simp <;> omega);exact z0qa
def Adq(h:C.Ms D X β w m)(i:Aa)(ho:i.op=43)(hn:m.vals.length+1<=90000000000):Calls Tryz.prog 160 #[.pointer (some ⟨C.mb,0,none⟩),Ac i] w (MP C D X β w ({ (m.cut m.now.base).push Bb with now:=m.calls.getLastD ⟨[],0,0⟩,calls:=m.calls.dropLast }) (.tuple #[])):=by
 obtain⟨w0,As,Av,Ag,Ao,Aw,nn,lb,C9⟩:=h.Ci i;have t43:((i.op:Int)==43)=true:=by rw[ho];rfl
 clear ho;have HP0:=Av.o.push Bb (by simp[Ca,Bb]) hn;unfold B7 at HP0;unfold Ac;go_in;go_wp2_with fail
 rw[←As.o];refine HP0.mono ?_;rintro e w1 ⟨rfl,h1,k1⟩;have Bn:=h1.B3;have B5:=A0 h1;have A9:Hid (A3 (dx D X) w w1):=Ag.o.trans (Ae k1);have An:=(k1.block _ Ao.o).trans Aw.o;have HI1:=A0 An;have nn:=Bi An;have hpp:=B5.o.pop;have e1:(m.push Bb).pop=m:=by simp[MS.push,MS.pop]
 have e2:(m.push Bb).top=Bb:=by simp[MS.push,MS.top]
 rw[e1,e2]at hpp;have HT:=A0 hpp;unfold B7 at HT;go_wp2_with fail
 refine HT.o.mono ?_;rintro e w1 ⟨rfl,h1,k1⟩;have Bn:=h1.B3;have B5:=A0 h1;have A9:Hid (A3 (dx D X) w w1):=A9.o.trans (Ae k1);have An:=(k1.block _ Ao.o).trans HI1.o;have HI1:=A0 An;have nn:=Bi An;have cb1:=B5.o.base;obtain⟨wa,hwa⟩:∃wa,wa=w1.alloc (.cells #[.int .i64 (Bb.k:Nat),.bool Bb.y,.int .i64 Bb.n,.string ⟨Bb.t.toArray⟩,.pointer (Bf β Bb)] 225):=⟨_,rfl⟩;have hka:=B5.o.A6v (.cells #[.int .i64 (Bb.k:Nat),.bool Bb.y,.int .i64 Bb.n,.string ⟨Bb.t.toArray⟩,.pointer (Bf β Bb)] 225);have hqa:=Bp w1 (.cells #[.int .i64 (Bb.k:Nat),.bool Bb.y,.int .i64 Bb.n,.string ⟨Bb.t.toArray⟩,.pointer (Bf β Bb)] 225);rw[←hwa]at hka hqa;have HBa:A3 (dx D X) w wa:=A9.o.trans (Ae hka.2);have cba:=hka.1.base;have lba:=hka.1.B3;have HC:=hka.1.J6.cut m.now.base;go_wp2;rw[←hwa];clear hwa;refine Jt 8 z4pa z4pa ?_;simp only[Jh,J1,Ia,Hl];iterate 8 (refine Fm (fun K' hK'=>?_);go_simp;refine hK' _ ?_;clear hK' K')
 refine Js ?_;go_wp2_with fail
 refine HC.mono ?_;rintro e w2 ⟨rfl,h2,k2⟩;have Gd:=(k2.block _ (.inr (.inr ⟨Af _,by omega⟩))).trans hqa;obtain⟨p0,p1,p2,p3,p4,fp,lp⟩:=Pd Gd;have Ed:=h2.B3;have Ab:A3 (dx D X) w w2:=HBa.trans ((Eb _ wa 1).trans (Re k2));have HP:=h2.J6.push Bb (by simp[Ca,Bb]) (by simp only[MS.cut];split;exact hn;simp only[G3];omega);exact z0qa
