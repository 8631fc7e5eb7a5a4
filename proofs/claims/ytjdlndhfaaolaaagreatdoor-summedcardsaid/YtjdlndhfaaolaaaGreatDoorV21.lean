import Derived.Test.YtjdlndhfaaolaaaGreatDoorV20
set_option maxHeartbeats 20000000
namespace Go.Proofs.YtjdlndhfaaolaaaGreatDoor
section
set_option maxRecDepth 100000
open Go.RowKit
open Go.Deep (BT)
def Kr(fns:List (Nm×Nat))(l:A6)(n:Nat)(outer cur:List Nm)(wh:Nat)(inn:Bool)(f:Ct):Ct:=
 if l.kd=6\/l.kd=28 then Ed (!decide (l.s∈outer++cur)) 3 l.line f
 else if l.kd=7 then Ed (Oj fns l.s n) 3 l.line f
 else if l.kd=25\/l.kd=26 then Ed (wh==0) 4 l.line f
 else if l.kd=24 then Ed (!inn) 4 l.line f
 else f
theorem Iz(fns:List (Nm×Nat))(l:A6)(c:BT A6)(h1:l.kd≠31)(h2:l.kd≠32)(h3:l.kd≠21)(outer cur:List Nm)(wh:Nat)(inn:Bool)(f:Ct):Bt fns (nd l c) outer cur wh inn f=Bt fns c outer cur wh inn (Kr fns l (Ax c) outer cur wh inn f):=by
 rw[nd,Bt,if_neg h1,if_neg h2,if_neg h3,Bt];rfl
theorem Ks{fns:List (Nm×Nat)}{l:A6}{n:Nat}{outer cur:List Nm}{wh:Nat}{inn:Bool}{f:Ct}(h:l.kd≠6/\l.kd≠28/\l.kd≠7/\l.kd≠25/\l.kd≠26/\l.kd≠24):Kr fns l n outer cur wh inn f=f:=by
 unfold Kr;rw[if_neg z4va,if_neg z4va,if_neg z4va,if_neg z4va]
theorem An.nil'{D:Nat->Prop}{w:World}{c:BT A6}(h:An D w c []):c=.nil:=by
 cases c with
 | nil=>rfl
 | node x y l c r=>obtain⟨v,ks,rest,e,_⟩:=h;cases e
theorem An.cons'{D:Nat->Prop}{w:World}{c:BT A6}{a:Value}{vs:List Value}(h:An D w c (a::vs)):∃x y l c1 r ks,c=.node x y l c1 r/\Bs D w l a ks/\An D w c1 ks/\An D w r vs:=by
 cases c with
 | nil=>rw[An]at h;cases h
 | node x y l c1 r=>
  obtain⟨v,ks,rest,e,h1,h2,h3⟩:=h;injection e with e1 e2;subst e1 e2;exact⟨x,y,l,c1,r,ks,rfl,h1,h2,h3⟩
theorem Jy(fns:List (Nm×Nat))(x y:Nat)(l:A6)(c:BT A6)(outer cur:List Nm)(wh:Nat)(inn:Bool)(f:Ct):Bt fns (.node x y l c .nil) outer cur wh inn f=Bt fns (nd l c) outer cur wh inn f:=by
 rw[sens_xy',Bt]
theorem z4ea {P:Prop} (h:P:=by
  go_wp2;go_end0;exact⟨rfl,HSt.o,A3.refl _ _⟩):P:=h
theorem z53a {P:Prop} (h:P:=by rcases hp with h|h|h|h <;> rw[h] <;> decide):P:=h
theorem Aa3(K:CC)(l:A6)(c:BT A6)(hk:l.kd=1\/l.kd=2\/l.kd=3\/l.kd=4\/l.kd=5):Fw K l c:=by
 intro D w outer cur bk wh inn f rc v ks hst hn hr;unfold Bs at hn;rw[if_neg z4va]at hn;obtain⟨b,cs,rfl,hD,hb,hl⟩:=hn;rw[Iz K.fns l c z4va z4va z4va,Ks z4va];have hks:ks=[]:=by
  unfold Cv at hl;rcases hk with h|h|h|h|h <;> (simp only[h]at hl;exact hl.2)
 subst hks;rw[hr.nil',Bt];have HSt:=A0 hst;have hp:Cg l.kd=220\/Cg l.kd=229\/Cg l.kd=233\/Cg l.kd=237:=by
  rcases hk with h|h|h|h|h <;> (rw[h];decide)
 have hm:∀T e,Tryz.prog.underlying T=some (.pointer e)->(Tryz.prog.info? T).map (·.zero)=some (some (.pointer none))->Cg l.kd≠T->∀(v:Value) (w:World),(Instr.typeAssert (.iface (Cg l.kd) v) 150 T true).run Tryz.prog w=.ok (.tuple #[.pointer none,.bool false]) w:=fun T e h1 h2 h3 v w=>Bg h1 h2 h3 v w;have Dg:=hm 238 _ Tryz.underlying238 (by kernel_rfl) z53a;have Dz:=hm 301 _ Tryz.underlying301 (by kernel_rfl) z53a;have Ep:=hm 241 _ Tryz.underlying241 (by kernel_rfl) z53a;have Fh:=hm 296 _ Tryz.underlying296 (by kernel_rfl) z53a;have G8:=hm 304 _ Tryz.underlying304 (by kernel_rfl) z53a;have I1:=hm 307 _ Tryz.underlying307 (by kernel_rfl) z53a;have J6:=hm 310 _ Tryz.underlying310 (by kernel_rfl) z53a;have ta7:=hm 244 _ Tryz.underlying244 (by kernel_rfl) z53a;have ta8:=hm 248 _ Tryz.underlying248 (by kernel_rfl) z53a;clear hm hp hst hl hb hk;generalize Cg l.kd=t at *;go_enter Tryz.func236,Tryz.ntmps236;exact z4ea
theorem Zx(K:CC)(l:A6)(c:BT A6)(hk:l.kd=6):Fw K l c:=by
 intro D w outer cur bk wh inn f rc v ks hst hn hr;obtain⟨hlo,lcb,hncb⟩:=hst.lo;unfold Bs at hn;rw[if_neg z4va]at hn;obtain⟨b,cs,rfl,hD,hb,hl⟩:=hn;have e1:Cg l.kd=238:=by rw[hk];rfl
 have e2:Dk l.kd=240:=by rw[hk];rfl
 rw[e1];rw[e2]at hb;rw[Iz K.fns l c z4va z4va z4va];unfold Cv at hl;simp only[hk]at hl;obtain⟨rfl,rfl⟩:=hl;rw[hr.nil',Bt];have hp:Kr K.fns l (Ax BT.nil) outer cur wh inn f=Ed (!decide (l.s∈outer++cur)) 3 l.line f:=by unfold Kr;rw[if_pos (.inl hk)]
 rw[hp];have HSt:=A0 hst;have hsn:=j4 hst.st l.s 0 (Nat.zero_le _);rw[List.drop_zero]at hsn;have HSn:=A0 hsn;have d0:w.cell? ⟨b,0,none⟩=some (.int .i64 (l.line:Nat)):=A2 hb 0 _ rfl;have d1:w.cell? ⟨b,1,none⟩=some (.string ⟨l.s.toArray⟩):=A2 hb 1 _ rfl;have ld:=A5 hb;have Dg:=fun(v:Value) (w:World)=>E3 (P:=Tryz.prog) (xT:=150) Tryz.underlying238 v w;clear hst hsn hb hp e1 e2 hk hr;unfold Cc;cases hq:decide (l.s∈outer++cur)
 ·rw[hq]at HSn;go_enter Tryz.func236,Tryz.ntmps236;go_wp2_with fail
  refine HSn.o.mono ?_;rintro e w' ⟨rfl,rfl⟩;go_wp2_with fail
  refine(Ol HSt.o.st 3 l.line).mono ?_;rintro e w3 ⟨rfl,C6,Aj⟩;have Bc:=A0 (HSt.o.next C6 Aj);have Av:=A0 Aj;exact z3aa
 ·rw[hq]at HSn;rw[show(!true)=false from rfl,Qa];go_enter Tryz.func236,Tryz.ntmps236;go_wp2_with fail
  refine HSn.o.mono ?_;rintro e w' ⟨rfl,rfl⟩;exact z4ea
theorem z12a {P:Prop} (h:P:=by
  unfold Cc;go_enter Tryz.func236,Tryz.ntmps236;go_wp2_with fail
  refine HC.o.mono ?_;rintro e w1 ⟨rfl,Ak,A1⟩;have A7:=A0 Ak;have A4:=A0 A1;clear Ak A1;go_wp2;go_end0;exact⟨rfl,A7.o,A4.o⟩):P:=h
theorem Aa2(K:CC)(l:A6)(c:BT A6)(hk:l.kd=8)(ih:D6 (Fw K) c):Fw K l c:=by
 intro D w outer cur bk wh inn f rc v ks hst hn hr;obtain⟨hlo,lcb,hncb⟩:=hst.lo;unfold Bs at hn;rw[if_neg z4va]at hn;obtain⟨b,cs,rfl,hD,hb,hl⟩:=hn;have e1:Cg l.kd=241:=by rw[hk];rfl
 have e2:Dk l.kd=243:=by rw[hk];rfl
 rw[e1];rw[e2]at hb;rw[Iz K.fns l c z4va z4va z4va];unfold Cv at hl;simp only[hk]at hl;obtain⟨a,rfl,rfl⟩:=hl;obtain⟨x1,y1,l1,c1,r1,Dd,rfl,Bl,At,hz⟩:=hr.cons';obtain rfl:=hz.nil';rw[Ks z4va,Jy];have HC:=A0 (ih.1 D w outer cur bk wh inn f rc a Dd hst Bl At);have d0:=A2 hb 0 a rfl;have ld:=A5 hb;have Dg:=fun(v:Value) (w:World)=>Bg (P:=Tryz.prog) (t:=241) (T:=238) (xT:=150) (z:=.pointer none) Tryz.underlying238 (by kernel_rfl) z4wa v w;have Dz:=fun(v:Value) (w:World)=>Bg (P:=Tryz.prog) (t:=241) (T:=301) (xT:=150) (z:=.pointer none) Tryz.underlying301 (by kernel_rfl) z4wa v w;have Ep:=fun(v:Value) (w:World)=>E3 (P:=Tryz.prog) (xT:=150) Tryz.underlying241 v w;clear hst hb e1 e2 hk hr Bl At hz ih;exact z12a
theorem Aa4(K:CC)(l:A6)(c:BT A6)(hk:l.kd=10)(ih:D6 (Fw K) c):Fw K l c:=by
 intro D w outer cur bk wh inn f rc v ks hst hn hr;obtain⟨hlo,lcb,hncb⟩:=hst.lo;unfold Bs at hn;rw[if_neg z4va]at hn;obtain⟨b,cs,rfl,hD,hb,hl⟩:=hn;have e1:Cg l.kd=304:=by rw[hk];rfl
 have e2:Dk l.kd=306:=by rw[hk];rfl
 rw[e1];rw[e2]at hb;rw[Iz K.fns l c z4va z4va z4va];unfold Cv at hl;simp only[hk]at hl;obtain⟨a,rfl,rfl⟩:=hl;obtain⟨x1,y1,l1,c1,r1,Dd,rfl,Bl,At,hz⟩:=hr.cons';obtain rfl:=hz.nil';rw[Ks z4va,Jy];have HC:=A0 (ih.1 D w outer cur bk wh inn f rc a Dd hst Bl At);have d0:=A2 hb 1 a rfl;have ld:=A5 hb;have Dg:=fun(v:Value) (w:World)=>Bg (P:=Tryz.prog) (t:=304) (T:=238) (xT:=150) (z:=.pointer none) Tryz.underlying238 (by kernel_rfl) z4wa v w;have Dz:=fun(v:Value) (w:World)=>Bg (P:=Tryz.prog) (t:=304) (T:=301) (xT:=150) (z:=.pointer none) Tryz.underlying301 (by kernel_rfl) z4wa v w;have Ep:=fun(v:Value) (w:World)=>Bg (P:=Tryz.prog) (t:=304) (T:=241) (xT:=150) (z:=.pointer none) Tryz.underlying241 (by kernel_rfl) z4wa v w;have Fh:=fun(v:Value) (w:World)=>Bg (P:=Tryz.prog) (t:=304) (T:=296) (xT:=150) (z:=.pointer none) Tryz.underlying296 (by kernel_rfl) z4wa v w;have G8:=fun(v:Value) (w:World)=>E3 (P:=Tryz.prog) (xT:=150) Tryz.underlying304 v w;clear hst hb e1 e2 hk hr Bl At hz ih;exact z12a
theorem z0aa {P:Prop} (h:P:=by
  intro D w outer cur bk wh inn f rc v ks hst hn hr;obtain⟨hlo,lcb,hncb⟩:=hst.lo;unfold Bs at hn;rw[if_neg z4va]at hn;obtain⟨b,cs,rfl,hD,hb,hl⟩:=hn;have e1:Cg l.kd=244:=by rw[hk];rfl
  have e2:Dk l.kd=246:=by rw[hk];rfl
  rw[e1];rw[e2]at hb;rw[Iz K.fns l c z4va z4va z4va];unfold Cv at hl;simp only[hk]at hl;obtain⟨a,rfl,rfl⟩:=hl;obtain⟨x1,y1,l1,c1,r1,Dd,rfl,Bl,At,hz⟩:=hr.cons';obtain rfl:=hz.nil';rw[Ks z4va,Jy];have HC:=A0 (ih.1 D w outer cur bk wh inn f rc a Dd hst Bl At);have d0:=A2 hb 2 a rfl;have ld:=A5 hb;have Dg:=fun(v:Value) (w:World)=>Bg (P:=Tryz.prog) (t:=244) (T:=238) (xT:=150) (z:=.pointer none) Tryz.underlying238 (by kernel_rfl) z4wa v w;have Dz:=fun(v:Value) (w:World)=>Bg (P:=Tryz.prog) (t:=244) (T:=301) (xT:=150) (z:=.pointer none) Tryz.underlying301 (by kernel_rfl) z4wa v w;have Ep:=fun(v:Value) (w:World)=>Bg (P:=Tryz.prog) (t:=244) (T:=241) (xT:=150) (z:=.pointer none) Tryz.underlying241 (by kernel_rfl) z4wa v w;have Fh:=fun(v:Value) (w:World)=>Bg (P:=Tryz.prog) (t:=244) (T:=296) (xT:=150) (z:=.pointer none) Tryz.underlying296 (by kernel_rfl) z4wa v w;have G8:=fun(v:Value) (w:World)=>Bg (P:=Tryz.prog) (t:=244) (T:=304) (xT:=150) (z:=.pointer none) Tryz.underlying304 (by kernel_rfl) z4wa v w;have I1:=fun(v:Value) (w:World)=>Bg (P:=Tryz.prog) (t:=244) (T:=307) (xT:=150) (z:=.pointer none) Tryz.underlying307 (by kernel_rfl) z4wa v w;have J6:=fun(v:Value) (w:World)=>Bg (P:=Tryz.prog) (t:=244) (T:=310) (xT:=150) (z:=.pointer none) Tryz.underlying310 (by kernel_rfl) z4wa v w;have ta7:=fun(v:Value) (w:World)=>E3 (P:=Tryz.prog) (xT:=150) Tryz.underlying244 v w;clear hst hb e1 e2 hk hr Bl At hz ih;unfold Cc;go_enter Tryz.func236,Tryz.ntmps236;go_wp2_with fail
  refine HC.o.mono ?_;rintro e w1 ⟨rfl,Ak,A1⟩;have A7:=A0 Ak;have A4:=A0 A1;clear Ak A1;go_wp2;go_end0;exact⟨rfl,A7.o,A4.o⟩):P:=h
theorem Aa7(K:CC)(l:A6)(c:BT A6)(hk:l.kd=13)(ih:D6 (Fw K) c):Fw K l c:=by
 exact z0aa
theorem Aa6(K:CC)(l:A6)(c:BT A6)(hk:l.kd=14)(ih:D6 (Fw K) c):Fw K l c:=by
 exact z0aa
theorem z10a {P:Prop} (h:P:=by
  have Aa:Hid (A3 D w w2):=A4.o.trans A8;clear B0 A8;go_wp2;go_end0;exact⟨rfl,Ai.o,Aa.o⟩):P:=h
theorem z34a {P:Prop} (h:P:=by
  clear hst hb e1 e2 hk hr Bl At hz ih hwf hc0 Di B5 C5;unfold Cc;go_enter Tryz.func236,Tryz.ntmps236;go_wp2_with fail
  refine HC.o.mono ?_;rintro e w1 ⟨rfl,Ak,A1⟩;have A7:=A0 Ak;have A4:=A0 A1;have Bp:=(A1.block b hD).trans HBk.o;have d1:=A2 Bp 2 a2 rfl;have ld1:=A5 Bp;clear Ak A1 d0 ld Bp;go_wp2_with fail
  refine(Ev.o _ _ A7.o A4.o).mono ?_;rintro e w2 ⟨rfl,B0,A8⟩;have Ai:=A0 B0;exact z10a):P:=h
theorem Aa8(K:CC)(l:A6)(c:BT A6)(hk:l.kd=11)(ih:D6 (Fw K) c)(hwf:Wf 0 c):Fw K l c:=by
 intro D w outer cur bk wh inn f rc v ks hst hn hr;obtain⟨hlo,lcb,hncb⟩:=hst.lo;unfold Bs at hn;rw[if_neg z4va]at hn;obtain⟨b,cs,rfl,hD,hb,hl⟩:=hn;have e1:Cg l.kd=307:=by rw[hk];rfl
 have e2:Dk l.kd=309:=by rw[hk];rfl
 rw[e1];rw[e2]at hb;rw[Iz K.fns l c z4va z4va z4va];unfold Cv at hl;simp only[hk]at hl;obtain⟨a1,a2,rfl,rfl⟩:=hl;obtain⟨x1,y1,l1,c1,r1,Dd,rfl,Bl,At,hz⟩:=hr.cons';obtain⟨x2,y2,l2,c2,r2,Gl,rfl,Di,B5,C5⟩:=hz.cons';obtain rfl:=C5.nil';have hc0:=Ku K.fns _ hwf.Qw outer cur wh inn f;rw[Ks z4va,sens_xy',hc0,Jy];have HC:=A0 (ih.1 D w outer cur bk wh inn f rc a1 Dd hst Bl At);have Ev:=A0 (fun W g (hs:K.St D W (outer++cur) bk wh inn g rc) (hbd:A3 D w W)=>ih.2.1 D W outer cur bk wh inn g rc a2 Gl hs (Di.Bq hbd) (B5.Bq hbd));have d0:=A2 hb 1 a1 rfl;have ld:=A5 hb;have HBk:=A0 hb;have Dg:=fun(v:Value) (w:World)=>Bg (P:=Tryz.prog) (t:=307) (T:=238) (xT:=150) (z:=.pointer none) Tryz.underlying238 (by kernel_rfl) z4wa v w;have Dz:=fun(v:Value) (w:World)=>Bg (P:=Tryz.prog) (t:=307) (T:=301) (xT:=150) (z:=.pointer none) Tryz.underlying301 (by kernel_rfl) z4wa v w;have Ep:=fun(v:Value) (w:World)=>Bg (P:=Tryz.prog) (t:=307) (T:=241) (xT:=150) (z:=.pointer none) Tryz.underlying241 (by kernel_rfl) z4wa v w;have Fh:=fun(v:Value) (w:World)=>Bg (P:=Tryz.prog) (t:=307) (T:=296) (xT:=150) (z:=.pointer none) Tryz.underlying296 (by kernel_rfl) z4wa v w;have G8:=fun(v:Value) (w:World)=>Bg (P:=Tryz.prog) (t:=307) (T:=304) (xT:=150) (z:=.pointer none) Tryz.underlying304 (by kernel_rfl) z4wa v w;have I1:=fun(v:Value) (w:World)=>E3 (P:=Tryz.prog) (xT:=150) Tryz.underlying307 v w;exact z34a
theorem Zw(K:CC)(l:A6)(c:BT A6)(hk:l.kd=12)(ih:D6 (Fw K) c)(hwf:Wf 0 c):Fw K l c:=by
 intro D w outer cur bk wh inn f rc v ks hst hn hr;obtain⟨hlo,lcb,hncb⟩:=hst.lo;unfold Bs at hn;rw[if_neg z4va]at hn;obtain⟨b,cs,rfl,hD,hb,hl⟩:=hn;have e1:Cg l.kd=310:=by rw[hk];rfl
 have e2:Dk l.kd=312:=by rw[hk];rfl
 rw[e1];rw[e2]at hb;rw[Iz K.fns l c z4va z4va z4va];unfold Cv at hl;simp only[hk]at hl;obtain⟨a1,a2,rfl,rfl⟩:=hl;obtain⟨x1,y1,l1,c1,r1,Dd,rfl,Bl,At,hz⟩:=hr.cons';obtain⟨x2,y2,l2,c2,r2,Gl,rfl,Di,B5,C5⟩:=hz.cons';obtain rfl:=C5.nil';have hc0:=Ku K.fns _ hwf.Qw outer cur wh inn f;rw[Ks z4va,sens_xy',hc0,Jy];have HC:=A0 (ih.1 D w outer cur bk wh inn f rc a1 Dd hst Bl At);have Ev:=A0 (fun W g (hs:K.St D W (outer++cur) bk wh inn g rc) (hbd:A3 D w W)=>ih.2.1 D W outer cur bk wh inn g rc a2 Gl hs (Di.Bq hbd) (B5.Bq hbd));have d0:=A2 hb 1 a1 rfl;have ld:=A5 hb;have HBk:=A0 hb;have Dg:=fun(v:Value) (w:World)=>Bg (P:=Tryz.prog) (t:=310) (T:=238) (xT:=150) (z:=.pointer none) Tryz.underlying238 (by kernel_rfl) z4wa v w;have Dz:=fun(v:Value) (w:World)=>Bg (P:=Tryz.prog) (t:=310) (T:=301) (xT:=150) (z:=.pointer none) Tryz.underlying301 (by kernel_rfl) z4wa v w;have Ep:=fun(v:Value) (w:World)=>Bg (P:=Tryz.prog) (t:=310) (T:=241) (xT:=150) (z:=.pointer none) Tryz.underlying241 (by kernel_rfl) z4wa v w;have Fh:=fun(v:Value) (w:World)=>Bg (P:=Tryz.prog) (t:=310) (T:=296) (xT:=150) (z:=.pointer none) Tryz.underlying296 (by kernel_rfl) z4wa v w;have G8:=fun(v:Value) (w:World)=>Bg (P:=Tryz.prog) (t:=310) (T:=304) (xT:=150) (z:=.pointer none) Tryz.underlying304 (by kernel_rfl) z4wa v w;have I1:=fun(v:Value) (w:World)=>Bg (P:=Tryz.prog) (t:=310) (T:=307) (xT:=150) (z:=.pointer none) Tryz.underlying307 (by kernel_rfl) z4wa v w;have J6:=fun(v:Value) (w:World)=>E3 (P:=Tryz.prog) (xT:=150) Tryz.underlying310 v w;exact z34a
theorem O5{w:World}{base:Nat}{e:TypeId}{size:Nat}{v:Value}{n:Nat}{xs:List Value}(h:w.ownsRow base e size v n xs):∃a n c,v=.slice a n c:=by
 rcases h.2 with⟨rfl,_⟩|⟨g,cap,cur,rfl,_⟩
 ·exact⟨_,_,_,rfl⟩
 ·exact⟨_,_,_,rfl⟩
theorem Aa5(K:CC)(l:A6)(c:BT A6)(hk:l.kd=9)(ih:D6 (Fw K) c)(hwf:Wf 0 c)(hsz:Ax c<=500000):Fw K l c:=by
 intro D w outer cur bk wh inn f rc v ks hst hn hr;obtain⟨hlo,lcb,hncb⟩:=hst.lo;unfold Bs at hn;rw[if_neg z4va]at hn;obtain⟨b,cs,rfl,hD,hb,hl⟩:=hn;have e1:Cg l.kd=296:=by rw[hk];rfl
 have e2:Dk l.kd=300:=by rw[hk];rfl
 rw[e1];rw[e2]at hb;rw[Iz K.fns l c z4va z4va z4va];unfold Cv at hl;simp only[hk]at hl;obtain⟨sl,rfl,ho⟩:=hl;rw[Ks z4va];obtain⟨va,vn,vc,rfl⟩:∃va vn vc,sl=.slice va vn vc:=O5 ho.1;have HC:=A0 (Zy K c ih hwf D w outer cur bk wh inn f rc va vn vc ks hst ho hr (by rw[hr.len];exact hsz));have d0:=A2 hb 1 _ rfl;have ld:=A5 hb;have Dg:=fun(v:Value) (w:World)=>Bg (P:=Tryz.prog) (t:=296) (T:=238) (xT:=150) (z:=.pointer none) Tryz.underlying238 (by kernel_rfl) z4wa v w;have Dz:=fun(v:Value) (w:World)=>Bg (P:=Tryz.prog) (t:=296) (T:=301) (xT:=150) (z:=.pointer none) Tryz.underlying301 (by kernel_rfl) z4wa v w;have Ep:=fun(v:Value) (w:World)=>Bg (P:=Tryz.prog) (t:=296) (T:=241) (xT:=150) (z:=.pointer none) Tryz.underlying241 (by kernel_rfl) z4wa v w;have Fh:=fun(v:Value) (w:World)=>E3 (P:=Tryz.prog) (xT:=150) Tryz.underlying296 v w;clear hst hb e1 e2 hk hr ih hwf ho;exact z12a
theorem Aa1(K:CC)(l:A6)(c:BT A6)(hk:l.kd=7)(ih:D6 (Fw K) c)(hwf:Wf 0 c)(hsz:Ax c<=500000):Fw K l c:=by
 intro D w outer cur bk wh inn f rc v ks hst hn hr;obtain⟨hlo,lcb,hncb⟩:=hst.lo;unfold Bs at hn;rw[if_neg z4va]at hn;obtain⟨b,cs,rfl,hD,hb,hl⟩:=hn;have e1:Cg l.kd=301:=by rw[hk];rfl
 have e2:Dk l.kd=303:=by rw[hk];rfl
 rw[e1];rw[e2]at hb;rw[Iz K.fns l c z4va z4va z4va];unfold Cv at hl;simp only[hk]at hl;obtain⟨sl,rfl,ho⟩:=hl;have hp:Kr K.fns l (Ax c) outer cur wh inn f=Ed (Oj K.fns l.s (Ax c)) 3 l.line f:=by unfold Kr;rw[if_neg z4va,if_pos hk]
 rw[hp];obtain⟨va,vn,vc,rfl⟩:∃va vn vc,sl=.slice va vn vc:=O5 ho.1;have HC:=A0 (A9y K c ih hwf l.line l.s D w outer cur bk wh inn f rc b va vn vc ks hst hD hb ho hr (by rw[hr.len];exact hsz));have ld:=A5 hb;have Dg:=fun(v:Value) (w:World)=>Bg (P:=Tryz.prog) (t:=301) (T:=238) (xT:=150) (z:=.pointer none) Tryz.underlying238 (by kernel_rfl) z4wa v w;have Dz:=fun(v:Value) (w:World)=>E3 (P:=Tryz.prog) (xT:=150) Tryz.underlying301 v w;clear hst hb e1 e2 hk hr ih hwf ho hp;exact z12a
theorem bin_lay'{D:Nat->Prop}{w:World}{l:A6}{cs:Array Value}{ks:List Value}(hk:127<=l.kd/\l.kd<=140)(h:Cv D w l cs ks):∃a b,cs=#[Gd l.line,.int .i64 ((l.kd-100:Nat):Nat),a,b]/\ks=[a,b]:=by
 have h14:l.kd=127\/l.kd=128\/l.kd=129\/l.kd=130\/l.kd=131\/l.kd=132\/l.kd=133\/l.kd=134\/l.kd=135\/l.kd=136\/l.kd=137\/l.kd=138\/l.kd=139\/l.kd=140:=by omega
 unfold Cv at h;rcases h14 with e|e|e|e|e|e|e|e|e|e|e|e|e|e <;> (simp only[e]at h ⊢;exact h)
theorem bin_ty'{kd:Nat}(hk:127<=kd/\kd<=140):Cg kd=248/\Dk kd=295:=by
 have h14:kd=127\/kd=128\/kd=129\/kd=130\/kd=131\/kd=132\/kd=133\/kd=134\/kd=135\/kd=136\/kd=137\/kd=138\/kd=139\/kd=140:=by omega
 rcases h14 with e|e|e|e|e|e|e|e|e|e|e|e|e|e <;> (subst e;exact⟨rfl,rfl⟩)
theorem Aa0(K:CC)(l:A6)(c:BT A6)(hk:127<=l.kd/\l.kd<=140)(ih:D6 (Fw K) c)(hwf:Wf 0 c):Fw K l c:=by
 intro D w outer cur bk wh inn f rc v ks hst hn hr;obtain⟨hlo,lcb,hncb⟩:=hst.lo;unfold Bs at hn;rw[if_neg z4va]at hn;obtain⟨b,cs,rfl,hD,hb,hl⟩:=hn;obtain⟨e1,e2⟩:=bin_ty' hk;rw[e1];rw[e2]at hb;rw[Iz K.fns l c z4va z4va z4va];replace hl:=bin_lay' hk hl;obtain⟨a1,a2,rfl,rfl⟩:=hl;obtain⟨x1,y1,l1,c1,r1,Dd,rfl,Bl,At,hz⟩:=hr.cons';obtain⟨x2,y2,l2,c2,r2,Gl,rfl,Di,B5,C5⟩:=hz.cons';obtain rfl:=C5.nil';have hc0:=Ku K.fns _ hwf.Qw outer cur wh inn f;rw[Ks z4va,sens_xy',hc0,Jy];have HC:=A0 (ih.1 D w outer cur bk wh inn f rc a1 Dd hst Bl At);have Ev:=A0 (fun W g (hs:K.St D W (outer++cur) bk wh inn g rc) (hbd:A3 D w W)=>ih.2.1 D W outer cur bk wh inn g rc a2 Gl hs (Di.Bq hbd) (B5.Bq hbd));have d0:=A2 hb 2 a1 rfl;have ld:=A5 hb;have HBk:=A0 hb;have Dg:=fun(v:Value) (w:World)=>Bg (P:=Tryz.prog) (t:=248) (T:=238) (xT:=150) (z:=.pointer none) Tryz.underlying238 (by kernel_rfl) z4wa v w;have Dz:=fun(v:Value) (w:World)=>Bg (P:=Tryz.prog) (t:=248) (T:=301) (xT:=150) (z:=.pointer none) Tryz.underlying301 (by kernel_rfl) z4wa v w;have Ep:=fun(v:Value) (w:World)=>Bg (P:=Tryz.prog) (t:=248) (T:=241) (xT:=150) (z:=.pointer none) Tryz.underlying241 (by kernel_rfl) z4wa v w;have Fh:=fun(v:Value) (w:World)=>Bg (P:=Tryz.prog) (t:=248) (T:=296) (xT:=150) (z:=.pointer none) Tryz.underlying296 (by kernel_rfl) z4wa v w;have G8:=fun(v:Value) (w:World)=>Bg (P:=Tryz.prog) (t:=248) (T:=304) (xT:=150) (z:=.pointer none) Tryz.underlying304 (by kernel_rfl) z4wa v w;have I1:=fun(v:Value) (w:World)=>Bg (P:=Tryz.prog) (t:=248) (T:=307) (xT:=150) (z:=.pointer none) Tryz.underlying307 (by kernel_rfl) z4wa v w;have J6:=fun(v:Value) (w:World)=>Bg (P:=Tryz.prog) (t:=248) (T:=310) (xT:=150) (z:=.pointer none) Tryz.underlying310 (by kernel_rfl) z4wa v w;have ta7:=fun(v:Value) (w:World)=>Bg (P:=Tryz.prog) (t:=248) (T:=244) (xT:=150) (z:=.pointer none) Tryz.underlying244 (by kernel_rfl) z4wa v w;have ta8:=fun(v:Value) (w:World)=>E3 (P:=Tryz.prog) (xT:=150) Tryz.underlying248 v w;clear hst hb e1 e2 hk hr Bl At hz ih hwf hc0 Di B5 C5;unfold Cc;go_enter Tryz.func236,Tryz.ntmps236;go_wp2_with fail
 refine HC.o.mono ?_;rintro e w1 ⟨rfl,Ak,A1⟩;have A7:=A0 Ak;have A4:=A0 A1;have Bp:=(A1.block b hD).trans HBk.o;have d1:=A2 Bp 3 a2 rfl;have ld1:=A5 Bp;clear Ak A1 d0 ld Bp;go_wp2_with fail
 refine(Ev.o _ _ A7.o A4.o).mono ?_;rintro e w2 ⟨rfl,B0,A8⟩;have Ai:=A0 B0;exact z10a
theorem z48a {P:Prop} (h:P:=by
  unfold Iv at h;simp only[Bool.or_eq_true,Bool.and_eq_true,decide_eq_true_eq]at h;omega):P:=h
theorem Ad1{kd:Nat}(h:Iv kd=true):(kd=1\/kd=2\/kd=3\/kd=4\/kd=5)\/kd=6\/kd=7\/kd=8\/kd=9\/kd=10\/kd=11\/kd=12\/kd=13\/kd=14\/(127<=kd/\kd<=140):=by
 exact z48a
theorem Wf.exs{x y:Nat}{l:A6}{c r:BT A6}(h:Wf 0 (.node x y l c r)):Iv l.kd=true/\Wf 0 c/\Wf 0 r:=by
 rcases h.2 with⟨_,h1,h2⟩|⟨h1,_⟩|⟨h1,_⟩|⟨h1,_⟩|⟨h1,_⟩|⟨h1,_⟩|⟨h1,_⟩
 ·exact⟨h1,h2,h.1⟩
 all_goals omega
theorem Wt(K:CC):∀f:BT A6,Wf 0 f->bsize f<=500000->D6 (Fw K) f:=by
 intro f;induction f with
 | nil=>intro _ _;trivial
 | node x y l c r Dr D8=>
  intro h hs;obtain⟨h1,h2,h3⟩:=h.exs;rw[bsize]at hs;have ih:=Dr h2 z4va;have hl:=Nt c;refine⟨?_,D8 h3 z4va⟩;rcases Ad1 h1 with e|e|e|e|e|e|e|e|e|e|e
  ·exact Aa3 K l c e
  ·exact Zx K l c e
  ·exact Aa1 K l c e ih h2 z4va
  ·exact Aa2 K l c e ih
  ·exact Aa5 K l c e ih h2 z4va
  ·exact Aa4 K l c e ih
  ·exact Aa8 K l c e ih h2
  ·exact Zw K l c e ih h2
  ·exact Aa7 K l c e ih
  ·exact Aa6 K l c e ih
  ·exact Aa0 K l c e ih h2
theorem Bs.isIface{D:Nat->Prop}{w:World}{l:A6}{v:Value}{ks:List Value}(h:Bs D w l v ks)(h1:l.kd≠31)(h2:l.kd≠32):∃t x,v=.iface t x:=by
 unfold Bs at h;rw[if_neg z4va]at h;obtain⟨b,cs,e,_⟩:=h;exact⟨_,_,e⟩
theorem Ot{kd:Nat}(h:Iv kd=true):kd≠31/\kd≠32/\kd≠21:=by
 exact z48a
def Kc(K:CC)(l:A6)(c:BT A6):Prop:=∀(D:Nat->Prop) (w:World) (outer cur:List Nm) (bl:List Nat) (wh:Nat) (inn:Bool) (f:Ct) (rc:Nat) (v:Value) (ks:List Value),
 K.St D w (outer++cur) (bl++[outer.length]) wh inn f rc->Bs D w l v ks->An D w c ks->(outer++cur).length+bsize (nd l c)<=700000->bl.length+bsize (nd l c)<=700000->wh+bsize (nd l c)<=700000->
 Calls Tryz.prog 192 #[.pointer (some ⟨K.cb,0,none⟩),v] w fun e w'=>e=.returned (.tuple #[])/\K.St D w' (outer++(Bt K.fns (nd l c) outer cur wh inn f).1) (bl++[outer.length]) wh inn (Bt K.fns (nd l c) outer cur wh inn f).2 rc/\A3 D w w'
theorem z6sa {P:Prop} (h:P:=by rw[List.length_append];omega):P:=h
theorem j5(K:CC)(c:BT A6)(hok:D6 (Kc K) c)(D:Nat->Prop)(w:World)(outer cur:List Nm)(bl:List Nat)(wh:Nat)(inn:Bool)(f:Ct)(rc:Nat)(va:Option Addr)(vn vc:Nat)(ks:List Value)
  (hst:K.St D w (outer++cur) (bl++[outer.length]) wh inn f rc) (hown:Cw D w 142 1 (.slice va vn vc) ks.length ks) (hrep:An D w c ks) (A1:(outer++cur).length+bsize c<=700000) (A8:bl.length+bsize c<=700000) (Aj:wh+bsize c<=700000) :
  Calls Tryz.prog 134 #[.pointer (some ⟨K.cb,0,none⟩),.slice va vn vc] w fun e w'=>e=.returned (.tuple #[])/\K.St D w' (outer++(Bt K.fns c outer cur wh inn f).1) (bl++[outer.length]) wh inn (Bt K.fns c outer cur wh inn f).2 rc/\A3 D w w':=by
 have hvn:vn=ks.length:=(C9 hown.1).1;subst hvn;have HSt0:=A0 hst;have HOwn:=A0 hown;have HRep:=A0 hrep;have hlen:=hrep.len;have HLen:=A0 hlen;have hls:=Nt c;have hkl:ks.length<=700000:=by omega
 rw[List.length_append]at A1;clear hst hown hrep hlen;go_enter Tryz.func134,Tryz.ntmps134;go_wp2;go_loopg [8] ks.length (fun k v wr=>∃(i:Nat) (cn:List Nm) (fl:Ct),v=.int .i64 i/\i+k=ks.length/\cn.length+bsize (Ca i c)<=cur.length+bsize c/\K.St D wr (outer++cn) (bl++[outer.length]) wh inn fl rc/\Bt K.fns (Ca i c) outer cn wh inn fl=Bt K.fns c outer cur wh inn f/\A3 D w wr)
 case atStart=>exact⟨0,cur,f,rfl,by omega,by rw[show Ca 0 c=c from by cases c <;> rfl];exact Nat.le_refl _,HSt0.o,rfl,A3.refl _ _⟩
 case round=>
  clear HSt0;obtain⟨i,cn,fl,rfl,hik,hcn,hst,hse,hbel⟩:=hrel;have HSt:=A0 hst;have HSe:=A0 hse;have HBel:=A0 hbel;clear hst hse hbel;by_cases hlt:i<ks.length
  ·have hr:=HRep.o.Bq HBel.o;obtain⟨x,y,l,cc,r,hd,v,ks',hv,hn,hrk⟩:=An.at' i c ks hr z5ga;obtain⟨g,rfl,_,hcap,lg,hcell⟩:=Fo (HOwn.o.Bq HBel.o).1 z4va;have d0:=hcell i v hv;have hE:=A0 (hok.at' i c x y l cc r hd);have Ak:=sens_xy' K.fns x y l cc r outer cn wh inn fl;have hdn:=Wj i c;have hsz:bsize (Ca i c)=bsize (nd l cc)+bsize r:=by rw[hd,Cj,bsize]
   have hcl:=A3p K.fns (nd l cc) outer cn wh inn fl;have hds:=Om i c x y l cc r hd;have HNx:Hid (Bt K.fns (Ca (i+1) c) outer (Bt K.fns (nd l cc) outer cn wh inn fl).1 wh inn (Bt K.fns (nd l cc) outer cn wh inn fl).2=Bt K.fns c outer cur wh inn f):=by
    show _=_;rw[hds,←HSe.o,hd,Ak]
   have HDs:=A0 hds;have HC:=A0 (hE.out D wr outer cn bl wh inn fl rc v ks' HSt.o hn hrk z6sa z4va z4va);clear hr hd hv hn hrk hcell Ak hds;go_wp2_with fail
   refine HC.o.mono ?_;rintro e w1 ⟨rfl,Ak,A1⟩;have A7:=A0 Ak;have A4:Hid (A3 D w w1):=HBel.o.trans A1;clear Ak A1;go_wp2;go_roundg (gk-1)
   case measure=>omega
   case rel=>exact⟨i+1,_,_,rfl,by omega,by rw[HDs.o];omega,A7.o,HNx.o,A4.o⟩
  ·have HE:Hid ((cn,fl)=Bt K.fns c outer cur wh inn f):=by
    exact z0qa
   exact z2va
theorem Rw(K:CC)(c:BT A6)(hok:D6 (Kc K) c)(D:Nat->Prop)(w:World)(ns:List Nm)(bk:List Nat)(wh:Nat)(inn:Bool)(f:Ct)(rc:Nat)(va:Option Addr)(vn vc:Nat)(ks:List Value)
  (hst:K.St D w ns bk wh inn f rc) (hown:Cw D w 142 1 (.slice va vn vc) ks.length ks) (hrep:An D w c ks) (A1:ns.length+bsize c<=700000) (A8:bk.length+bsize c<=700000) (Aj:wh+bsize c<=700000) :
  Calls Tryz.prog 80 #[.pointer (some ⟨K.cb,0,none⟩),.slice va vn vc] w fun e w'=>e=.returned (.tuple #[])/\K.St D w' ns bk wh inn (Bt K.fns c ns [] wh inn f).2 rc/\A3 D w w':=by
 have HO:=A0 (U1 hst.st z4va);have HSt:=A0 hst;have HRun:=A0 (fun(W:World) (hs:K.St D W (ns++[]) (bk++[ns.length]) wh inn f rc) (hbd:A3 D w W)=>j5 K c hok D W ns [] bk wh inn f rc va vn vc ks hs (hown.Bq hbd) (hrep.Bq hbd) (by simpa using A1) A8 Aj);clear hst hown hrep;go_enter Tryz.func80,Tryz.ntmps80;go_wp2_with fail
 refine HO.o.mono ?_;rintro e w1 ⟨rfl,Ak,A1⟩;have A7:=A0 (HSt.o.next Ak A1);have A4:=A0 A1;clear Ak A1;go_wp2_with fail
 refine(HRun.o _ (by rw[List.append_nil];exact A7.o) A4.o).mono ?_;rintro e w2 ⟨rfl,B0,A8⟩;have Ai:=A0 B0;have Aa:Hid (A3 D w w2):=A4.o.trans A8;clear B0 A8;go_wp2_with fail
 refine(Ty Ai.o.st z50a).mono ?_;rintro e w3 ⟨rfl,C6,Aj⟩;rw[List.take_left]at C6;have Bc:=A0 (Ai.o.next C6 Aj);have Av:Hid (A3 D w w3):=Aa.o.trans Aj;exact z3aa
theorem z4ta {P:Prop} (h:P:=by
  have Er:=A0 Ff;have Cn:Hid (A3 D w w4):=Av.o.trans B8;clear Ff B8;exact z39a):P:=h
theorem z4ra {P:Prop} (h:P:=by
  exact⟨rfl,Bc.o,Av.o⟩):P:=h
theorem Aah(K:CC)(l:A6)(c:BT A6)(ih:D6 (Fw K) c)(hwf:Wf 0 c)(D:Nat->Prop)(w:World)(outer cur:List Nm)(bk:List Nat)(wh:Nat)(inn:Bool)(f:Ct)(rc:Nat)(b:Nat)(a:Value)(ks:List Value)
  (hst:K.St D w (outer++cur) bk wh inn f rc) (hD:D b) (hblk:w.heap[b]?=some (.cells #[.int .i64 (l.line:Nat),a] 318 (0,0))) (hks:(ks=[]/\a=.nilIface)\/ks=[a]) (hrep:An D w c ks) :
  Calls Tryz.prog 239 #[.pointer (some ⟨K.cb,0,none⟩),.pointer (some ⟨b,0,none⟩)] w fun e w'=>e=.returned (.tuple #[])/\K.St D w' (outer++cur) bk wh inn (Bt K.fns c outer cur wh inn (Ed (!inn) 4 l.line f)).2 rc/\A3 D w w':=by
 obtain⟨hlo,lcb,hncb⟩:=hst.lo;have HSt:=A0 hst;have HBlk:=A0 hblk;obtain⟨na,nn,nc,ba,bn,bc,la,ln,lc,ls,hv⟩:=hst.st;obtain⟨c0,c1,c2,c3,c4,c5,c6,c7,fz,lb⟩:=Nu hv.cell;have d0:=A2 hblk 0 _ rfl;have d1:=A2 hblk 1 _ rfl;have ld:=A5 hblk;clear hst hblk hv c0 c1 c2 c3 c4 c6 c7 fz;rcases hks with⟨rfl,rfl⟩|rfl
 ·rw[hrep.nil',Bt];clear hrep;cases inn
  ·go_enter Tryz.func239,Tryz.ntmps239;go_wp2_with fail
   refine(Ol HSt.o.st 4 l.line).mono ?_;rintro e w3 ⟨rfl,C6,Aj⟩;have Bc:=A0 (HSt.o.next C6 Aj);have Av:=A0 Aj;have Ej:=(Aj.block b hD).trans HBlk.o;clear C6 Aj d0 d1 ld c5;have d1:=A2 Ej 1 _ rfl;have ld:=A5 Ej;clear Ej;go_wp2;go_end0;exact z4ra
  ·rw[show(!true)=false from rfl,Qa];go_enter Tryz.func239,Tryz.ntmps239;exact z4ea
 ·obtain⟨x1,y1,l1,c1,r1,Dd,rfl,Bl,At,hz⟩:=hrep.cons';obtain rfl:=hz.nil';rw[Jy];have hif:∃t x,a=.iface t x:=Bl.isIface (Ot hwf.exs.1).1 (Ot hwf.exs.1).2.1;obtain⟨t,x,rfl⟩:=hif;have HC:=A0 (fun W g (hs:K.St D W (outer++cur) bk wh inn g rc) (hbd:A3 D w W)=>ih.1 D W outer cur bk wh inn g rc (.iface t x) Dd hs (Bl.Bq hbd) (At.Bq hbd));clear hrep Bl At hz ih hwf;cases inn
  ·go_enter Tryz.func239,Tryz.ntmps239;go_wp2_with fail
   refine(Ol HSt.o.st 4 l.line).mono ?_;rintro e w3 ⟨rfl,C6,Aj⟩;have Bc:=A0 (HSt.o.next C6 Aj);have Av:=A0 Aj;have Ej:=(Aj.block b hD).trans HBlk.o;clear C6 Aj d0 d1 ld c5;have d1:=A2 Ej 1 _ rfl;have ld:=A5 Ej;clear Ej;go_wp2_with fail
   refine(HC.o _ _ Bc.o Av.o).mono ?_;rintro e w4 ⟨rfl,Ff,B8⟩;exact z4ta
  ·rw[show(!true)=false from rfl,Qa];go_enter Tryz.func239,Tryz.ntmps239;go_wp2_with fail
   refine(HC.o _ _ HSt.o (A3.refl _ _)).mono ?_;rintro e w4 ⟨rfl,Ff,B8⟩;have Er:=A0 Ff;have Cn:=A0 B8;clear Ff B8;exact z39a
theorem z1ha {P:Prop} (h:P:=by
  unfold Cc;go_enter Tryz.func192,Tryz.ntmps192;go_wp2_with fail
  refine(HC.o).mono ?_;rintro e w1 ⟨rfl,Ak,A1⟩;have A7:=A0 Ak;have A4:Hid (A3 D w w1):=A1;clear Ak A1 ;go_wp2;go_end0;exact⟨rfl,A7.o,A4.o⟩):P:=h
theorem Ab1(K:CC)(l:A6)(c:BT A6)(hk:l.kd=27)(ih:D6 (Fw K) c)(hwf:Wf 0 c):Kc K l c:=by
 intro D w outer cur bl wh inn f rc v ks hst hn hr By C5 Fz;obtain⟨hlo,lcb,hncb⟩:=hst.lo;unfold Bs at hn;rw[if_neg z4va]at hn;obtain⟨b,cs,rfl,hD,hb,hl⟩:=hn;have e1:Cg l.kd=265:=by rw[hk];rfl
 have e2:Dk l.kd=267:=by rw[hk];rfl
 rw[e1];rw[e2]at hb;unfold Cv at hl;simp only[hk]at hl;obtain⟨a,rfl,rfl⟩:=hl;have hnd:=Iz K.fns l c z4va z4va z4va outer cur wh inn f;rw[Ks z4va]at hnd;rw[hnd,Ku K.fns c hwf];obtain⟨x1,y1,l1,c1,r1,Dd,rfl,Bl,At,hz⟩:=hr.cons';obtain rfl:=hz.nil';rw[Jy];have HC:=A0 (ih.1 D w outer cur _ wh inn f rc a Dd hst Bl At);have d0:=A2 hb 1 a rfl;have ld:=A5 hb;have Dg:=fun(v:Value) (w:World)=>Bg (P:=Tryz.prog) (t:=265) (T:=143) (xT:=142) (z:=.pointer none) Tryz.underlying143 (by kernel_rfl) z4wa v w;have Dz:=fun(v:Value) (w:World)=>Bg (P:=Tryz.prog) (t:=265) (T:=145) (xT:=142) (z:=.pointer none) Tryz.underlying145 (by kernel_rfl) z4wa v w;have Ep:=fun(v:Value) (w:World)=>Bg (P:=Tryz.prog) (t:=265) (T:=253) (xT:=142) (z:=.pointer none) Tryz.underlying253 (by kernel_rfl) z4wa v w;have Fh:=fun(v:Value) (w:World)=>Bg (P:=Tryz.prog) (t:=265) (T:=255) (xT:=142) (z:=.pointer none) Tryz.underlying255 (by kernel_rfl) z4wa v w;have G8:=fun(v:Value) (w:World)=>Bg (P:=Tryz.prog) (t:=265) (T:=257) (xT:=142) (z:=.pointer none) Tryz.underlying257 (by kernel_rfl) z4wa v w;have I1:=fun(v:Value) (w:World)=>Bg (P:=Tryz.prog) (t:=265) (T:=259) (xT:=142) (z:=.pointer none) Tryz.underlying259 (by kernel_rfl) z4wa v w;have J6:=fun(v:Value) (w:World)=>Bg (P:=Tryz.prog) (t:=265) (T:=264) (xT:=142) (z:=.pointer none) Tryz.underlying264 (by kernel_rfl) z4wa v w;have ta7:=fun(v:Value) (w:World)=>E3 (P:=Tryz.prog) (xT:=142) Tryz.underlying265 v w;clear hst hb e1 e2 hk hr Bl At hz ih hwf hnd By C5 Fz;exact z1ha
theorem Aax(K:CC)(l:A6)(c:BT A6)(hk:l.kd=30)(ih:D6 (Fw K) c)(hwf:Wf 0 c):Kc K l c:=by
 intro D w outer cur bl wh inn f rc v ks hst hn hr By C5 Fz;obtain⟨hlo,lcb,hncb⟩:=hst.lo;unfold Bs at hn;rw[if_neg z4va]at hn;obtain⟨b,cs,rfl,hD,hb,hl⟩:=hn;have e1:Cg l.kd=270:=by rw[hk];rfl
 have e2:Dk l.kd=272:=by rw[hk];rfl
 rw[e1];rw[e2]at hb;unfold Cv at hl;simp only[hk]at hl;obtain⟨a,rfl,rfl⟩:=hl;have hnd:=Iz K.fns l c z4va z4va z4va outer cur wh inn f;rw[Ks z4va]at hnd;rw[hnd,Ku K.fns c hwf];obtain⟨x1,y1,l1,c1,r1,Dd,rfl,Bl,At,hz⟩:=hr.cons';obtain rfl:=hz.nil';rw[Jy];have HC:=A0 (ih.1 D w outer cur _ wh inn f rc a Dd hst Bl At);have d0:=A2 hb 0 a rfl;have ld:=A5 hb;have Dg:=fun(v:Value) (w:World)=>Bg (P:=Tryz.prog) (t:=270) (T:=143) (xT:=142) (z:=.pointer none) Tryz.underlying143 (by kernel_rfl) z4wa v w;have Dz:=fun(v:Value) (w:World)=>Bg (P:=Tryz.prog) (t:=270) (T:=145) (xT:=142) (z:=.pointer none) Tryz.underlying145 (by kernel_rfl) z4wa v w;have Ep:=fun(v:Value) (w:World)=>Bg (P:=Tryz.prog) (t:=270) (T:=253) (xT:=142) (z:=.pointer none) Tryz.underlying253 (by kernel_rfl) z4wa v w;have Fh:=fun(v:Value) (w:World)=>Bg (P:=Tryz.prog) (t:=270) (T:=255) (xT:=142) (z:=.pointer none) Tryz.underlying255 (by kernel_rfl) z4wa v w;have G8:=fun(v:Value) (w:World)=>Bg (P:=Tryz.prog) (t:=270) (T:=257) (xT:=142) (z:=.pointer none) Tryz.underlying257 (by kernel_rfl) z4wa v w;have I1:=fun(v:Value) (w:World)=>Bg (P:=Tryz.prog) (t:=270) (T:=259) (xT:=142) (z:=.pointer none) Tryz.underlying259 (by kernel_rfl) z4wa v w;have J6:=fun(v:Value) (w:World)=>Bg (P:=Tryz.prog) (t:=270) (T:=264) (xT:=142) (z:=.pointer none) Tryz.underlying264 (by kernel_rfl) z4wa v w;have ta7:=fun(v:Value) (w:World)=>Bg (P:=Tryz.prog) (t:=270) (T:=265) (xT:=142) (z:=.pointer none) Tryz.underlying265 (by kernel_rfl) z4wa v w;have ta8:=fun(v:Value) (w:World)=>Bg (P:=Tryz.prog) (t:=270) (T:=268) (xT:=142) (z:=.pointer none) Tryz.underlying268 (by kernel_rfl) z4wa v w;have ta9:=fun(v:Value) (w:World)=>E3 (P:=Tryz.prog) (xT:=142) Tryz.underlying270 v w;clear hst hb e1 e2 hk hr Bl At hz ih hwf hnd By C5 Fz;exact z1ha
theorem z1ta {P:Prop} (h:P:=by
  clear hst hb e1 e2 hk hr hnd By C5 Fz hp;unfold Cc;go_enter Tryz.func192,Tryz.ntmps192;go_wp2_with fail
  refine HC.o.mono ?_;rintro e w1 ⟨rfl,Ak,A1⟩;have A7:=A0 (HSt.o.next Ak A1);have A4:=A0 A1;clear Ak A1;go_wp2;go_end0;exact⟨rfl,A7.o,A4.o⟩):P:=h
theorem Aav(K:CC)(l:A6)(c:BT A6)(hk:l.kd=25):Kc K l c:=by
 intro D w outer cur bl wh inn f rc v ks hst hn hr By C5 Fz;obtain⟨hlo,lcb,hncb⟩:=hst.lo;unfold Bs at hn;rw[if_neg z4va]at hn;obtain⟨b,cs,rfl,hD,hb,hl⟩:=hn;have e1:Cg l.kd=259:=by rw[hk];rfl
 have e2:Dk l.kd=367:=by rw[hk];rfl
 rw[e1];rw[e2]at hb;unfold Cv at hl;simp only[hk]at hl;obtain⟨rfl,rfl⟩:=hl;have hnd:=Iz K.fns l c z4va z4va z4va outer cur wh inn f;have hp:Kr K.fns l (Ax c) outer cur wh inn f=Ed (wh==0) 4 l.line f:=by unfold Kr;rw[if_neg z4va,if_neg z4va,if_pos z4va]
 rw[hp]at hnd;rw[hnd,hr.nil',Bt];have HC:=A0 (b5 hst.st l.line);have HSt:=A0 hst;have d0:w.cell? ⟨b,0,none⟩=some (.int .i64 (l.line:Nat)):=A2 hb 0 _ rfl;have ld:=A5 hb;have Dg:=fun(v:Value) (w:World)=>Bg (P:=Tryz.prog) (t:=259) (T:=143) (xT:=142) (z:=.pointer none) Tryz.underlying143 (by kernel_rfl) z4wa v w;have Dz:=fun(v:Value) (w:World)=>Bg (P:=Tryz.prog) (t:=259) (T:=145) (xT:=142) (z:=.pointer none) Tryz.underlying145 (by kernel_rfl) z4wa v w;have Ep:=fun(v:Value) (w:World)=>Bg (P:=Tryz.prog) (t:=259) (T:=253) (xT:=142) (z:=.pointer none) Tryz.underlying253 (by kernel_rfl) z4wa v w;have Fh:=fun(v:Value) (w:World)=>Bg (P:=Tryz.prog) (t:=259) (T:=255) (xT:=142) (z:=.pointer none) Tryz.underlying255 (by kernel_rfl) z4wa v w;have G8:=fun(v:Value) (w:World)=>Bg (P:=Tryz.prog) (t:=259) (T:=257) (xT:=142) (z:=.pointer none) Tryz.underlying257 (by kernel_rfl) z4wa v w;have I1:=fun(v:Value) (w:World)=>E3 (P:=Tryz.prog) (xT:=142) Tryz.underlying259 v w;exact z1ta
theorem Aaw(K:CC)(l:A6)(c:BT A6)(hk:l.kd=26):Kc K l c:=by
 intro D w outer cur bl wh inn f rc v ks hst hn hr By C5 Fz;obtain⟨hlo,lcb,hncb⟩:=hst.lo;unfold Bs at hn;rw[if_neg z4va]at hn;obtain⟨b,cs,rfl,hD,hb,hl⟩:=hn;have e1:Cg l.kd=264:=by rw[hk];rfl
 have e2:Dk l.kd=368:=by rw[hk];rfl
 rw[e1];rw[e2]at hb;unfold Cv at hl;simp only[hk]at hl;obtain⟨rfl,rfl⟩:=hl;have hnd:=Iz K.fns l c z4va z4va z4va outer cur wh inn f;have hp:Kr K.fns l (Ax c) outer cur wh inn f=Ed (wh==0) 4 l.line f:=by unfold Kr;rw[if_neg z4va,if_neg z4va,if_pos z4va]
 rw[hp]at hnd;rw[hnd,hr.nil',Bt];have HC:=A0 (b5 hst.st l.line);have HSt:=A0 hst;have d0:w.cell? ⟨b,0,none⟩=some (.int .i64 (l.line:Nat)):=A2 hb 0 _ rfl;have ld:=A5 hb;have Dg:=fun(v:Value) (w:World)=>Bg (P:=Tryz.prog) (t:=264) (T:=143) (xT:=142) (z:=.pointer none) Tryz.underlying143 (by kernel_rfl) z4wa v w;have Dz:=fun(v:Value) (w:World)=>Bg (P:=Tryz.prog) (t:=264) (T:=145) (xT:=142) (z:=.pointer none) Tryz.underlying145 (by kernel_rfl) z4wa v w;have Ep:=fun(v:Value) (w:World)=>Bg (P:=Tryz.prog) (t:=264) (T:=253) (xT:=142) (z:=.pointer none) Tryz.underlying253 (by kernel_rfl) z4wa v w;have Fh:=fun(v:Value) (w:World)=>Bg (P:=Tryz.prog) (t:=264) (T:=255) (xT:=142) (z:=.pointer none) Tryz.underlying255 (by kernel_rfl) z4wa v w;have G8:=fun(v:Value) (w:World)=>Bg (P:=Tryz.prog) (t:=264) (T:=257) (xT:=142) (z:=.pointer none) Tryz.underlying257 (by kernel_rfl) z4wa v w;have I1:=fun(v:Value) (w:World)=>Bg (P:=Tryz.prog) (t:=264) (T:=259) (xT:=142) (z:=.pointer none) Tryz.underlying259 (by kernel_rfl) z4wa v w;have J6:=fun(v:Value) (w:World)=>E3 (P:=Tryz.prog) (xT:=142) Tryz.underlying264 v w;exact z1ta
theorem Ab3(K:CC)(l:A6)(c:BT A6)(hk:l.kd=24)(ih:D6 (Fw K) c)(hwf:Wf 0 c):Kc K l c:=by
 intro D w outer cur bl wh inn f rc v ks hst hn hr By C5 Fz;obtain⟨hlo,lcb,hncb⟩:=hst.lo;unfold Bs at hn;rw[if_neg z4va]at hn;obtain⟨b,cs,rfl,hD,hb,hl⟩:=hn;have e1:Cg l.kd=257:=by rw[hk];rfl
 have e2:Dk l.kd=318:=by rw[hk];rfl
 rw[e1];rw[e2]at hb;unfold Cv at hl;simp only[hk]at hl;obtain⟨a,rfl,hks⟩:=hl;have hnd:=Iz K.fns l c z4va z4va z4va outer cur wh inn f;have hp:Kr K.fns l (Ax c) outer cur wh inn f=Ed (!inn) 4 l.line f:=by unfold Kr;rw[if_neg z4va,if_neg z4va,if_neg z4va,if_pos z4va]
 rw[hp]at hnd;rw[hnd,Ku K.fns c hwf];have HC:=A0 (Aah K l c ih hwf D w outer cur _ wh inn f rc b a ks hst hD hb hks hr);have ld:=A5 hb;have Dg:=fun(v:Value) (w:World)=>Bg (P:=Tryz.prog) (t:=257) (T:=143) (xT:=142) (z:=.pointer none) Tryz.underlying143 (by kernel_rfl) z4wa v w;have Dz:=fun(v:Value) (w:World)=>Bg (P:=Tryz.prog) (t:=257) (T:=145) (xT:=142) (z:=.pointer none) Tryz.underlying145 (by kernel_rfl) z4wa v w;have Ep:=fun(v:Value) (w:World)=>Bg (P:=Tryz.prog) (t:=257) (T:=253) (xT:=142) (z:=.pointer none) Tryz.underlying253 (by kernel_rfl) z4wa v w;have Fh:=fun(v:Value) (w:World)=>Bg (P:=Tryz.prog) (t:=257) (T:=255) (xT:=142) (z:=.pointer none) Tryz.underlying255 (by kernel_rfl) z4wa v w;have G8:=fun(v:Value) (w:World)=>E3 (P:=Tryz.prog) (xT:=142) Tryz.underlying257 v w;clear hst hb e1 e2 hk hr hnd By C5 Fz hp ih hwf hks;exact z1ha
theorem Ab0(K:CC)(l:A6)(c:BT A6)(hk:l.kd=21)(ih:D6 (Fw K) c)(hwf:Wf 0 c):Kc K l c:=by
 intro D w outer cur bl wh inn f rc v ks hst hn hr By C5 Fz;obtain⟨hlo,lcb,hncb⟩:=hst.lo;unfold Bs at hn;rw[if_neg z4va]at hn;obtain⟨b,cs,rfl,hD,hb,hl⟩:=hn;have e1:Cg l.kd=145:=by rw[hk];rfl
 have e2:Dk l.kd=152:=by rw[hk];rfl
 rw[e1];rw[e2]at hb;unfold Cv at hl;simp only[hk]at hl;obtain⟨a,rfl,rfl⟩:=hl;have hnd:Bt K.fns (nd l c) outer cur wh inn f=((Bt K.fns c outer cur wh inn (Ed (decide (l.s∈cur)) 3 l.line f)).1++[l.s],(Bt K.fns c outer cur wh inn (Ed (decide (l.s∈cur)) 3 l.line f)).2):=by
  rw[nd,Bt,if_neg z4va,if_neg z4va,if_pos hk,Bt]
 rw[hnd,Ku K.fns c hwf];obtain⟨x1,y1,l1,c1,r1,Dd,rfl,Bl,At,hz⟩:=hr.cons';obtain rfl:=hz.nil';rw[Jy];have HF:=A0 (Wa hst.st l.line l.s);have HSt:=A0 hst;have HC:=A0 (fun W g (hs:K.St D W (outer++cur) (bl++[outer.length]) wh inn g rc) (hbd:A3 D w W)=>ih.1 D W outer cur _ wh inn g rc a Dd hs (Bl.Bq hbd) (At.Bq hbd));have d0:w.cell? ⟨b,0,none⟩=some (.int .i64 (l.line:Nat)):=A2 hb 0 _ rfl;have d1:w.cell? ⟨b,1,none⟩=some (.string ⟨l.s.toArray⟩):=A2 hb 1 _ rfl;have d2:=A2 hb 2 a rfl;have ld:=A5 hb;have HBk:=A0 hb;have hnl:(outer++cur).length+1<=700000:=by have:=Cj l (.node x1 y1 l1 c1 .nil);omega
 have Dg:=fun(v:Value) (w:World)=>Bg (P:=Tryz.prog) (t:=145) (T:=143) (xT:=142) (z:=.pointer none) Tryz.underlying143 (by kernel_rfl) z4wa v w;have Dz:=fun(v:Value) (w:World)=>E3 (P:=Tryz.prog) (xT:=142) Tryz.underlying145 v w;clear hst hb e1 e2 hk hr Bl At hz ih hwf hnd By C5 Fz;unfold Cc;go_enter Tryz.func192,Tryz.ntmps192;go_wp2_with fail
 refine HF.o.mono ?_;rintro e w1 ⟨rfl,Ak,A1⟩;have A7:=A0 (HSt.o.next Ak A1);have A4:=A0 A1;have Bp:=(A1.block b hD).trans HBk.o;clear Ak A1 d0 d1 d2 ld;have d2:=A2 Bp 2 a rfl;have ld:=A5 Bp;clear Bp;go_wp2_with fail
 refine(HC.o _ _ A7.o A4.o).mono ?_;rintro e w2 ⟨rfl,B0,A8⟩;have Ai:=A0 B0;have Aa:Hid (A3 D w w2):=A4.o.trans A8;clear B0 A8 ;have Dc:=(Aa.o.block b hD).trans HBk.o;clear d2 ld;have d1:w2.cell? ⟨b,1,none⟩=some (.string ⟨l.s.toArray⟩):=A2 Dc 1 _ rfl;have ld:=A5 Dc;obtain⟨na,nn,nc,ba,bn,bc,la,ln,lc,ls,hv⟩:=Ai.o.st;have lcb2:=A5 hv.cell;have HV:=A0 (hv.keep (w':=w2.drew) (fun _ _=>rfl) (Nat.le_refl _));have HP:=A0 (V2 HV.o.Ls (by rw[P0];omega) ⟨l.s.toArray⟩ z50a);clear Dc hv;go_wp2;go_region_law (refine Eo rfl 137 _ _ rfl #[.pointer (some ⟨K.cb,2,none⟩),.string ⟨l.s.toArray⟩] (by kernel_rfl) HP.o ?_;rintro e w3 ⟨rfl,hp3⟩;refine⟨_,rfl,?_⟩)
 all_goals go_wp2
 all_goals go_end0
 all_goals obtain⟨k1,k2⟩:=HV.o.Y3 l.s z4va hp3
 all_goals rw[List.append_assoc]at k1
 all_goals have k3:A3 D w2 w3:=⟨k2.os,k2.tape,k2.output,k2.size,k2.block⟩
 all_goals exact⟨rfl,Ai.o.next k1 k3,Aa.o.trans k3⟩
theorem z1ga {P:Prop} (h:P:=by
  unfold Cc;go_enter Tryz.func192,Tryz.ntmps192;go_wp2_with fail
  refine(HC.o).mono ?_;rintro e w1 ⟨rfl,Ak,A1⟩;have A7:=A0 Ak;have A4:Hid (A3 D w w1):=A1;clear Ak A1 d0 ld;have Bp:=(A4.o.block b hD).trans HBk.o;have d1:=A2 Bp 1 _ rfl;have ld:=A5 Bp;clear Bp;go_wp2_with fail
  refine(Ev.o _ _ A7.o A4.o).mono ?_;rintro e w2 ⟨rfl,B0,A8⟩;have Ai:=A0 B0;have Aa:Hid (A3 D w w2):=A4.o.trans A8;clear B0 A8 ;go_wp2;go_end0;exact⟨rfl,Ai.o,Aa.o⟩):P:=h
theorem Ab4(K:CC)(l:A6)(c:BT A6)(hk:l.kd=28)(ih:D6 (Fw K) c)(hwf:Wf 0 c):Kc K l c:=by
 intro D w outer cur bl wh inn f rc v ks hst hn hr By C5 Fz;obtain⟨hlo,lcb,hncb⟩:=hst.lo;unfold Bs at hn;rw[if_neg z4va]at hn;obtain⟨b,cs,rfl,hD,hb,hl⟩:=hn;have e1:Cg l.kd=268:=by rw[hk];rfl
 have e2:Dk l.kd=322:=by rw[hk];rfl
 rw[e1];rw[e2]at hb;unfold Cv at hl;simp only[hk]at hl;obtain⟨b2,a,rfl,J1,A8,rfl⟩:=hl;have hnd:=Iz K.fns l c z4va z4va z4va outer cur wh inn f;have hp:Kr K.fns l (Ax c) outer cur wh inn f=(Bt K.fns (nd ⟨6,l.line,l.s,0,[]⟩ .nil) outer cur wh inn f).2:=by
  rw[Iz K.fns _ _ z50a z50a z50a,Bt];unfold Kr;rw[if_pos z4va,if_pos z50a]
 rw[hp]at hnd;rw[hnd,Ku K.fns c hwf];obtain⟨x1,y1,l1,c1,r1,Dd,rfl,Bl,At,hz⟩:=hr.cons';obtain rfl:=hz.nil';rw[Jy];have hv6:Bs D w ⟨6,l.line,l.s,0,[]⟩ (.iface 238 (Cc b2)) []:=Bs.new (l:=⟨6,l.line,l.s,0,[]⟩) z50a J1 A8 ⟨rfl,rfl⟩;have HC:=A0 (Zx K ⟨6,l.line,l.s,0,[]⟩ .nil rfl D w outer cur _ wh inn f rc _ [] hst hv6 rfl);have Ev:=A0 (fun W g (hs:K.St D W (outer++cur) (bl++[outer.length]) wh inn g rc) (hbd:A3 D w W)=>ih.1 D W outer cur _ wh inn g rc a Dd hs (Bl.Bq hbd) (At.Bq hbd));have d0:=A2 hb 0 _ rfl;have ld:=A5 hb;have HBk:=A0 hb;have Dg:=fun(v:Value) (w:World)=>Bg (P:=Tryz.prog) (t:=268) (T:=143) (xT:=142) (z:=.pointer none) Tryz.underlying143 (by kernel_rfl) z4wa v w;have Dz:=fun(v:Value) (w:World)=>Bg (P:=Tryz.prog) (t:=268) (T:=145) (xT:=142) (z:=.pointer none) Tryz.underlying145 (by kernel_rfl) z4wa v w;have Ep:=fun(v:Value) (w:World)=>Bg (P:=Tryz.prog) (t:=268) (T:=253) (xT:=142) (z:=.pointer none) Tryz.underlying253 (by kernel_rfl) z4wa v w;have Fh:=fun(v:Value) (w:World)=>Bg (P:=Tryz.prog) (t:=268) (T:=255) (xT:=142) (z:=.pointer none) Tryz.underlying255 (by kernel_rfl) z4wa v w;have G8:=fun(v:Value) (w:World)=>Bg (P:=Tryz.prog) (t:=268) (T:=257) (xT:=142) (z:=.pointer none) Tryz.underlying257 (by kernel_rfl) z4wa v w;have I1:=fun(v:Value) (w:World)=>Bg (P:=Tryz.prog) (t:=268) (T:=259) (xT:=142) (z:=.pointer none) Tryz.underlying259 (by kernel_rfl) z4wa v w;have J6:=fun(v:Value) (w:World)=>Bg (P:=Tryz.prog) (t:=268) (T:=264) (xT:=142) (z:=.pointer none) Tryz.underlying264 (by kernel_rfl) z4wa v w;have ta7:=fun(v:Value) (w:World)=>Bg (P:=Tryz.prog) (t:=268) (T:=265) (xT:=142) (z:=.pointer none) Tryz.underlying265 (by kernel_rfl) z4wa v w;have ta8:=fun(v:Value) (w:World)=>E3 (P:=Tryz.prog) (xT:=142) Tryz.underlying268 v w;clear hst hb e1 e2 hk hr Bl At hz ih hwf hnd By C5 Fz hp hv6 A8;exact z1ga
theorem Ab2(K:CC)(l:A6)(c:BT A6)(hk:l.kd=29)(ih:D6 (Fw K) c)(hwf:Wf 0 c):Kc K l c:=by
 intro D w outer cur bl wh inn f rc v ks hst hn hr By C5 Fz;obtain⟨hlo,lcb,hncb⟩:=hst.lo;unfold Bs at hn;rw[if_neg z4va]at hn;obtain⟨b,cs,rfl,hD,hb,hl⟩:=hn;have e1:Cg l.kd=268:=by rw[hk];rfl
 have e2:Dk l.kd=322:=by rw[hk];rfl
 rw[e1];rw[e2]at hb;unfold Cv at hl;simp only[hk]at hl;obtain⟨b2,o,p,a,rfl,J1,A8,rfl⟩:=hl;have hnd:=Iz K.fns l c z4va z4va z4va outer cur wh inn f;rw[Ks z4va]at hnd;rw[hnd,Ku K.fns c hwf];obtain⟨x1,y1,l1,c1,r1,Dd,rfl,Bl,At,hz⟩:=hr.cons';obtain⟨x2,y2,l2,c2,r2,Gl,rfl,Di,B5,hzz⟩:=hz.cons';obtain⟨x3,y3,l3,c3,r3,ks3,rfl,hn3,Ce,hzzz⟩:=hzz.cons';obtain rfl:=hzzz.nil';have hw12:Wf 0 (.node x1 y1 l1 c1 (.node x2 y2 l2 c2 .nil)):=⟨⟨trivial,hwf.1.2⟩,hwf.2⟩;have h12:Bt K.fns (.node x1 y1 l1 c1 (.node x2 y2 l2 c2 (.node x3 y3 l3 c3 .nil))) outer cur wh inn f=Bt K.fns (nd l3 c3) outer cur wh inn (Bt K.fns (nd (B7 12 l.line) (.node x1 y1 l1 c1 (.node x2 y2 l2 c2 .nil))) outer cur wh inn f).2:=by
  rw[Iz K.fns (B7 12 l.line) _ z5aa z5aa z5aa,Ks z5aa];rw[sens_xy' K.fns x1,sens_xy' K.fns x2,Jy];rw[sens_xy' K.fns x1 y1 l1 c1 (.node x2 y2 l2 c2 .nil),Jy];rw[Ku K.fns (nd l1 c1) hwf.Qw,Ku K.fns (nd l2 c2) hwf.1.Qw]
 rw[h12];have hv12:Bs D w (B7 12 l.line) (.iface 310 (Cc b2)) [o,p]:=Bs.new (l:=B7 12 l.line) z5aa J1 A8 ⟨o,p,rfl,rfl⟩;have HC:=A0 (Zw K (B7 12 l.line) (.node x1 y1 l1 c1 (.node x2 y2 l2 c2 .nil)) rfl ⟨ih.1,ih.2.1,trivial⟩ hw12 D w outer cur _ wh inn f rc _ [o,p] hst hv12 ⟨o,Dd,[p],rfl,Bl,At,⟨p,Gl,[],rfl,Di,B5,rfl⟩⟩);have Ev:=A0 (fun W g (hs:K.St D W (outer++cur) (bl++[outer.length]) wh inn g rc) (hbd:A3 D w W)=>ih.2.2.1 D W outer cur _ wh inn g rc a ks3 hs (hn3.Bq hbd) (Ce.Bq hbd));have d0:=A2 hb 0 _ rfl;have ld:=A5 hb;have HBk:=A0 hb;have Dg:=fun(v:Value) (w:World)=>Bg (P:=Tryz.prog) (t:=268) (T:=143) (xT:=142) (z:=.pointer none) Tryz.underlying143 (by kernel_rfl) z4wa v w;have Dz:=fun(v:Value) (w:World)=>Bg (P:=Tryz.prog) (t:=268) (T:=145) (xT:=142) (z:=.pointer none) Tryz.underlying145 (by kernel_rfl) z4wa v w;have Ep:=fun(v:Value) (w:World)=>Bg (P:=Tryz.prog) (t:=268) (T:=253) (xT:=142) (z:=.pointer none) Tryz.underlying253 (by kernel_rfl) z4wa v w;have Fh:=fun(v:Value) (w:World)=>Bg (P:=Tryz.prog) (t:=268) (T:=255) (xT:=142) (z:=.pointer none) Tryz.underlying255 (by kernel_rfl) z4wa v w;have G8:=fun(v:Value) (w:World)=>Bg (P:=Tryz.prog) (t:=268) (T:=257) (xT:=142) (z:=.pointer none) Tryz.underlying257 (by kernel_rfl) z4wa v w;have I1:=fun(v:Value) (w:World)=>Bg (P:=Tryz.prog) (t:=268) (T:=259) (xT:=142) (z:=.pointer none) Tryz.underlying259 (by kernel_rfl) z4wa v w;have J6:=fun(v:Value) (w:World)=>Bg (P:=Tryz.prog) (t:=268) (T:=264) (xT:=142) (z:=.pointer none) Tryz.underlying264 (by kernel_rfl) z4wa v w;have ta7:=fun(v:Value) (w:World)=>Bg (P:=Tryz.prog) (t:=268) (T:=265) (xT:=142) (z:=.pointer none) Tryz.underlying265 (by kernel_rfl) z4wa v w;have ta8:=fun(v:Value) (w:World)=>E3 (P:=Tryz.prog) (xT:=142) Tryz.underlying268 v w;clear hst hb e1 e2 hk hr Bl At hz ih hwf hnd By C5 Fz hv12 A8 h12 hw12 Di B5 hzz hn3 Ce hzzz;exact z1ga
def Part(K:CC)(l:A6)(c:BT A6):Prop:=(Iv l.kd=true->Fw K l c)/\((l.kd=31\/l.kd=32)->D6 (Kc K) c)
theorem Yb(fns:List (Nm×Nat)){l:A6}(c:BT A6)(h:l.kd=31)(outer cur:List Nm)(wh:Nat)(inn:Bool)(f:Ct):Bt fns (nd l c) outer cur wh inn f=(cur,(Bt fns c (outer++cur) [] wh inn f).2):=by
 rw[nd,Bt,if_pos h,Bt]
theorem Akq(fns:List (Nm×Nat)){l:A6}(c:BT A6)(h:l.kd=32)(outer cur:List Nm)(wh:Nat)(inn:Bool)(f:Ct):Bt fns (nd l c) outer cur wh inn f=(cur,(Bt fns c (outer++cur) [] (wh+1) inn f).2):=by
 rw[nd,Bt,if_neg z4va,if_pos h,Bt]
theorem Bs.Qv{D:Nat->Prop}{w:World}{l:A6}{t:TypeId}{x:Value}{ks:List Value}(h:Bs D w l (.iface t x) ks):l.kd≠31/\l.kd≠32:=by
 unfold Bs at h;split at h
 ·obtain⟨⟨_,_,_,e⟩,_⟩:=h;cases e
 ·omega
theorem Bs.Oy{D:Nat->Prop}{w:World}{l:A6}{a:Option Addr}{n m:Nat}{ks:List Value}(h:Bs D w l (.slice a n m) ks):(l.kd=31\/l.kd=32)/\Cw D w 142 1 (.slice a n m) ks.length ks:=by
 unfold Bs at h;split at h
 ·rename_i h1;exact⟨h1,h.2⟩
 ·obtain⟨b,cs,e,_⟩:=h;cases e
theorem Wf.Lo{x y:Nat}{l:A6}{c r:BT A6}(h:Wf 2 (.node x y l c r)):(l.kd≠31->Iv l.kd=true/\Wf 0 c)/\(l.kd=31\/l.kd=32->l.kd=31/\Wf 1 c):=by
 rcases h.2 with⟨_,h1,h2⟩|⟨_,h1,h2⟩|⟨h1,_⟩|⟨h1,_⟩|⟨h1,_⟩|⟨h1,_⟩|⟨h1,_⟩
 ·exact⟨fun _=>⟨h1,h2⟩,fun e=>by have:=Ot h1;omega⟩
 ·exact⟨fun e=>absurd h1 e,fun _=>⟨h1,h2⟩⟩
 all_goals omega
theorem Wf.Q0{x y:Nat}{l:A6}{c r:BT A6}(h:Wf 3 (.node x y l c r)):(l.kd≠32->Iv l.kd=true/\Wf 0 c)/\(l.kd=31\/l.kd=32->l.kd=32/\Wf 1 c):=by
 rcases h.2 with⟨_,h1,h2⟩|⟨h1,_⟩|⟨_,h1,h2⟩|⟨h1,_⟩|⟨h1,_⟩|⟨h1,_⟩|⟨h1,_⟩
 ·exact⟨fun _=>⟨h1,h2⟩,fun e=>by have:=Ot h1;omega⟩
 ·omega
 ·exact⟨fun e=>absurd h1 e,fun _=>⟨h1,h2⟩⟩
 all_goals omega
theorem Wf.Sa{l:A6}{c:BT A6}(h:Iv l.kd=true)(hc:Wf 0 c):Wf 0 (nd l c):=Wf.ex h hc
theorem z5va {P:Prop} (h:P:=by simp only[bsize];omega):P:=h
theorem Aaz(K:CC)(l:A6)(c:BT A6)(hk:l.kd=22)(ih:D6 (Part K) c)(hwf:Wf 2 c):Kc K l c:=by
 intro D w outer cur bl wh inn f rc v ks hst hn hr By C5 Fz;obtain⟨hlo,lcb,hncb⟩:=hst.lo;unfold Bs at hn;rw[if_neg z4va]at hn;obtain⟨b,cs,rfl,hD,hb,hl⟩:=hn;have e1:Cg l.kd=253:=by rw[hk];rfl
 have e2:Dk l.kd=314:=by rw[hk];rfl
 rw[e1];rw[e2]at hb;unfold Cv at hl;simp only[hk]at hl;obtain⟨t,x,s1,n1,m1,s2,n2,m2,rfl,hks⟩:=hl;have hnd:=Iz K.fns l c z4va z4va z4va outer cur wh inn f;rw[Ks z4va]at hnd;rw[hnd];have d0:=A2 hb 1 _ rfl;have ld:=A5 hb;have HBk:=A0 hb;rw[Cj]at By C5 Fz;have Dg:=fun(v:Value) (w:World)=>Bg (P:=Tryz.prog) (t:=253) (T:=143) (xT:=142) (z:=.pointer none) Tryz.underlying143 (by kernel_rfl) z4wa v w;have Dz:=fun(v:Value) (w:World)=>Bg (P:=Tryz.prog) (t:=253) (T:=145) (xT:=142) (z:=.pointer none) Tryz.underlying145 (by kernel_rfl) z4wa v w;have Ep:=fun(v:Value) (w:World)=>E3 (P:=Tryz.prog) (xT:=142) Tryz.underlying253 v w;rcases hks with⟨rfl,B0⟩|rfl
 ·obtain⟨x1,y1,l1,c1,r1,Dd,rfl,Bl,At,hz⟩:=hr.cons';obtain⟨x2,y2,l2,c2,r2,Gl,rfl,Di,B5,hzz⟩:=hz.cons';obtain rfl:=hzz.nil';injection B0 with q1 q2 q3;subst q1 q2 q3;obtain⟨E1,Fl⟩:=hwf.Lo.1 Bl.Qv.1;obtain⟨Ci,Bb⟩:=Di.Oy;obtain⟨h31,_⟩:=hwf.1.Lo.2 Ci;simp only[bsize]at By C5 Fz;have hse:Bt K.fns (.node x1 y1 l1 c1 (.node x2 y2 l2 c2 .nil)) outer cur wh inn f=(cur,(Bt K.fns c2 (outer++cur) [] wh inn (Bt K.fns (nd l1 c1) outer cur wh inn f).2).2):=by
   rw[sens_xy' K.fns x1,Ku K.fns _ (Wf.Sa E1 Fl),Jy,Yb K.fns c2 h31]
  rw[hse];have HC:=A0 (ih.1.1 E1 D w outer cur _ wh inn f rc _ Dd hst Bl At);have Ev:=A0 (fun W g (hs:K.St D W (outer++cur) (bl++[outer.length]) wh inn g rc) (hbd:A3 D w W)=>Rw K c2 (ih.2.1.2 Ci) D W (outer++cur) (bl++[outer.length]) wh inn g rc s1 n1 m1 Gl hs (Bb.Bq hbd) (B5.Bq hbd) z4va z4ya z4va);have HC3:=A0 (fun W g (hs:K.St D W (outer++cur) (bl++[outer.length]) wh inn g rc)=>Rw K .nil trivial D W (outer++cur) (bl++[outer.length]) wh inn g rc none 0 0 [] hs (P6 _ _ _ _) rfl z5va (by simp only[bsize];simp;omega) z5va);clear hst hb e1 e2 hk hr Bl At hz ih hwf hnd By C5 Fz Di B5 hzz E1 Fl Ci Bb h31 hse;unfold Cc;go_enter Tryz.func192,Tryz.ntmps192;go_wp2_with fail
  refine(HC.o).mono ?_;rintro e w1 ⟨rfl,Ak,A1⟩;have A7:=A0 Ak;have A4:Hid (A3 D w w1):=A1;clear Ak A1 d0 ld;have Bp:=(A4.o.block b hD).trans HBk.o;have d1:=A2 Bp 2 _ rfl;have ld:=A5 Bp;clear Bp;go_wp2_with fail
  refine(Ev.o _ _ A7.o A4.o).mono ?_;rintro e w2 ⟨rfl,B0,A8⟩;have Ai:=A0 B0;have Aa:Hid (A3 D w w2):=A4.o.trans A8;clear B0 A8 d1 ld;have Dc:=(Aa.o.block b hD).trans HBk.o;have d2:=A2 Dc 3 _ rfl;have ld:=A5 Dc;clear Dc;go_wp2_with fail
  refine(HC3.o _ _ Ai.o).mono ?_;rintro e w3 ⟨rfl,C6,Aj⟩;have Bc:=A0 C6;have Av:Hid (A3 D w w3):=Aa.o.trans Aj;clear C6 Aj ;go_wp2;go_end0;rw[Bt]at Bc;exact z4ra
 ·obtain⟨x1,y1,l1,c1,r1,Dd,rfl,Bl,At,hz⟩:=hr.cons';obtain⟨x2,y2,l2,c2,r2,Gl,rfl,Di,B5,hzz⟩:=hz.cons';obtain⟨x3,y3,l3,c3,r3,ks3,rfl,hn3,Ce,hzzz⟩:=hzz.cons';obtain rfl:=hzzz.nil';obtain⟨E1,Fl⟩:=hwf.Lo.1 Bl.Qv.1;obtain⟨Ci,Bb⟩:=Di.Oy;obtain⟨h31,_⟩:=hwf.1.Lo.2 Ci;obtain⟨hk3,Cs⟩:=hn3.Oy;obtain⟨h31',_⟩:=hwf.1.1.Lo.2 hk3;simp only[bsize]at By C5 Fz;have hse:Bt K.fns (.node x1 y1 l1 c1 (.node x2 y2 l2 c2 (.node x3 y3 l3 c3 .nil))) outer cur wh inn f=(cur,(Bt K.fns c3 (outer++cur) [] wh inn (Bt K.fns c2 (outer++cur) [] wh inn (Bt K.fns (nd l1 c1) outer cur wh inn f).2).2).2):=by
   rw[sens_xy' K.fns x1,Ku K.fns _ (Wf.Sa E1 Fl),sens_xy' K.fns x2,Yb K.fns c2 h31,Jy,Yb K.fns c3 h31']
  rw[hse];have HC:=A0 (ih.1.1 E1 D w outer cur _ wh inn f rc _ Dd hst Bl At);have Ev:=A0 (fun W g (hs:K.St D W (outer++cur) (bl++[outer.length]) wh inn g rc) (hbd:A3 D w W)=>Rw K c2 (ih.2.1.2 Ci) D W (outer++cur) (bl++[outer.length]) wh inn g rc s1 n1 m1 Gl hs (Bb.Bq hbd) (B5.Bq hbd) z4va z4ya z4va);have HC3:=A0 (fun W g (hs:K.St D W (outer++cur) (bl++[outer.length]) wh inn g rc) (hbd:A3 D w W)=>Rw K c3 (ih.2.2.1.2 hk3) D W (outer++cur) (bl++[outer.length]) wh inn g rc s2 n2 m2 ks3 hs (Cs.Bq hbd) (Ce.Bq hbd) z4va z4ya z4va);clear hst hb e1 e2 hk hr Bl At hz ih hwf hnd By C5 Fz Di B5 hzz E1 Fl Ci Bb h31 hse hn3 Ce hzzz hk3 Cs h31';unfold Cc;go_enter Tryz.func192,Tryz.ntmps192;go_wp2_with fail
  refine(HC.o).mono ?_;rintro e w1 ⟨rfl,Ak,A1⟩;have A7:=A0 Ak;have A4:Hid (A3 D w w1):=A1;clear Ak A1 d0 ld;have Bp:=(A4.o.block b hD).trans HBk.o;have d1:=A2 Bp 2 _ rfl;have ld:=A5 Bp;clear Bp;go_wp2_with fail
  refine(Ev.o _ _ A7.o A4.o).mono ?_;rintro e w2 ⟨rfl,B0,A8⟩;have Ai:=A0 B0;have Aa:Hid (A3 D w w2):=A4.o.trans A8;clear B0 A8 d1 ld;have Dc:=(Aa.o.block b hD).trans HBk.o;have d2:=A2 Dc 3 _ rfl;have ld:=A5 Dc;clear Dc;go_wp2_with fail
  refine(HC3.o _ _ Ai.o Aa.o).mono ?_;rintro e w3 ⟨rfl,C6,Aj⟩;have Bc:=A0 C6;have Av:Hid (A3 D w w3):=Aa.o.trans Aj;clear C6 Aj ;go_wp2;go_end0;exact z4ra
theorem Ab5(K:CC)(l:A6)(c:BT A6)(hk:l.kd=23)(ih:D6 (Part K) c)(hwf:Wf 3 c):Kc K l c:=by
 intro D w outer cur bl wh inn f rc v ks hst hn hr By C5 Fz;obtain⟨hlo,lcb,hncb⟩:=hst.lo;unfold Bs at hn;rw[if_neg z4va]at hn;obtain⟨b,cs,rfl,hD,hb,hl⟩:=hn;have e1:Cg l.kd=255:=by rw[hk];rfl
 have e2:Dk l.kd=317:=by rw[hk];rfl
 rw[e1];rw[e2]at hb;unfold Cv at hl;simp only[hk]at hl;obtain⟨t,x,s1,n1,m1,rfl,rfl⟩:=hl;have hnd:=Iz K.fns l c z4va z4va z4va outer cur wh inn f;rw[Ks z4va]at hnd;rw[hnd];have d0:=A2 hb 1 _ rfl;have ld:=A5 hb;have HBk:=A0 hb;rw[Cj]at By C5 Fz;have Dg:=fun(v:Value) (w:World)=>Bg (P:=Tryz.prog) (t:=255) (T:=143) (xT:=142) (z:=.pointer none) Tryz.underlying143 (by kernel_rfl) z4wa v w;have Dz:=fun(v:Value) (w:World)=>Bg (P:=Tryz.prog) (t:=255) (T:=145) (xT:=142) (z:=.pointer none) Tryz.underlying145 (by kernel_rfl) z4wa v w;have Ep:=fun(v:Value) (w:World)=>Bg (P:=Tryz.prog) (t:=255) (T:=253) (xT:=142) (z:=.pointer none) Tryz.underlying253 (by kernel_rfl) z4wa v w;have Fh:=fun(v:Value) (w:World)=>E3 (P:=Tryz.prog) (xT:=142) Tryz.underlying255 v w;obtain⟨x1,y1,l1,c1,r1,Dd,rfl,Bl,At,hz⟩:=hr.cons';obtain⟨x2,y2,l2,c2,r2,Gl,rfl,Di,B5,hzz⟩:=hz.cons';obtain rfl:=hzz.nil';obtain⟨E1,Fl⟩:=hwf.Q0.1 Bl.Qv.2;obtain⟨Ci,Bb⟩:=Di.Oy;obtain⟨h32,_⟩:=hwf.1.Q0.2 Ci;simp only[bsize]at By C5 Fz;have hse:Bt K.fns (.node x1 y1 l1 c1 (.node x2 y2 l2 c2 .nil)) outer cur wh inn f=(cur,(Bt K.fns c2 (outer++cur) [] (wh+1) inn (Bt K.fns (nd l1 c1) outer cur wh inn f).2).2):=by
  rw[sens_xy' K.fns x1,Ku K.fns _ (Wf.Sa E1 Fl),Jy,Akq K.fns c2 h32]
 rw[hse];have HC:=A0 (ih.1.1 E1 D w outer cur _ wh inn f rc _ Dd hst Bl At);have Ev:=A0 (fun W g (hs:K.St D W (outer++cur) (bl++[outer.length]) (wh+1) inn g rc) (hbd:A3 D w W)=>Rw K c2 (ih.2.1.2 Ci) D W (outer++cur) (bl++[outer.length]) (wh+1) inn g rc s1 n1 m1 Gl hs (Bb.Bq hbd) (B5.Bq hbd) z4va z4ya z4va);have hwh:wh+1<=700000:=by omega
 clear hst hb e1 e2 hk hr Bl At hz ih hwf hnd By C5 Fz Di B5 hzz E1 Fl Ci Bb h32 hse;unfold Cc;go_enter Tryz.func192,Tryz.ntmps192;go_wp2_with fail
 refine(HC.o).mono ?_;rintro e w1 ⟨rfl,Ak,A1⟩;have A7:=A0 Ak;have A4:Hid (A3 D w w1):=A1;clear Ak A1 d0 ld;have Bp:=(A4.o.block b hD).trans HBk.o;have ld:=A5 Bp;clear Bp;obtain⟨na,nn,nc,ba,bn,bc,la,ln,lc,ls,hv⟩:=A7.o.st;have lcb1:=A5 hv.cell;have HV:=A0 hv;have HP:=A0 (Amc hv.Yj (by rw[hv.lsl];omega) (some ⟨b,0,none⟩) z50a);clear hv;go_wp2_with fail
 refine HP.o.mono ?_;rintro e w2 ⟨rfl,hp2⟩;obtain⟨k1,k2⟩:=HV.o.Y2 _ z4va hp2;have Ai:=A0 (A7.o.next k1 k2);have Aa:Hid (A3 D w w2):=A4.o.trans k2;have Dc:=(Aa.o.block b hD).trans HBk.o;clear ld k1 k2 hp2 lcb1;have d2:=A2 Dc 2 _ rfl;have ld:=A5 Dc;clear Dc;go_wp2_with fail
 refine(Ev.o _ _ Ai.o Aa.o).mono ?_;rintro e w3 ⟨rfl,C6,Aj⟩;have Bc:=A0 C6;have Av:Hid (A3 D w w3):=Aa.o.trans Aj;clear C6 Aj d2 ld;obtain⟨na3,nn3,nc3,ba3,bn3,bc3,la3,ln3,lc3,ls3,hv3⟩:=Bc.o.st;have lcb3:=A5 hv3.cell;have HV3:=A0 hv3;have hl3:=hv3.lsl;have Bi:=A0 (Am8 hv3.Yj z4va wh z4va hl3 z50a);clear hv3;go_wp2_with fail
 refine Bi.o.mono ?_;rintro e w4 ⟨rfl,hp4⟩;obtain⟨k3,k4⟩:=HV3.o.Aba wh z4va hp4;have Er:=A0 (Bc.o.next k3 k4);have Cn:Hid (A3 D w w4):=Av.o.trans k4;clear k3 k4 hp4;exact z39a
theorem A47(K:CC):∀f:BT A6,bsize f<=500000->(Wf 1 f->D6 (Kc K) f)/\(Wf 2 f->D6 (Part K) f)/\(Wf 3 f->D6 (Part K) f):=by
 intro f;induction f with
 | nil=>intro _;exact⟨fun _=>trivial,fun _=>trivial,fun _=>trivial⟩
 | node x y l c r Dr D8=>
  intro hs;rw[bsize]at hs;obtain⟨i1,i2,i3⟩:=Dr z4va;obtain⟨j1,j2,j3⟩:=D8 z4va;refine⟨fun h=>⟨?_,j1 h.1⟩,fun h=>⟨⟨fun hx=>?_,fun hx=>i1 (h.Lo.2 hx).2⟩,j2 h.1⟩,fun h=>⟨⟨fun hx=>?_,fun hx=>i1 (h.Q0.2 hx).2⟩,j3 h.1⟩⟩
  ·rcases h.2 with⟨h0,_⟩|⟨h0,_⟩|⟨h0,_⟩|⟨_,h1,h2⟩|⟨_,h1,h2⟩|⟨_,h1,h2⟩|⟨h0,_⟩
   ·omega
   ·omega
   ·omega
   ·exact Aaz K l c h1 (i2 h2) h2
   ·exact Ab5 K l c h1 (i3 h2) h2
   ·have hx:=Wt K c h2 z4va;unfold Q4 at h1;simp only[Bool.or_eq_true,Bool.and_eq_true,decide_eq_true_eq,beq_iff_eq]at h1;have hc:l.kd=21\/l.kd=24\/l.kd=25\/l.kd=26\/l.kd=27\/l.kd=28\/l.kd=29\/l.kd=30:=by omega
    rcases hc with e|e|e|e|e|e|e|e
    ·exact Ab0 K l c e hx h2
    ·exact Ab3 K l c e hx h2
    ·exact Aav K l c e
    ·exact Aaw K l c e
    ·exact Ab1 K l c e hx h2
    ·exact Ab4 K l c e hx h2
    ·exact Ab2 K l c e hx h2
    ·exact Aax K l c e hx h2
   ·omega
  ·have hw:=h.Lo.1 (Ot hx).1;exact(Wt K (nd l c) (Wf.Sa hw.1 hw.2) (by rw[Cj];omega)).1
  ·have hw:=h.Q0.1 (Ot hx).2.1;exact(Wt K (nd l c) (Wf.Sa hw.1 hw.2) (by rw[Cj];omega)).1
theorem Ur(ps:List (Nat×List UInt8)):∀(i:Nat) (h:i<ps.length),(Kt ps)[i*2]?=some (.int .i64 (ps[i].1:Nat))/\(Kt ps)[i*2+1]?=some (.string ⟨ps[i].2.toArray⟩):=by
 induction ps with
 | nil=>intro i h;simp at h
 | cons p r ih=>
  intro i h;have e:Kt (p::r)=Gd p.1::Ld p.2::Kt r:=by simp[Kt]
  rw[e];cases i with
  | zero=>exact⟨rfl,rfl⟩
  | succ i=>
   rw[show(i+1)*2=i*2+2 by omega,show i*2+2+1=i*2+1+2 by omega];exact ih i z60a
theorem F8.A3c{D:Nat->Prop}{cb te:Nat}{w:World}{ns:List Nm}{bk:List Nat}{wh:Nat}{inn:Bool}{f:Ct}{rc:Nat}{fa:Option Addr}{fn fc:Nat}(h:F8 D cb te w ns bk wh inn f rc fa fn fc)(o:Obj):F8 (fun g=>D g\/g=w.heap.size) cb te (w.alloc o) ns bk wh inn f rc fa fn fc:=by
 obtain⟨na,nn,nc,ba,bn,bc,la,ln,lc,ls,h⟩:=h;have hk:∀g,g<w.heap.size->(w.alloc o).heap[g]?=w.heap[g]?:=fun g hg=>Below.heap_alloc _ _ _ hg;have hc:=A5 h.cell;refine⟨na,nn,nc,ba,bn,bc,la,ln,lc,ls,(hk cb hc).trans h.cell,B4 h.names (fun g _ hl=>hk g hl),B4 h.blocks (fun g _ hl=>hk g hl),B4 h.loops (fun g _ hl=>hk g hl),h.lsl,?_,?_,?_,?_,h.Br,?_⟩
 ·rintro(e|e)
  ·exact h.Gv e
  ·omega
 ·intro g hg;have:=Bn h.names g hg;exact⟨fun e=>by rcases e with e|e;exact(h.D5 g hg).1 e;omega,(h.D5 g hg).2⟩
 ·intro g hg;have:=Bn h.blocks g hg;exact⟨fun e=>by rcases e with e|e;exact(h.G6 g hg).1 e;omega,(h.G6 g hg).2⟩
 ·intro g hg;have:=Bn h.loops g hg;exact⟨fun e=>by rcases e with e|e;exact(h.J2 g hg).1 e;omega,(h.J2 g hg).2⟩
 ·rintro g (e|e)
  ·have:=h.lo g e;simp;omega
  ·simp;omega
theorem F8.weak{D E:Nat->Prop}{cb te:Nat}{w:World}{ns:List Nm}{bk:List Nat}{wh:Nat}{inn:Bool}{f:Ct}{rc:Nat}{fa:Option Addr}{fn fc:Nat}(h:F8 D cb te w ns bk wh inn f rc fa fn fc)(he:∀g,E g->D g):F8 E cb te w ns bk wh inn f rc fa fn fc:=by
 obtain⟨na,nn,nc,ba,bn,bc,la,ln,lc,ls,h⟩:=h;exact⟨na,nn,nc,ba,bn,bc,la,ln,lc,ls,h.cell,h.names,h.blocks,h.loops,h.lsl,fun e=>h.Gv (he _ e),fun g hg=>⟨fun e=>(h.D5 g hg).1 (he g e),(h.D5 g hg).2⟩,fun g hg=>⟨fun e=>(h.G6 g hg).1 (he g e),(h.G6 g hg).2⟩,fun g hg=>⟨fun e=>(h.J2 g hg).1 (he g e),(h.J2 g hg).2⟩,h.Br,fun g hg=>h.lo g (he g hg)⟩
theorem Agn{w:World}{fns:List (Nm×Nat)}{fa:Option Addr}{k:Nat}{s:Nm}{p:Option Addr}(h:Mt w fns fa k s p):(p=none/\decide (s∈(fns.take k).map (·.1))=false)\/((∃pb,p=some ⟨pb,0,none⟩)/\decide (s∈(fns.take k).map (·.1))=true):=by
 rcases h with⟨e,hn⟩|⟨i,hi,pb,pa,pc,hik,e,_,es,_⟩
 ·left;refine⟨e,decide_eq_false (fun hm=>?_)⟩;obtain⟨j,hj,hjk,e2⟩:=A1s.1 hm;exact hn j hjk hj e2
 ·right;exact⟨⟨pb,e⟩,decide_eq_true (A1s.2 ⟨i,hi,hik,es⟩)⟩
theorem z00a {P:Prop} (h:P:=by
  have HF1:=A0 Ga;clear Ga;obtain⟨na2,nn2,nc2,ba2,bn2,bc2,la2,Gc,lc2,ls2,Ft⟩:=Ai.o.st;obtain⟨c0,c1,c2,c3,c4,c5,c6,c7,fz,lb⟩:=Nu Ft.cell;have HV2:=A0 Ft;clear Ft;have Dc:=(Aa.o.block b hD).trans HBlk.o;obtain⟨d0,d1,d2,d3,fd,ld⟩:=E5 Dc;clear Dc;go_wp2_with fail
  have hs2c:F8 D K.cb K.te ((w2.setCell ⟨K.cb,1,none⟩ (.int .i64 ((rc:Int)+1))).setCell ⟨K.cb,5,none⟩ (.bool true)) cur [0] 0 true f1 (rc+1) K.fa K.fn K.fc:=by
   refine⟨na2,nn2,nc2,ba2,bn2,bc2,la2,Gc,lc2,ls2,HV2.o.put true f1 (rc+1) z4va ?_ (fun g _ hne=>by rw[Below.heap_setCell _ _ _ _ z5ma,Below.heap_setCell _ _ _ _ z5ma]) z58a⟩;have:=heap_set (j:=5) (heap_set (j:=1) HV2.o.cell (.int .i64 ((rc:Int)+1))) (.bool true);simpa using this
  have hb2c:A3 D w2 ((w2.setCell ⟨K.cb,1,none⟩ (.int .i64 ((rc:Int)+1))).setCell ⟨K.cb,5,none⟩ (.bool true)):=A3.set (p:=⟨K.cb,5,none⟩) (A3.set (p:=⟨K.cb,1,none⟩) (A3.refl _ _) hncb _) hncb _;refine(U1 hs2c z50a).mono ?_;rintro e w3 ⟨rfl,C6,Aj⟩;have Av:Hid (A3 D w w3):=Aa.o.trans (hb2c.trans Aj);have Bc:Hid (K.St D w3 cur ([0]++[cur.length]) 0 true f1 (rc+1)):=⟨C6,HSt.o.fr.keep Av.o⟩;clear C6 Aj hs2c hb2c c0 c1 c2 c3 c4 c5 c6 c7 fz lb d0 d1 d2 d3 fd ld HV2 Ai;have Ej:=(Av.o.block b hD).trans HBlk.o;obtain⟨d0,d1,d2,d3,fd,ld⟩:=E5 Ej;clear Ej;go_wp2;go_loopg [46] l.ps.length (fun k v wr=>∃(i:Nat) (pcur:List Nm) (fl:Ct),v=.int .i64 i/\i+k=l.ps.length/\pcur.length=i/\K.St D wr (cur++pcur) ([0]++[cur.length]) 0 true fl (rc+1)/\J4 (l.ps.drop i) pcur fl=J4 l.ps [] f1/\A3 D w wr)
  case atStart=>exact⟨0,[],f1,rfl,by omega,rfl,by rw[List.append_nil];exact Bc.o,rfl,Av.o⟩
  case round=>
   clear Bc Av d0 d1 d2 d3 fd ld Aa;obtain⟨i,pcur,fl,rfl,hik,hpc,hst,hpf,hbel⟩:=hrel;have HStR:=A0 hst;have HPf:=A0 hpf;have HBelR:=A0 hbel;obtain⟨hloR,lcbR,_⟩:=hst.lo;clear hst hpf hbel;by_cases hlt:i<l.ps.length
   ·obtain⟨g,rfl,_,hcapP,lg,hcell⟩:=Fo (HPrm.o.Bq HBelR.o).1 z4va;obtain⟨q0,q1⟩:=Ur l.ps i hlt;have y0:=hcell _ _ q0;have y1:=hcell _ _ q1;have HStep:=A0 (A3b l.ps i hlt pcur fl);generalize l.ps[i]=pp at *;have HPr:=A0 (HStR.o.st.A3c (.cells #[.int .i64 (pp.1:Nat),.string ⟨pp.2.toArray⟩] 148));have HCell:=A0 (heap_alloc_new wr (.cells #[.int .i64 (pp.1:Nat),.string ⟨pp.2.toArray⟩] 148));clear hcell q0 q1;go_wp2_with fail
    refine(Wa HPr.o pp.1 pp.2).mono ?_;rintro e w5 ⟨rfl,Cm,Ch⟩;have hc5:=(Ch.block wr.heap.size (.inr rfl)).trans HCell.o;obtain⟨z0,z1,fz5,lz⟩:=Iu hc5;have E4:Hid (A3 D wr w5):=A3.trans ((A3.refl D wr).alloc hloR _) (Ch.weak (fun g hg=>.inl hg));obtain⟨na5,nn5,nc5,ba5,bn5,bc5,la5,ln5,lc5,ls5,Im⟩:=Cm;have lcb5:=A5 Im.cell;have HV5:=A0 (Im.keep (w':=w5.drew) (fun _ _=>rfl) (Nat.le_refl _));have Ey:=A0 (V2 HV5.o.Ls (by rw[P0,List.length_append];omega) ⟨pp.2.toArray⟩ z50a);clear Ch hc5 Im y0 y1 HPr;generalize wr.heap.size=tb5 at *;go_wp2;go_region_law (refine Eo rfl 137 _ _ rfl #[.pointer (some ⟨K.cb,2,none⟩),.string ⟨pp.2.toArray⟩] (by kernel_rfl) Ey.o ?_;rintro e w6 ⟨rfl,hp6⟩;refine⟨_,rfl,?_⟩)
    all_goals
     obtain⟨k1,k2⟩:=HV5.o.Y3 pp.2 z6sa hp6;have HS6:=A0 (k1.weak (E:=D) (fun g hg=>.inl hg));have J7:Hid (A3 D w w6):=HBelR.o.trans (E4.o.trans (A3.weak (D:=fun g=>D g\/g=tb5) ⟨k2.os,k2.tape,k2.output,k2.size,k2.block⟩ (fun g hg=>.inl hg)));clear k1 k2 hp6 HV5 Ey;go_wp2;go_roundg (gk-1)
     case measure=>omega
     case rel=>
      refine⟨i+1,pcur++[pp.2],_,rfl,by omega,by simp;omega,⟨by rw[←List.append_assoc];exact HS6.o,HSt.o.fr.keep J7.o⟩,?_,J7.o⟩;rw[←HPf.o,HStep.o]
   ·have hend:(pcur,fl)=J4 l.ps [] f1:=by rw[←HPf.o,A3a l.ps i z4va]
    have HEnd:=A0 hend;have hbkR:=(HBelR.o.block b hD).trans HBlk.o;obtain⟨d0,d1,d2,d3,fd,ld⟩:=E5 hbkR;clear hbkR hend;go_wp2_with fail
    refine(HRun.o wr pcur fl HStR.o HBelR.o z4va).mono ?_;rintro e w7 ⟨rfl,G4,Ik⟩;have HS7:=A0 G4;have HB7:Hid (A3 D w w7):=HBelR.o.trans Ik;clear G4 Ik;go_wp2_with fail
    refine(Ty HS7.o.st z50a).mono ?_;rintro e w8 ⟨rfl,hs8,hb8⟩;rw[List.take_left]at hs8;have HB8:Hid (A3 D w w8):=HB7.o.trans hb8;obtain⟨na8,nn8,nc8,ba8,bn8,bc8,la8,ln8,lc8,ls8,hv8⟩:=hs8;obtain⟨e0,e1,e2,e3,e4,e5,e6,e7,fe,le⟩:=Nu hv8.cell;have HV8:=A0 hv8;clear hb8 hv8;go_wp2;go_end0;have Db:A3 D w8 (w8.setCell ⟨K.cb,5,none⟩ (.bool false)):=A3.set (p:=⟨K.cb,5,none⟩) (A3.refl _ _) hncb _;rw[HF1.o,←HEnd.o];refine⟨rfl,⟨⟨na8,nn8,nc8,ba8,bn8,bc8,la8,ln8,lc8,ls8,HV8.o.put false _ (rc+1) HV8.o.Br.2.2.2 ?_ (fun g _ hne=>Below.heap_setCell _ _ _ _ z5ma) z58a⟩,HSt.o.fr.keep (HB8.o.trans Db)⟩,HB8.o.trans Db⟩;have:=heap_set (j:=5) HV8.o.cell (.bool false);simpa using this):P:=h
theorem Aa9(K:CC)(l:A6)(c:BT A6)(hok:D6 (Kc K) c)(D:Nat->Prop)(w:World)(cur:List Nm)(f:Ct)(rc:Nat)(b:Nat)(pa:Option Addr)(pn pc:Nat)(va:Option Addr)(vn vc:Nat)(ks:List Value)
  (hst:K.St D w cur [0] 0 false f rc) (hrc:rc<K.fns.length) (hD:D b) (hblk:w.heap[b]?=some (.cells #[.int .i64 (l.line:Nat),.string ⟨l.s.toArray⟩,.slice pa pn pc,.slice va vn vc] 218 (0,0)))
  (hprm:Cw D w 148 2 (.slice pa pn pc) l.ps.length (Kt l.ps)) (hown:Cw D w 142 1 (.slice va vn vc) ks.length ks) (hrep:An D w c ks) (A1:cur.length+l.ps.length+bsize c<=600000) :
  Calls Tryz.prog 234 #[.pointer (some ⟨K.cb,0,none⟩),.pointer (some ⟨b,0,none⟩)] w fun e w'=>e=.returned (.tuple #[])/\K.St D w' cur [0] 0 false (Bt K.fns c cur (J4 l.ps [] (Ed (decide (l.s∈(K.fns.take rc).map (·.1))) 3 l.line f)).1 0 true (J4 l.ps [] (Ed (decide (l.s∈(K.fns.take rc).map (·.1))) 3 l.line f)).2).2 (rc+1)/\A3 D w w':=by
 obtain⟨hlo,lcb,hncb⟩:=hst.lo;have hpn:pn=l.ps.length:=(C9 hprm.1).1;subst hpn;have hcb:K.cb≠b:=fun e=>hncb (by rw[e];exact hD);obtain⟨p,hp⟩:=hst.fr.find l.s rc z4va;have HNm:=A0 (fun(n:Nat)=>b6 (hst.drewN n).fr rc z4va l.s p hp);have hseen:=Agn hp;have hcap:=hst.fr.cap;have hlen:=hst.fr.len;have hfew:=hst.fr.Br;have HSt:=A0 hst;have HBlk:=A0 hblk;have HPrm:=A0 hprm;have HRun:=A0 (fun(W:World) (pcur:List Nm) (g:Ct) (hs:K.St D W (cur++pcur) ([0]++[cur.length]) 0 true g (rc+1)) (hbd:A3 D w W) (hpl:pcur.length<=l.ps.length)=>j5 K c hok D W cur pcur [0] 0 true g (rc+1) va vn vc ks hs (hown.Bq hbd) (hrep.Bq hbd) z6sa z4ya z4va);obtain⟨na,nn,nc,ba,bn,bc,la,ln,lc,ls,hv⟩:=hst.st;obtain⟨c0,c1,c2,c3,c4,c5,c6,c7,fz,lb⟩:=Nu hv.cell;obtain⟨d0,d1,d2,d3,fd,ld⟩:=E5 hblk;have hcap2:rc<=K.fc:=by omega
 rw[hlen]at c0;have hrl:rc<=K.fns.length:=by omega
 clear hst hblk hprm hown hrep hp hv hcap hlen;generalize hsq:decide (l.s∈(K.fns.take rc).map (·.1))=sq at *;have HSq:=A0 hsq;clear hsq;go_enter Tryz.func234,Tryz.ntmps234;go_wp2;go_quiet ((go_at_call 263;exact Calls.quiet_of_same (HNm.o _)))
 rcases hseen with⟨rfl,hsv⟩|⟨⟨pb,rfl⟩,hsv⟩
 ·have Ai:Hid (K.St D (w.drewN nq) cur [0] 0 false (Ed sq 3 l.line f) rc):=by rw[hsv,Qa];exact HSt.o.drewN nq
  have Aa:=A0 (Dw D w nq);clear c0 c1 c2 c3 c4 c5 c6 c7 fz lb d0 d1 d2 d3 fd ld hsv;generalize w.drewN nq=w2 at *;generalize Ga:Ed sq 3 l.line f=f1 at *;exact z00a
 ·have A7:=A0 (HSt.o.drewN nq);have A4:=A0 (Dw D w nq);have J8:Hid ((w.drewN nq).heap[b]?=_):=HBlk.o;clear c0 c1 c2 c3 c4 c5 c6 c7 fz lb d0 d1 d2 d3 fd ld;generalize w.drewN nq=w1 at *;obtain⟨d0,d1,d2,d3,fd,ld⟩:=E5 J8.o;subst hsv;go_wp2_with fail
  refine(Ol A7.o.st 3 l.line).mono ?_;rintro e w2 ⟨rfl,B0,A8⟩;have Ai:=A0 (A7.o.next B0 A8);have Aa:Hid (A3 D w w2):=A4.o.trans A8;clear B0 A8 d0 d1 d2 d3 fd ld A7 A4 J8;generalize Ga:Ed true 3 l.line f=f1 at *;exact z00a
theorem z3ta {P:Prop} (h:P:=by
  unfold Q4 at h1;simp only[Bool.or_eq_true,Bool.and_eq_true,decide_eq_true_eq,beq_iff_eq]at h1;omega):P:=h
theorem Wf.top{x y:Nat}{l:A6}{c r:BT A6}(h:Wf 4 (.node x y l c r)):(l.kd=20->Wf 1 c)/\(l.kd≠20->Wf 1 (nd l c)/\((22<=l.kd/\l.kd<=30)\/l.kd=21)):=by
 rcases h.2 with⟨h0,_⟩|⟨h0,_⟩|⟨h0,_⟩|⟨_,h1,h2⟩|⟨_,h1,h2⟩|⟨_,h1,h2⟩|⟨_,h1,h2⟩
 ·omega
 ·omega
 ·omega
 ·exact⟨fun e=>by omega,fun _=>⟨⟨trivial,.inr (.inr (.inr (.inl ⟨.inl rfl,h1,h2⟩)))⟩,by omega⟩⟩
 ·exact⟨fun e=>by omega,fun _=>⟨⟨trivial,.inr (.inr (.inr (.inr (.inl ⟨.inl rfl,h1,h2⟩))))⟩,by omega⟩⟩
 ·refine⟨fun e=>(by rw[e]at h1;cases h1),fun _=>⟨⟨trivial,.inr (.inr (.inr (.inr (.inr (.inl ⟨.inl rfl,h1,h2⟩)))))⟩,?_⟩⟩;exact z3ta
 ·exact⟨fun _=>h2,fun e=>absurd h1 e⟩
theorem z3ja {P:Prop} (h:P:=by
  exact⟨rfl,A7.o,A4.o⟩):P:=h
theorem Aay(K:CC)(l:A6)(c:BT A6)(hk:l.kd=20)(hok:D6 (Kc K) c)(D:Nat->Prop)(w:World)(cur:List Nm)(f:Ct)(rc:Nat)(v:Value)(ks:List Value)(hst:K.St D w cur [0] 0 false f rc)(hrc:rc<K.fns.length)(hn:Bs D w l v ks)(hr:An D w c ks)(A1:cur.length+l.ps.length+bsize c<=600000) :
  Calls Tryz.prog 192 #[.pointer (some ⟨K.cb,0,none⟩),v] w fun e w'=>e=.returned (.tuple #[])/\K.St D w' cur [0] 0 false (Bt K.fns c cur (J4 l.ps [] (Ed (decide (l.s∈(K.fns.take rc).map (·.1))) 3 l.line f)).1 0 true (J4 l.ps [] (Ed (decide (l.s∈(K.fns.take rc).map (·.1))) 3 l.line f)).2).2 (rc+1)/\A3 D w w':=by
 obtain⟨hlo,lcb,hncb⟩:=hst.lo;unfold Bs at hn;rw[if_neg z4va]at hn;obtain⟨b,cs,rfl,hD,hb,hl⟩:=hn;have e1:Cg l.kd=143:=by rw[hk];rfl
 have e2:Dk l.kd=218:=by rw[hk];rfl
 rw[e1];rw[e2]at hb;unfold Cv at hl;simp only[hk]at hl;obtain⟨ps,sl,rfl,ho,hpo⟩:=hl;obtain⟨va,vn,vc,rfl⟩:∃va vn vc,sl=.slice va vn vc:=O5 ho.1;obtain⟨pa,pn,pc,rfl⟩:∃va vn vc,ps=.slice va vn vc:=O5 hpo.1;have HC:=A0 (Aa9 K l c hok D w cur f rc b pa pn pc va vn vc ks hst hrc hD hb hpo ho hr A1);have ld:=A5 hb;have Dg:=fun(v:Value) (w:World)=>E3 (P:=Tryz.prog) (xT:=142) Tryz.underlying143 v w;clear hst hb e1 e2 hk hr ho hpo;unfold Cc;go_enter Tryz.func192,Tryz.ntmps192;go_wp2_with fail
 refine HC.o.mono ?_;rintro e w1 ⟨rfl,Ak,A1⟩;have A7:=A0 Ak;have A4:=A0 A1;clear Ak A1;go_wp2;go_end0;exact z3ja
theorem z6fa {P:Prop} (h:P:=by simp only[List.length_nil];omega):P:=h
theorem Ab7(K:CC)(c:BT A6)(hwf:Wf 4 c)(hfns:K.fns=Cr c)(D:Nat->Prop)(w:World)(f:Ct)(va:Option Addr)(vn vc:Nat)(ks:List Value)
  (hst:K.St D w [] [0] 0 false f 0) (hown:Cw D w 142 1 (.slice va vn vc) ks.length ks) (hrep:An D w c ks) (A1:bsize c<=400000) :
  Calls Tryz.prog 134 #[.pointer (some ⟨K.cb,0,none⟩),.slice va vn vc] w fun e w'=>e=.returned (.tuple #[])/\(∃cn rc,K.St D w' cn [0] 0 false (Et K.fns c [] [] f) rc)/\A3 D w w':=by
 have hvn:vn=ks.length:=(C9 hown.1).1;subst hvn;have HSt0:=A0 hst;have HOwn:=A0 hown;have HRep:=A0 hrep;have hlen:=hrep.len;have HLen:=A0 hlen;have hls:=Nt c;have hkl:ks.length<=700000:=by omega
 have HFns:=A0 hfns;have HWf:=A0 hwf;clear hst hown hrep hlen hfns hwf;go_enter Tryz.func134,Tryz.ntmps134;go_wp2;go_loopg [8] ks.length (fun k v wr=>∃(i n:Nat) (cn:List Nm) (fl:Ct),v=.int .i64 i/\i+k=ks.length/\cn.length+bsize (Ca i c)<=bsize c/\K.St D wr cn [0] 0 false fl n/\K.fns.drop n=Cr (Ca i c)/\Et K.fns (Ca i c) ((K.fns.take n).map (·.1)) cn fl=Et K.fns c [] [] f/\A3 D w wr)
 case atStart=>exact⟨0,0,[],f,rfl,by omega,by rw[show Ca 0 c=c from by cases c <;> rfl];simp,HSt0.o,HFns.o,rfl,A3.refl _ _⟩
 case round=>
  clear HSt0;obtain⟨i,n,cn,fl,rfl,hik,hcn,hst,hdr,hse,hbel⟩:=hrel;have HSt:=A0 hst;have HSe:=A0 hse;have HBel:=A0 hbel;have HDr:=A0 hdr;clear hst hse hbel hdr;by_cases hlt:i<ks.length
  ·have hr:=HRep.o.Bq HBel.o;obtain⟨x,y,l,cc,r,hd,v,ks',hv,hn,hrk⟩:=An.at' i c ks hr z5ga;obtain⟨g,rfl,_,hcap,lg,hcell⟩:=Fo (HOwn.o.Bq HBel.o).1 z4va;have d0:=hcell i v hv;have hdn:=Wj i c;have hsz:bsize (Ca i c)=bsize (nd l cc)+bsize r:=by rw[hd,Cj,bsize]
   have hnds:=Cj l cc;have hds:=Om i c x y l cc r hd;have HDs:=A0 hds;have hw4:Wf 4 (.node x y l cc r):=by have:=Wf.drop 4 i c HWf.o;rw[hd]at this;exact this
   by_cases h20:l.kd=20
   ·obtain⟨hnl,hnf,hdr',htk⟩:=Adk (HDr.o.trans ((congrArg Cr hd).trans (A0w x y l cc r h20)));have HDr':=A0 hdr';have HC:=A0 (Aay K l cc h20 ((A47 K cc z4va).1 (hw4.top.1 h20)) D wr cn fl n v ks' HSt.o hnl hn hrk z4va);have HNx:=A0 ((congrArg (fun q=>Et K.fns q ((K.fns.take n).map (·.1)) cn fl) hd).symm.trans HSe.o);have HFn:=A0 (Akm K.fns x y l cc r ((K.fns.take n).map (·.1)) cn fl h20);have HTk:=A0 htk;clear hr hd hv hn hrk hcell hds hw4 hnf hdr' htk;go_wp2_with fail
    refine HC.o.mono ?_;rintro e w1 ⟨rfl,Ak,A1⟩;have A7:=A0 Ak;have A4:Hid (A3 D w w1):=HBel.o.trans A1;clear Ak A1;go_wp2;go_roundg (gk-1)
    case measure=>omega
    case rel=>exact⟨i+1,n+1,cn,_,rfl,by omega,by rw[HDs.o];omega,A7.o,by rw[HDs.o];exact HDr'.o,by rw[HDs.o,HTk.o,←HNx.o,HFn.o],A4.o⟩
   ·have Fu:=(hw4.top.2 h20).1;have HC:=A0 (((A47 K (nd l cc) z4va).1 Fu).1 D wr [] cn [] 0 false fl n v ks' HSt.o hn hrk (by simp only[List.nil_append];omega) z6fa z4va);have hnil:Bt K.fns (.node x y l cc .nil) [] cn 0 false fl=Bt K.fns (nd l cc) [] cn 0 false fl:=Jy K.fns x y l cc [] cn 0 false fl;have hsx:=((congrArg (fun q=>Et K.fns q ((K.fns.take n).map (·.1)) cn fl) hd).symm.trans HSe.o);rw[Ako K.fns x y l cc r _ cn fl h20,hnil]at hsx;have HSx:=A0 hsx;have HF2:=A0 ((HDr.o.trans (congrArg Cr hd)).trans (A0x x y l cc r h20));have hcl:=A3p K.fns (nd l cc) [] cn 0 false fl;clear hr hd hv hn hrk hcell hds hw4 Fu hnil hsx;go_wp2_with fail
    refine HC.o.mono ?_;rintro e w1 ⟨rfl,Ak,A1⟩;have A7:=A0 Ak;have A4:Hid (A3 D w w1):=HBel.o.trans A1;clear Ak A1;go_wp2;go_roundg (gk-1)
    case measure=>omega
    case rel=>exact⟨i+1,n,(Bt K.fns (nd l cc) [] cn 0 false fl).1,_,rfl,by omega,by rw[HDs.o];omega,A7.o,by rw[HDs.o];exact HF2.o,by rw[HDs.o];exact HSx.o,A4.o⟩
  ·have HE:Hid (fl=Et K.fns c [] [] f):=by
    exact z0qa
   go_wp2;go_end0;rw[←HE.o];exact⟨rfl,⟨cn,n,HSt.o⟩,HBel.o⟩
theorem A9x(K:CC)(c:BT A6)(hwf:Wf 4 c)(hfns:K.fns=Cr c)(D:Nat->Prop)(w:World)(f:Ct)(va:Option Addr)(vn vc:Nat)(ks:List Value)
  (hst:K.St D w [] [] 0 false f 0) (hown:Cw D w 142 1 (.slice va vn vc) ks.length ks) (hrep:An D w c ks) (A1:bsize c<=400000) :
  Calls Tryz.prog 80 #[.pointer (some ⟨K.cb,0,none⟩),.slice va vn vc] w fun e w'=>e=.returned (.tuple #[])/\(∃cn bk rc,K.St D w' cn bk 0 false (Et K.fns c [] [] f) rc)/\A3 D w w':=by
 have HO:=A0 (U1 hst.st z50a);have HSt:=A0 hst;have HRun:=A0 (fun(W:World) (hs:K.St D W [] [0] 0 false f 0) (hbd:A3 D w W)=>Ab7 K c hwf hfns D W f va vn vc ks hs (hown.Bq hbd) (hrep.Bq hbd) A1);clear hst hown hrep;go_enter Tryz.func80,Tryz.ntmps80;go_wp2_with fail
 refine HO.o.mono ?_;rintro e w1 ⟨rfl,Ak,A1⟩;have A7:=A0 (HSt.o.next Ak A1);have A4:=A0 A1;clear Ak A1;go_wp2_with fail
 refine(HRun.o _ A7.o A4.o).mono ?_;rintro e w2 ⟨rfl,⟨cn,rc,B0⟩,A8⟩;have Ai:=A0 B0;have Aa:Hid (A3 D w w2):=A4.o.trans A8;clear B0 A8;go_wp2_with fail
 refine(Ty (bk:=[]) (p:=0) Ai.o.st (Nat.zero_le _)).mono ?_;rintro e w3 ⟨rfl,C6,Aj⟩;have Bc:=A0 (Ai.o.next C6 Aj);have Av:Hid (A3 D w w3):=Aa.o.trans Aj;clear C6 Aj;go_wp2;go_end0;exact⟨rfl,⟨_,_,_,Bc.o⟩,Av.o⟩
theorem Aeb:(Tryz.prog.info? 143).map (fun i=>(i.zero,i.size,i.bytes))=some (some (.pointer none),1,8):=by kernel_rfl
def Z0(D:Nat->Prop)(w:World)(p:Nm×Nat)(v:Value):Prop:=∃pb pa pc,v=.pointer (some ⟨pb,0,none⟩)/\D pb/\pb<w.heap.size/\w.cell? ⟨pb,1,none⟩=some (.string ⟨p.1.toArray⟩)/\w.cell? ⟨pb,2,none⟩=some (.slice pa p.2 pc)
def A5f(D:Nat->Prop)(c:BT A6)(nk:Nat)(w:World)(k:Nat)(v3 v13:Value)(wr:World):Prop:=
 ∃(i:Nat) (fs:List (Nm×Nat)) (fa:Option Addr) (fn fc:Nat) (ps:List Value),v3=.slice fa fn fc/\v13=.int .i64 i/\i+k=nk/\Cr c=fs++Cr (Ca i c)/\fs.length<=i/\wr.ownsRow 0 143 1 (.slice fa fn fc) ps.length ps/\ps.length=fs.length/\
  (∀j (h:j<fs.length),∃v,ps[j]?=some v/\Z0 D w fs[j] v)/\(∀g,(Value.slice fa fn fc).ownBlock=some g->w.heap.size<=g)/\Below w.heap.size w wr
def A5e(D:Nat->Prop)(c:BT A6)(w:World)(e:Ending)(w':World):Prop:=
 ∃fa fn fc,e=.returned (.slice fa fn fc)/\Below w.heap.size w w'/\Ic (fun g=>D g\/(Value.slice fa fn fc).ownBlock=some g) w' (Cr c) fa fn fc/\(∀g,(Value.slice fa fn fc).ownBlock=some g->w.heap.size<=g/\g<w'.heap.size)
theorem A3e{kd:Nat}(h:(22<=kd/\kd<=30)\/kd=21):Cg kd≠143:=by
 have h9:kd=21\/kd=22\/kd=23\/kd=24\/kd=25\/kd=26\/kd=27\/kd=28\/kd=29\/kd=30:=by omega
 rcases h9 with e|e|e|e|e|e|e|e|e|e <;> (subst e;decide)
theorem A12(c:BT A6)(hwf:Wf 4 c)(D:Nat->Prop)(w:World)(pb:Nat)(va:Option Addr)(vn vc:Nat)(ks:List Value)(hpb:w.heap[pb]?=some (.cells #[.slice va vn vc] 140 (0,0)))
  (hown:Cw D w 142 1 (.slice va vn vc) ks.length ks) (hrep:An D w c ks) (A1:bsize c<=90000) :
  Calls Tryz.prog 52 #[.pointer (some ⟨pb,0,none⟩)] w (A5e D c w):=by
 have hvn:vn=ks.length:=(C9 hown.1).1;subst hvn;have c0:=A2 hpb 0 _ rfl;have lp:=A5 hpb;have HOwn:=A0 hown;have HRep:=A0 hrep;have hlen:=hrep.len;have HLen:=A0 hlen;have hls:=Nt c;have hkl:ks.length<=90000:=by omega
 have HWf:=A0 hwf;clear hown hrep hlen hwf hpb;go_enter Tryz.func52,Tryz.ntmps52;go_wp2;go_loopg [3,13] ks.length (fun k v3 v13 wr=>A5f D c ks.length w k v3 v13 wr)
 case atStart=>exact⟨0,[],none,0,0,[],rfl,rfl,by omega,rfl,Nat.le_refl _,World.ownsRow_nil _ _ _ _,rfl,fun j h=>by simp at h,by simp[Value.ownBlock],Below.refl _ _⟩
 case round=>
  obtain⟨i,fs,fa,fn,fc,ps,rfl,rfl,hik,hfs,hfl,hro,hpl,hat,hlo,hbel⟩:=hrel;have HFs:=A0 hfs;have HRo:=A0 hro;have HAt:=A0 hat;have HLo:=A0 hlo;have HBel:=A0 hbel;have HPl:=A0 hpl;clear hfs hro hat hlo hbel;by_cases hlt:i<ks.length
  ·obtain⟨x,y,l,cc,r,hd,v,ks',hv,hn,hrk⟩:=An.at' i c ks HRep.o z5ga;obtain⟨g,rfl,_,hcap,lg,hcell⟩:=Fo HOwn.o.1 z4va;have d0:=(World.cell?_of_block (HBel.o.block g lg)).trans (hcell i v hv);have lg2:g<wr.heap.size:=Nat.lt_of_lt_of_le lg HBel.o.size;have hds:=Om i c x y l cc r hd;have HDs:=A0 hds;have hw4:Wf 4 (.node x y l cc r):=by have:=Wf.drop 4 i c HWf.o;rw[hd]at this;exact this
   by_cases h20:l.kd=20
   ·unfold Bs at hn;rw[if_neg z4va]at hn;obtain⟨b,cs,rfl,hD,hb,hl⟩:=hn;have e1:Cg l.kd=143:=by rw[h20];rfl
    rw[e1]at d0;unfold Cv at hl;simp only[h20]at hl;obtain⟨pp,sl,rfl,_,hpo⟩:=hl;obtain⟨pa,pn,pc,rfl⟩:∃va vn vc,pp=.slice va vn vc:=O5 hpo.1;have hpn:pn=l.ps.length:=(C9 hpo.1).1;have HFnA:Hid (Z0 D w (l.s,l.ps.length) (.pointer (some ⟨b,0,none⟩))):=by
     refine⟨b,pa,pc,rfl,hD,A5 hb,A2 hb 1 _ rfl,?_⟩;have:=A2 hb 2 _ rfl;rw[hpn]at this;exact this
    have HFx:Hid (Cr c=(fs++[(l.s,l.ps.length)])++Cr (Ca (i+1) c)):=by
     show _=_;rw[HFs.o,hd,A0w x y l cc r h20,hds];simp
    have ta:=fun(v:Value) (w:World)=>E3 (P:=Tryz.prog) (xT:=142) Tryz.underlying143 v w;have hrow:=HRo.o;have hpl2:ps.length<=90000:=by omega
    clear hcell hd hv hrk hds hw4 e1 h20 hb hpo hpn hpl;unfold Cc at d0;go_wp2_with (at_builtin;refine Kj wr #[.pointer (some ⟨b,0,none⟩)] 143 rfl (.tmp 23) (.tmp 25) 129 rfl 0 1 8 (.pointer none) Tryz.underlying129 Aeb rfl z4va (.slice fa fn fc) ps.length ps rfl rfl hrow rfl (fun u hu=>by simp at hu;rw[hu];rfl) z4va z4va (Nat.zero_le _) ?_;intro g2 cap2 w2 hown2 hgrow2 hat2 Hv)
    have hsz:=HBel.o.size;go_roundg (gk-1)
    case measure=>omega
    case rel=>
     refine⟨i+1,fs++[(l.s,l.ps.length)],some ⟨g2,0,none⟩,ps.length+1,cap2,ps++[.pointer (some ⟨b,0,none⟩)],rfl,rfl,by omega,HFx.o,by simp;omega,by simpa using hown2,by simp[HPl.o],?_,?_,?_⟩
     ·intro j hj;by_cases hjl:j<fs.length
      ·obtain⟨v,k1,k2⟩:=HAt.o j hjl;refine⟨v,?_,by rw[List.getElem_append_left hjl];exact k2⟩;rw[List.getElem?_append_left (by rw[HPl.o];exact hjl)];exact k1
      ·have hje:j=fs.length:=by simp at hj;omega
       subst hje;refine⟨_,?_,by rw[List.getElem_append_right (Nat.le_refl _)];simpa using HFnA.o⟩;rw[List.getElem?_append_right (by rw[HPl.o];exact Nat.le_refl _),HPl.o];simp
     ·intro k hk;simp only[Value.ownBlock,Option.some.injEq]at hk;rw[←hk];rcases hat2 with h|h
      ·exact HLo.o g2 h
      ·omega
     ·exact⟨hgrow2.os.trans HBel.o.os,hgrow2.tape.trans HBel.o.tape,hgrow2.output.trans HBel.o.output,Nat.le_trans hsz hgrow2.size,fun k hk=>(hgrow2.block k z4va (fun e=>by have:=HLo.o k e.symm;omega)).trans (HBel.o.block k hk)⟩
   ·have hk:=(hw4.top.2 h20).2;unfold Bs at hn;rw[if_neg z4va]at hn;obtain⟨b,cs,rfl,hD,hb,hl⟩:=hn;have HFx:Hid (Cr c=fs++Cr (Ca (i+1) c)):=by
     show _=_;rw[HFs.o,hd,A0x x y l cc r h20,hds]
    have hpt:=A3e hk;have ta:=fun(v:Value) (w:World)=>Bg (P:=Tryz.prog) (t:=Cg l.kd) (T:=143) (xT:=142) (z:=.pointer none) Tryz.underlying143 (by kernel_rfl) hpt v w;clear hcell hd hv hrk hds hw4 h20 hb hl hk hpt hpl;generalize Cg l.kd=tt at *;go_wp2;go_roundg (gk-1)
    case measure=>omega
    case rel=>exact⟨i+1,fs,fa,fn,fc,ps,rfl,rfl,by omega,HFx.o,by omega,HRo.o,HPl.o,HAt.o,HLo.o,HBel.o⟩
  ·have hfn:fn=ps.length:=(C9 HRo.o).1;have hcp:=Agx HRo.o;have HE:Hid (Cr c=fs):=by
    show _=_;have h0:Ca i c=.nil:=by
     exact z1wa
    have:=HFs.o;rw[h0]at this;simpa [Cr]using this
   go_wp2;go_ret;refine⟨fa,fn,fc,rfl,HBel.o,?_,fun g hg=>⟨HLo.o g hg,Bn HRo.o g hg⟩⟩;rw[HE.o];refine⟨by rw[hfn,HPl.o],by omega,by omega,fun j hj=>?_⟩;obtain⟨v,k1,pb',pa,pc,rfl,k2,k3,k4,k5⟩:=HAt.o j hj;obtain⟨g,hfa,_,_,lg,hcell⟩:=Fo HRo.o z4va;have hsz:=HBel.o.size;refine⟨g,pb',pa,pc,hfa,.inr (by rw[hfa];rfl),lg,hcell j _ k1,.inl k2,by omega,(World.cell?_of_block (HBel.o.block pb' k3)).trans k4,(World.cell?_of_block (HBel.o.block pb' k3)).trans k5⟩
end
end Go.Proofs.YtjdlndhfaaolaaaGreatDoor
