import Derived.Test.YtjdlndhfaaolaaaGreatDoorQ21
set_option maxHeartbeats 20000000
namespace Go.Proofs.YtjdlndhfaaolaaaGreatDoor
section
set_option maxRecDepth 100000
open Go.RowKit
open Go.Deep (BT)
def K7(fns:List (Nm×Nat))(l:A6)(n:Nat)(outer cur:List Nm)(wh:Nat)(inn:Bool)(f:Cn):Cn:=
 if l.kd=6\/l.kd=28 then E2 (!decide (l.s∈outer++cur)) 3 l.line f
 else if l.kd=7 then E2 (Nn fns l.s n) 3 l.line f
 else if l.kd=25\/l.kd=26 then E2 (wh==0) 4 l.line f
 else if l.kd=24 then E2 (!inn) 4 l.line f
 else f
theorem Iq(fns:List (Nm×Nat))(l:A6)(c:BT A6)(h1:l.kd≠31)(h2:l.kd≠32)(h3:l.kd≠21)(outer cur:List Nm)(wh:Nat)(inn:Bool)(f:Cn):Bp fns (nd l c) outer cur wh inn f=Bp fns c outer cur wh inn (K7 fns l (Ar c) outer cur wh inn f):=by
 rw[nd,Bp,if_neg h1,if_neg h2,if_neg h3,Bp];rfl
theorem Ki{fns:List (Nm×Nat)}{l:A6}{n:Nat}{outer cur:List Nm}{wh:Nat}{inn:Bool}{f:Cn}(h:l.kd≠6/\l.kd≠28/\l.kd≠7/\l.kd≠25/\l.kd≠26/\l.kd≠24):K7 fns l n outer cur wh inn f=f:=by
 unfold K7;rw[if_neg (by omega),if_neg (by omega),if_neg (by omega),if_neg (by omega)]
theorem Al.nil'{D:Nat->Prop}{w:World}{c:BT A6}(h:Al D w c []):c=.nil:=by
 cases c with
 | nil=>rfl
 | node x y l c r=>obtain⟨v,ks,rest,e,_⟩:=h;cases e
theorem Al.cons'{D:Nat->Prop}{w:World}{c:BT A6}{a:Value}{vs:List Value}(h:Al D w c (a::vs)):∃x y l c1 r ks,c=.node x y l c1 r/\Bo D w l a ks/\Al D w c1 ks/\Al D w r vs:=by
 cases c with
 | nil=>rw[Al]at h;cases h
 | node x y l c1 r=>
  obtain⟨v,ks,rest,e,h1,h2,h3⟩:=h;injection e with e1 e2;subst e1 e2;exact⟨x,y,l,c1,r,ks,rfl,h1,h2,h3⟩
theorem Jq(fns:List (Nm×Nat))(x y:Nat)(l:A6)(c:BT A6)(outer cur:List Nm)(wh:Nat)(inn:Bool)(f:Cn):Bp fns (.node x y l c .nil) outer cur wh inn f=Bp fns (nd l c) outer cur wh inn f:=by
 rw[sens_xy',Bp]
theorem A8v(K:CC)(l:A6)(c:BT A6)(hk:l.kd=1\/l.kd=2\/l.kd=3\/l.kd=4\/l.kd=5):Fx K l c:=by
 intro D w outer cur bk wh inn f rc v ks hst hn hr;unfold Bo at hn;rw[if_neg (by omega)]at hn;obtain⟨b,cs,rfl,hD,hb,hl⟩:=hn;rw[Iq K.fns l c (by omega) (by omega) (by omega),Ki (by omega)];have hks:ks=[]:=by
  unfold Cr at hl;rcases hk with h|h|h|h|h <;> (simp only[h]at hl;exact hl.2)
 subst hks;rw[hr.nil',Bp];have HSt:=A0 hst;have hp:Cb l.kd=220\/Cb l.kd=229\/Cb l.kd=233\/Cb l.kd=237:=by
  rcases hk with h|h|h|h|h <;> (rw[h];decide)
 have hm:∀T e,Tryz.prog.underlying T=some (.pointer e)->(Tryz.prog.info? T).map (·.zero)=some (some (.pointer none))->Cb l.kd≠T->∀(v:Value) (w:World),(Instr.typeAssert (.iface (Cb l.kd) v) 150 T true).run Tryz.prog w=.ok (.tuple #[.pointer none,.bool false]) w:=fun T e h1 h2 h3 v w=>Bc h1 h2 h3 v w;have D8:=hm 238 _ Tryz.underlying238 (by kernel_rfl) (by rcases hp with h|h|h|h <;> rw[h] <;> decide);have Dr:=hm 301 _ Tryz.underlying301 (by kernel_rfl) (by rcases hp with h|h|h|h <;> rw[h] <;> decide);have Ee:=hm 241 _ Tryz.underlying241 (by kernel_rfl) (by rcases hp with h|h|h|h <;> rw[h] <;> decide);have F8:=hm 296 _ Tryz.underlying296 (by kernel_rfl) (by rcases hp with h|h|h|h <;> rw[h] <;> decide);have G6:=hm 304 _ Tryz.underlying304 (by kernel_rfl) (by rcases hp with h|h|h|h <;> rw[h] <;> decide);have He:=hm 307 _ Tryz.underlying307 (by kernel_rfl) (by rcases hp with h|h|h|h <;> rw[h] <;> decide);have Iw:=hm 310 _ Tryz.underlying310 (by kernel_rfl) (by rcases hp with h|h|h|h <;> rw[h] <;> decide);have ta7:=hm 244 _ Tryz.underlying244 (by kernel_rfl) (by rcases hp with h|h|h|h <;> rw[h] <;> decide);have ta8:=hm 248 _ Tryz.underlying248 (by kernel_rfl) (by rcases hp with h|h|h|h <;> rw[h] <;> decide);clear hm hp hst hl hb hk;generalize Cb l.kd=t at *;go_enter Tryz.func236,Tryz.ntmps236;go_wp2;go_end0;exact⟨rfl,HSt.o,A3.refl _ _⟩
theorem A2k(K:CC)(l:A6)(c:BT A6)(hk:l.kd=6):Fx K l c:=by
 intro D w outer cur bk wh inn f rc v ks hst hn hr;obtain⟨hlo,lcb,hncb⟩:=hst.lo;unfold Bo at hn;rw[if_neg (by omega)]at hn;obtain⟨b,cs,rfl,hD,hb,hl⟩:=hn;have e1:Cb l.kd=238:=by rw[hk];rfl
 have e2:De l.kd=240:=by rw[hk];rfl
 rw[e1];rw[e2]at hb;rw[Iq K.fns l c (by omega) (by omega) (by omega)];unfold Cr at hl;simp only[hk]at hl;obtain⟨rfl,rfl⟩:=hl;rw[hr.nil',Bp];have hp:K7 K.fns l (Ar BT.nil) outer cur wh inn f=E2 (!decide (l.s∈outer++cur)) 3 l.line f:=by unfold K7;rw[if_pos (.inl hk)]
 rw[hp];have HSt:=A0 hst;have hsn:=Y9 hst.st l.s 0 (Nat.zero_le _);rw[List.drop_zero]at hsn;have HSn:=A0 hsn;have d0:w.cell? ⟨b,0,none⟩=some (.int .i64 (l.line:Nat)):=A2 hb 0 _ rfl;have d1:w.cell? ⟨b,1,none⟩=some (.string ⟨l.s.toArray⟩):=A2 hb 1 _ rfl;have ld:=A4 hb;have D8:=fun(v:Value) (w:World)=>Dv (P:=Tryz.prog) (xT:=150) Tryz.underlying238 v w;clear hst hsn hb hp e1 e2 hk hr;unfold C5;cases hq:decide (l.s∈outer++cur)
 ·rw[hq]at HSn;go_enter Tryz.func236,Tryz.ntmps236;go_wp2_with fail
  refine HSn.o.mono ?_;rintro e w' ⟨rfl,rfl⟩;go_wp2_with fail
  refine(O7 HSt.o.st 3 l.line).mono ?_;rintro e w3 ⟨rfl,Bx,Aj⟩;have Bh:=A0 (HSt.o.next Bx Aj);have At:=A0 Aj;clear Bx Aj;go_wp2;go_end0;exact⟨rfl,Bh.o,At.o⟩
 ·rw[hq]at HSn;rw[show(!true)=false from rfl,Oy];go_enter Tryz.func236,Tryz.ntmps236;go_wp2_with fail
  refine HSn.o.mono ?_;rintro e w' ⟨rfl,rfl⟩;go_wp2;go_end0;exact⟨rfl,HSt.o,A3.refl _ _⟩
theorem Afk(K:CC)(l:A6)(c:BT A6)(hk:l.kd=8)(ih:Cx (Fx K) c):Fx K l c:=by
 intro D w outer cur bk wh inn f rc v ks hst hn hr;obtain⟨hlo,lcb,hncb⟩:=hst.lo;unfold Bo at hn;rw[if_neg (by omega)]at hn;obtain⟨b,cs,rfl,hD,hb,hl⟩:=hn;have e1:Cb l.kd=241:=by rw[hk];rfl
 have e2:De l.kd=243:=by rw[hk];rfl
 rw[e1];rw[e2]at hb;rw[Iq K.fns l c (by omega) (by omega) (by omega)];unfold Cr at hl;simp only[hk]at hl;obtain⟨a,rfl,rfl⟩:=hl;obtain⟨x1,y1,l1,c1,r1,D5,rfl,Bj,Ap,hz⟩:=hr.cons';obtain rfl:=hz.nil';rw[Ki (by omega),Jq];have HC:=A0 (ih.1 D w outer cur bk wh inn f rc a D5 hst Bj Ap);have d0:=A2 hb 0 a rfl;have ld:=A4 hb;have D8:=fun(v:Value) (w:World)=>Bc (P:=Tryz.prog) (t:=241) (T:=238) (xT:=150) (z:=.pointer none) Tryz.underlying238 (by kernel_rfl) (by decide) v w;have Dr:=fun(v:Value) (w:World)=>Bc (P:=Tryz.prog) (t:=241) (T:=301) (xT:=150) (z:=.pointer none) Tryz.underlying301 (by kernel_rfl) (by decide) v w;have Ee:=fun(v:Value) (w:World)=>Dv (P:=Tryz.prog) (xT:=150) Tryz.underlying241 v w;clear hst hb e1 e2 hk hr Bj Ap hz ih;unfold C5;go_enter Tryz.func236,Tryz.ntmps236;go_wp2_with fail
 refine HC.o.mono ?_;rintro e w1 ⟨rfl,Ah,A1⟩;have A9:=A0 Ah;have A5:=A0 A1;clear Ah A1;go_wp2;go_end0;exact⟨rfl,A9.o,A5.o⟩
theorem Agt(K:CC)(l:A6)(c:BT A6)(hk:l.kd=10)(ih:Cx (Fx K) c):Fx K l c:=by
 intro D w outer cur bk wh inn f rc v ks hst hn hr;obtain⟨hlo,lcb,hncb⟩:=hst.lo;unfold Bo at hn;rw[if_neg (by omega)]at hn;obtain⟨b,cs,rfl,hD,hb,hl⟩:=hn;have e1:Cb l.kd=304:=by rw[hk];rfl
 have e2:De l.kd=306:=by rw[hk];rfl
 rw[e1];rw[e2]at hb;rw[Iq K.fns l c (by omega) (by omega) (by omega)];unfold Cr at hl;simp only[hk]at hl;obtain⟨a,rfl,rfl⟩:=hl;obtain⟨x1,y1,l1,c1,r1,D5,rfl,Bj,Ap,hz⟩:=hr.cons';obtain rfl:=hz.nil';rw[Ki (by omega),Jq];have HC:=A0 (ih.1 D w outer cur bk wh inn f rc a D5 hst Bj Ap);have d0:=A2 hb 1 a rfl;have ld:=A4 hb;have D8:=fun(v:Value) (w:World)=>Bc (P:=Tryz.prog) (t:=304) (T:=238) (xT:=150) (z:=.pointer none) Tryz.underlying238 (by kernel_rfl) (by decide) v w;have Dr:=fun(v:Value) (w:World)=>Bc (P:=Tryz.prog) (t:=304) (T:=301) (xT:=150) (z:=.pointer none) Tryz.underlying301 (by kernel_rfl) (by decide) v w;have Ee:=fun(v:Value) (w:World)=>Bc (P:=Tryz.prog) (t:=304) (T:=241) (xT:=150) (z:=.pointer none) Tryz.underlying241 (by kernel_rfl) (by decide) v w;have F8:=fun(v:Value) (w:World)=>Bc (P:=Tryz.prog) (t:=304) (T:=296) (xT:=150) (z:=.pointer none) Tryz.underlying296 (by kernel_rfl) (by decide) v w;have G6:=fun(v:Value) (w:World)=>Dv (P:=Tryz.prog) (xT:=150) Tryz.underlying304 v w;clear hst hb e1 e2 hk hr Bj Ap hz ih;unfold C5;go_enter Tryz.func236,Tryz.ntmps236;go_wp2_with fail
 refine HC.o.mono ?_;rintro e w1 ⟨rfl,Ah,A1⟩;have A9:=A0 Ah;have A5:=A0 A1;clear Ah A1;go_wp2;go_end0;exact⟨rfl,A9.o,A5.o⟩
theorem Amw(K:CC)(l:A6)(c:BT A6)(hk:l.kd=13)(ih:Cx (Fx K) c):Fx K l c:=by
 intro D w outer cur bk wh inn f rc v ks hst hn hr;obtain⟨hlo,lcb,hncb⟩:=hst.lo;unfold Bo at hn;rw[if_neg (by omega)]at hn;obtain⟨b,cs,rfl,hD,hb,hl⟩:=hn;have e1:Cb l.kd=244:=by rw[hk];rfl
 have e2:De l.kd=246:=by rw[hk];rfl
 rw[e1];rw[e2]at hb;rw[Iq K.fns l c (by omega) (by omega) (by omega)];unfold Cr at hl;simp only[hk]at hl;obtain⟨a,rfl,rfl⟩:=hl;obtain⟨x1,y1,l1,c1,r1,D5,rfl,Bj,Ap,hz⟩:=hr.cons';obtain rfl:=hz.nil';rw[Ki (by omega),Jq];have HC:=A0 (ih.1 D w outer cur bk wh inn f rc a D5 hst Bj Ap);have d0:=A2 hb 2 a rfl;have ld:=A4 hb;have D8:=fun(v:Value) (w:World)=>Bc (P:=Tryz.prog) (t:=244) (T:=238) (xT:=150) (z:=.pointer none) Tryz.underlying238 (by kernel_rfl) (by decide) v w;have Dr:=fun(v:Value) (w:World)=>Bc (P:=Tryz.prog) (t:=244) (T:=301) (xT:=150) (z:=.pointer none) Tryz.underlying301 (by kernel_rfl) (by decide) v w;have Ee:=fun(v:Value) (w:World)=>Bc (P:=Tryz.prog) (t:=244) (T:=241) (xT:=150) (z:=.pointer none) Tryz.underlying241 (by kernel_rfl) (by decide) v w;have F8:=fun(v:Value) (w:World)=>Bc (P:=Tryz.prog) (t:=244) (T:=296) (xT:=150) (z:=.pointer none) Tryz.underlying296 (by kernel_rfl) (by decide) v w;have G6:=fun(v:Value) (w:World)=>Bc (P:=Tryz.prog) (t:=244) (T:=304) (xT:=150) (z:=.pointer none) Tryz.underlying304 (by kernel_rfl) (by decide) v w;have He:=fun(v:Value) (w:World)=>Bc (P:=Tryz.prog) (t:=244) (T:=307) (xT:=150) (z:=.pointer none) Tryz.underlying307 (by kernel_rfl) (by decide) v w;have Iw:=fun(v:Value) (w:World)=>Bc (P:=Tryz.prog) (t:=244) (T:=310) (xT:=150) (z:=.pointer none) Tryz.underlying310 (by kernel_rfl) (by decide) v w;have ta7:=fun(v:Value) (w:World)=>Dv (P:=Tryz.prog) (xT:=150) Tryz.underlying244 v w;clear hst hb e1 e2 hk hr Bj Ap hz ih;unfold C5;go_enter Tryz.func236,Tryz.ntmps236;go_wp2_with fail
 refine HC.o.mono ?_;rintro e w1 ⟨rfl,Ah,A1⟩;have A9:=A0 Ah;have A5:=A0 A1;clear Ah A1;go_wp2;go_end0;exact⟨rfl,A9.o,A5.o⟩
theorem A5b(K:CC)(l:A6)(c:BT A6)(hk:l.kd=14)(ih:Cx (Fx K) c):Fx K l c:=by
 intro D w outer cur bk wh inn f rc v ks hst hn hr;obtain⟨hlo,lcb,hncb⟩:=hst.lo;unfold Bo at hn;rw[if_neg (by omega)]at hn;obtain⟨b,cs,rfl,hD,hb,hl⟩:=hn;have e1:Cb l.kd=244:=by rw[hk];rfl
 have e2:De l.kd=246:=by rw[hk];rfl
 rw[e1];rw[e2]at hb;rw[Iq K.fns l c (by omega) (by omega) (by omega)];unfold Cr at hl;simp only[hk]at hl;obtain⟨a,rfl,rfl⟩:=hl;obtain⟨x1,y1,l1,c1,r1,D5,rfl,Bj,Ap,hz⟩:=hr.cons';obtain rfl:=hz.nil';rw[Ki (by omega),Jq];have HC:=A0 (ih.1 D w outer cur bk wh inn f rc a D5 hst Bj Ap);have d0:=A2 hb 2 a rfl;have ld:=A4 hb;have D8:=fun(v:Value) (w:World)=>Bc (P:=Tryz.prog) (t:=244) (T:=238) (xT:=150) (z:=.pointer none) Tryz.underlying238 (by kernel_rfl) (by decide) v w;have Dr:=fun(v:Value) (w:World)=>Bc (P:=Tryz.prog) (t:=244) (T:=301) (xT:=150) (z:=.pointer none) Tryz.underlying301 (by kernel_rfl) (by decide) v w;have Ee:=fun(v:Value) (w:World)=>Bc (P:=Tryz.prog) (t:=244) (T:=241) (xT:=150) (z:=.pointer none) Tryz.underlying241 (by kernel_rfl) (by decide) v w;have F8:=fun(v:Value) (w:World)=>Bc (P:=Tryz.prog) (t:=244) (T:=296) (xT:=150) (z:=.pointer none) Tryz.underlying296 (by kernel_rfl) (by decide) v w;have G6:=fun(v:Value) (w:World)=>Bc (P:=Tryz.prog) (t:=244) (T:=304) (xT:=150) (z:=.pointer none) Tryz.underlying304 (by kernel_rfl) (by decide) v w;have He:=fun(v:Value) (w:World)=>Bc (P:=Tryz.prog) (t:=244) (T:=307) (xT:=150) (z:=.pointer none) Tryz.underlying307 (by kernel_rfl) (by decide) v w;have Iw:=fun(v:Value) (w:World)=>Bc (P:=Tryz.prog) (t:=244) (T:=310) (xT:=150) (z:=.pointer none) Tryz.underlying310 (by kernel_rfl) (by decide) v w;have ta7:=fun(v:Value) (w:World)=>Dv (P:=Tryz.prog) (xT:=150) Tryz.underlying244 v w;clear hst hb e1 e2 hk hr Bj Ap hz ih;unfold C5;go_enter Tryz.func236,Tryz.ntmps236;go_wp2_with fail
 refine HC.o.mono ?_;rintro e w1 ⟨rfl,Ah,A1⟩;have A9:=A0 Ah;have A5:=A0 A1;clear Ah A1;go_wp2;go_end0;exact⟨rfl,A9.o,A5.o⟩
theorem Aiu(K:CC)(l:A6)(c:BT A6)(hk:l.kd=11)(ih:Cx (Fx K) c)(hwf:Wf 0 c):Fx K l c:=by
 intro D w outer cur bk wh inn f rc v ks hst hn hr;obtain⟨hlo,lcb,hncb⟩:=hst.lo;unfold Bo at hn;rw[if_neg (by omega)]at hn;obtain⟨b,cs,rfl,hD,hb,hl⟩:=hn;have e1:Cb l.kd=307:=by rw[hk];rfl
 have e2:De l.kd=309:=by rw[hk];rfl
 rw[e1];rw[e2]at hb;rw[Iq K.fns l c (by omega) (by omega) (by omega)];unfold Cr at hl;simp only[hk]at hl;obtain⟨a1,a2,rfl,rfl⟩:=hl;obtain⟨x1,y1,l1,c1,r1,D5,rfl,Bj,Ap,hz⟩:=hr.cons';obtain⟨x2,y2,l2,c2,r2,Gk,rfl,Dh,B0,By⟩:=hz.cons';obtain rfl:=By.nil';have hc0:=Kc K.fns _ hwf.Ph outer cur wh inn f;rw[Ki (by omega),sens_xy',hc0,Jq];have HC:=A0 (ih.1 D w outer cur bk wh inn f rc a1 D5 hst Bj Ap);have F2:=A0 (fun W g (hs:K.St D W (outer++cur) bk wh inn g rc) (hbd:A3 D w W)=>ih.2.1 D W outer cur bk wh inn g rc a2 Gk hs (Dh.Bn hbd) (B0.Bn hbd));have d0:=A2 hb 1 a1 rfl;have ld:=A4 hb;have HBk:=A0 hb;have D8:=fun(v:Value) (w:World)=>Bc (P:=Tryz.prog) (t:=307) (T:=238) (xT:=150) (z:=.pointer none) Tryz.underlying238 (by kernel_rfl) (by decide) v w;have Dr:=fun(v:Value) (w:World)=>Bc (P:=Tryz.prog) (t:=307) (T:=301) (xT:=150) (z:=.pointer none) Tryz.underlying301 (by kernel_rfl) (by decide) v w;have Ee:=fun(v:Value) (w:World)=>Bc (P:=Tryz.prog) (t:=307) (T:=241) (xT:=150) (z:=.pointer none) Tryz.underlying241 (by kernel_rfl) (by decide) v w;have F8:=fun(v:Value) (w:World)=>Bc (P:=Tryz.prog) (t:=307) (T:=296) (xT:=150) (z:=.pointer none) Tryz.underlying296 (by kernel_rfl) (by decide) v w;have G6:=fun(v:Value) (w:World)=>Bc (P:=Tryz.prog) (t:=307) (T:=304) (xT:=150) (z:=.pointer none) Tryz.underlying304 (by kernel_rfl) (by decide) v w;have He:=fun(v:Value) (w:World)=>Dv (P:=Tryz.prog) (xT:=150) Tryz.underlying307 v w;clear hst hb e1 e2 hk hr Bj Ap hz ih hwf hc0 Dh B0 By;unfold C5;go_enter Tryz.func236,Tryz.ntmps236;go_wp2_with fail
 refine HC.o.mono ?_;rintro e w1 ⟨rfl,Ah,A1⟩;have A9:=A0 Ah;have A5:=A0 A1;have Bm:=(A1.block b hD).trans HBk.o;have d1:=A2 Bm 2 a2 rfl;have ld1:=A4 Bm;clear Ah A1 d0 ld Bm;go_wp2_with fail
 refine(F2.o _ _ A9.o A5.o).mono ?_;rintro e w2 ⟨rfl,Au,A8⟩;have Ak:=A0 Au;have Aa:Hid (A3 D w w2):=A5.o.trans A8;clear Au A8;go_wp2;go_end0;exact⟨rfl,Ak.o,Aa.o⟩
theorem A0j(K:CC)(l:A6)(c:BT A6)(hk:l.kd=12)(ih:Cx (Fx K) c)(hwf:Wf 0 c):Fx K l c:=by
 intro D w outer cur bk wh inn f rc v ks hst hn hr;obtain⟨hlo,lcb,hncb⟩:=hst.lo;unfold Bo at hn;rw[if_neg (by omega)]at hn;obtain⟨b,cs,rfl,hD,hb,hl⟩:=hn;have e1:Cb l.kd=310:=by rw[hk];rfl
 have e2:De l.kd=312:=by rw[hk];rfl
 rw[e1];rw[e2]at hb;rw[Iq K.fns l c (by omega) (by omega) (by omega)];unfold Cr at hl;simp only[hk]at hl;obtain⟨a1,a2,rfl,rfl⟩:=hl;obtain⟨x1,y1,l1,c1,r1,D5,rfl,Bj,Ap,hz⟩:=hr.cons';obtain⟨x2,y2,l2,c2,r2,Gk,rfl,Dh,B0,By⟩:=hz.cons';obtain rfl:=By.nil';have hc0:=Kc K.fns _ hwf.Ph outer cur wh inn f;rw[Ki (by omega),sens_xy',hc0,Jq];have HC:=A0 (ih.1 D w outer cur bk wh inn f rc a1 D5 hst Bj Ap);have F2:=A0 (fun W g (hs:K.St D W (outer++cur) bk wh inn g rc) (hbd:A3 D w W)=>ih.2.1 D W outer cur bk wh inn g rc a2 Gk hs (Dh.Bn hbd) (B0.Bn hbd));have d0:=A2 hb 1 a1 rfl;have ld:=A4 hb;have HBk:=A0 hb;have D8:=fun(v:Value) (w:World)=>Bc (P:=Tryz.prog) (t:=310) (T:=238) (xT:=150) (z:=.pointer none) Tryz.underlying238 (by kernel_rfl) (by decide) v w;have Dr:=fun(v:Value) (w:World)=>Bc (P:=Tryz.prog) (t:=310) (T:=301) (xT:=150) (z:=.pointer none) Tryz.underlying301 (by kernel_rfl) (by decide) v w;have Ee:=fun(v:Value) (w:World)=>Bc (P:=Tryz.prog) (t:=310) (T:=241) (xT:=150) (z:=.pointer none) Tryz.underlying241 (by kernel_rfl) (by decide) v w;have F8:=fun(v:Value) (w:World)=>Bc (P:=Tryz.prog) (t:=310) (T:=296) (xT:=150) (z:=.pointer none) Tryz.underlying296 (by kernel_rfl) (by decide) v w;have G6:=fun(v:Value) (w:World)=>Bc (P:=Tryz.prog) (t:=310) (T:=304) (xT:=150) (z:=.pointer none) Tryz.underlying304 (by kernel_rfl) (by decide) v w;have He:=fun(v:Value) (w:World)=>Bc (P:=Tryz.prog) (t:=310) (T:=307) (xT:=150) (z:=.pointer none) Tryz.underlying307 (by kernel_rfl) (by decide) v w;have Iw:=fun(v:Value) (w:World)=>Dv (P:=Tryz.prog) (xT:=150) Tryz.underlying310 v w;clear hst hb e1 e2 hk hr Bj Ap hz ih hwf hc0 Dh B0 By;unfold C5;go_enter Tryz.func236,Tryz.ntmps236;go_wp2_with fail
 refine HC.o.mono ?_;rintro e w1 ⟨rfl,Ah,A1⟩;have A9:=A0 Ah;have A5:=A0 A1;have Bm:=(A1.block b hD).trans HBk.o;have d1:=A2 Bm 2 a2 rfl;have ld1:=A4 Bm;clear Ah A1 d0 ld Bm;go_wp2_with fail
 refine(F2.o _ _ A9.o A5.o).mono ?_;rintro e w2 ⟨rfl,Au,A8⟩;have Ak:=A0 Au;have Aa:Hid (A3 D w w2):=A5.o.trans A8;clear Au A8;go_wp2;go_end0;exact⟨rfl,Ak.o,Aa.o⟩
theorem Nc{w:World}{base:Nat}{e:TypeId}{size:Nat}{v:Value}{n:Nat}{xs:List Value}(h:w.ownsRow base e size v n xs):∃a n c,v=.slice a n c:=by
 rcases h.2 with⟨rfl,_⟩|⟨g,cap,cur,rfl,_⟩
 ·exact⟨_,_,_,rfl⟩
 ·exact⟨_,_,_,rfl⟩
theorem Aae(K:CC)(l:A6)(c:BT A6)(hk:l.kd=9)(ih:Cx (Fx K) c)(hwf:Wf 0 c)(hsz:Ar c<=500000):Fx K l c:=by
 intro D w outer cur bk wh inn f rc v ks hst hn hr;obtain⟨hlo,lcb,hncb⟩:=hst.lo;unfold Bo at hn;rw[if_neg (by omega)]at hn;obtain⟨b,cs,rfl,hD,hb,hl⟩:=hn;have e1:Cb l.kd=296:=by rw[hk];rfl
 have e2:De l.kd=300:=by rw[hk];rfl
 rw[e1];rw[e2]at hb;rw[Iq K.fns l c (by omega) (by omega) (by omega)];unfold Cr at hl;simp only[hk]at hl;obtain⟨sl,rfl,ho⟩:=hl;rw[Ki (by omega)];obtain⟨va,vn,vc,rfl⟩:∃va vn vc,sl=.slice va vn vc:=Nc ho.1;have HC:=A0 (X6 K c ih hwf D w outer cur bk wh inn f rc va vn vc ks hst ho hr (by rw[hr.len];exact hsz));have d0:=A2 hb 1 _ rfl;have ld:=A4 hb;have D8:=fun(v:Value) (w:World)=>Bc (P:=Tryz.prog) (t:=296) (T:=238) (xT:=150) (z:=.pointer none) Tryz.underlying238 (by kernel_rfl) (by decide) v w;have Dr:=fun(v:Value) (w:World)=>Bc (P:=Tryz.prog) (t:=296) (T:=301) (xT:=150) (z:=.pointer none) Tryz.underlying301 (by kernel_rfl) (by decide) v w;have Ee:=fun(v:Value) (w:World)=>Bc (P:=Tryz.prog) (t:=296) (T:=241) (xT:=150) (z:=.pointer none) Tryz.underlying241 (by kernel_rfl) (by decide) v w;have F8:=fun(v:Value) (w:World)=>Dv (P:=Tryz.prog) (xT:=150) Tryz.underlying296 v w;clear hst hb e1 e2 hk hr ih hwf ho;unfold C5;go_enter Tryz.func236,Tryz.ntmps236;go_wp2_with fail
 refine HC.o.mono ?_;rintro e w1 ⟨rfl,Ah,A1⟩;have A9:=A0 Ah;have A5:=A0 A1;clear Ah A1;go_wp2;go_end0;exact⟨rfl,A9.o,A5.o⟩
theorem Aep(K:CC)(l:A6)(c:BT A6)(hk:l.kd=7)(ih:Cx (Fx K) c)(hwf:Wf 0 c)(hsz:Ar c<=500000):Fx K l c:=by
 intro D w outer cur bk wh inn f rc v ks hst hn hr;obtain⟨hlo,lcb,hncb⟩:=hst.lo;unfold Bo at hn;rw[if_neg (by omega)]at hn;obtain⟨b,cs,rfl,hD,hb,hl⟩:=hn;have e1:Cb l.kd=301:=by rw[hk];rfl
 have e2:De l.kd=303:=by rw[hk];rfl
 rw[e1];rw[e2]at hb;rw[Iq K.fns l c (by omega) (by omega) (by omega)];unfold Cr at hl;simp only[hk]at hl;obtain⟨sl,rfl,ho⟩:=hl;have hp:K7 K.fns l (Ar c) outer cur wh inn f=E2 (Nn K.fns l.s (Ar c)) 3 l.line f:=by unfold K7;rw[if_neg (by omega),if_pos hk]
 rw[hp];obtain⟨va,vn,vc,rfl⟩:∃va vn vc,sl=.slice va vn vc:=Nc ho.1;have HC:=A0 (Ach K c ih hwf l.line l.s D w outer cur bk wh inn f rc b va vn vc ks hst hD hb ho hr (by rw[hr.len];exact hsz));have ld:=A4 hb;have D8:=fun(v:Value) (w:World)=>Bc (P:=Tryz.prog) (t:=301) (T:=238) (xT:=150) (z:=.pointer none) Tryz.underlying238 (by kernel_rfl) (by decide) v w;have Dr:=fun(v:Value) (w:World)=>Dv (P:=Tryz.prog) (xT:=150) Tryz.underlying301 v w;clear hst hb e1 e2 hk hr ih hwf ho hp;unfold C5;go_enter Tryz.func236,Tryz.ntmps236;go_wp2_with fail
 refine HC.o.mono ?_;rintro e w1 ⟨rfl,Ah,A1⟩;have A9:=A0 Ah;have A5:=A0 A1;clear Ah A1;go_wp2;go_end0;exact⟨rfl,A9.o,A5.o⟩
theorem bin_lay'{D:Nat->Prop}{w:World}{l:A6}{cs:Array Value}{ks:List Value}(hk:127<=l.kd/\l.kd<=140)(h:Cr D w l cs ks):∃a b,cs=#[Gc l.line,.int .i64 ((l.kd-100:Nat):Nat),a,b]/\ks=[a,b]:=by
 have h14:l.kd=127\/l.kd=128\/l.kd=129\/l.kd=130\/l.kd=131\/l.kd=132\/l.kd=133\/l.kd=134\/l.kd=135\/l.kd=136\/l.kd=137\/l.kd=138\/l.kd=139\/l.kd=140:=by omega
 unfold Cr at h;rcases h14 with e|e|e|e|e|e|e|e|e|e|e|e|e|e <;> (simp only[e]at h ⊢;exact h)
theorem bin_ty'{kd:Nat}(hk:127<=kd/\kd<=140):Cb kd=248/\De kd=295:=by
 have h14:kd=127\/kd=128\/kd=129\/kd=130\/kd=131\/kd=132\/kd=133\/kd=134\/kd=135\/kd=136\/kd=137\/kd=138\/kd=139\/kd=140:=by omega
 rcases h14 with e|e|e|e|e|e|e|e|e|e|e|e|e|e <;> (subst e;exact⟨rfl,rfl⟩)
theorem Adc(K:CC)(l:A6)(c:BT A6)(hk:127<=l.kd/\l.kd<=140)(ih:Cx (Fx K) c)(hwf:Wf 0 c):Fx K l c:=by
 intro D w outer cur bk wh inn f rc v ks hst hn hr;obtain⟨hlo,lcb,hncb⟩:=hst.lo;unfold Bo at hn;rw[if_neg (by omega)]at hn;obtain⟨b,cs,rfl,hD,hb,hl⟩:=hn;obtain⟨e1,e2⟩:=bin_ty' hk;rw[e1];rw[e2]at hb;rw[Iq K.fns l c (by omega) (by omega) (by omega)];replace hl:=bin_lay' hk hl;obtain⟨a1,a2,rfl,rfl⟩:=hl;obtain⟨x1,y1,l1,c1,r1,D5,rfl,Bj,Ap,hz⟩:=hr.cons';obtain⟨x2,y2,l2,c2,r2,Gk,rfl,Dh,B0,By⟩:=hz.cons';obtain rfl:=By.nil';have hc0:=Kc K.fns _ hwf.Ph outer cur wh inn f;rw[Ki (by omega),sens_xy',hc0,Jq];have HC:=A0 (ih.1 D w outer cur bk wh inn f rc a1 D5 hst Bj Ap);have F2:=A0 (fun W g (hs:K.St D W (outer++cur) bk wh inn g rc) (hbd:A3 D w W)=>ih.2.1 D W outer cur bk wh inn g rc a2 Gk hs (Dh.Bn hbd) (B0.Bn hbd));have d0:=A2 hb 2 a1 rfl;have ld:=A4 hb;have HBk:=A0 hb;have D8:=fun(v:Value) (w:World)=>Bc (P:=Tryz.prog) (t:=248) (T:=238) (xT:=150) (z:=.pointer none) Tryz.underlying238 (by kernel_rfl) (by decide) v w;have Dr:=fun(v:Value) (w:World)=>Bc (P:=Tryz.prog) (t:=248) (T:=301) (xT:=150) (z:=.pointer none) Tryz.underlying301 (by kernel_rfl) (by decide) v w;have Ee:=fun(v:Value) (w:World)=>Bc (P:=Tryz.prog) (t:=248) (T:=241) (xT:=150) (z:=.pointer none) Tryz.underlying241 (by kernel_rfl) (by decide) v w;have F8:=fun(v:Value) (w:World)=>Bc (P:=Tryz.prog) (t:=248) (T:=296) (xT:=150) (z:=.pointer none) Tryz.underlying296 (by kernel_rfl) (by decide) v w;have G6:=fun(v:Value) (w:World)=>Bc (P:=Tryz.prog) (t:=248) (T:=304) (xT:=150) (z:=.pointer none) Tryz.underlying304 (by kernel_rfl) (by decide) v w;have He:=fun(v:Value) (w:World)=>Bc (P:=Tryz.prog) (t:=248) (T:=307) (xT:=150) (z:=.pointer none) Tryz.underlying307 (by kernel_rfl) (by decide) v w;have Iw:=fun(v:Value) (w:World)=>Bc (P:=Tryz.prog) (t:=248) (T:=310) (xT:=150) (z:=.pointer none) Tryz.underlying310 (by kernel_rfl) (by decide) v w;have ta7:=fun(v:Value) (w:World)=>Bc (P:=Tryz.prog) (t:=248) (T:=244) (xT:=150) (z:=.pointer none) Tryz.underlying244 (by kernel_rfl) (by decide) v w;have ta8:=fun(v:Value) (w:World)=>Dv (P:=Tryz.prog) (xT:=150) Tryz.underlying248 v w;clear hst hb e1 e2 hk hr Bj Ap hz ih hwf hc0 Dh B0 By;unfold C5;go_enter Tryz.func236,Tryz.ntmps236;go_wp2_with fail
 refine HC.o.mono ?_;rintro e w1 ⟨rfl,Ah,A1⟩;have A9:=A0 Ah;have A5:=A0 A1;have Bm:=(A1.block b hD).trans HBk.o;have d1:=A2 Bm 3 a2 rfl;have ld1:=A4 Bm;clear Ah A1 d0 ld Bm;go_wp2_with fail
 refine(F2.o _ _ A9.o A5.o).mono ?_;rintro e w2 ⟨rfl,Au,A8⟩;have Ak:=A0 Au;have Aa:Hid (A3 D w w2):=A5.o.trans A8;clear Au A8;go_wp2;go_end0;exact⟨rfl,Ak.o,Aa.o⟩
theorem Alo{kd:Nat}(h:Il kd=true):(kd=1\/kd=2\/kd=3\/kd=4\/kd=5)\/kd=6\/kd=7\/kd=8\/kd=9\/kd=10\/kd=11\/kd=12\/kd=13\/kd=14\/(127<=kd/\kd<=140):=by
 unfold Il at h;simp only[Bool.or_eq_true,Bool.and_eq_true,decide_eq_true_eq]at h;omega
theorem Wf.exs{x y:Nat}{l:A6}{c r:BT A6}(h:Wf 0 (.node x y l c r)):Il l.kd=true/\Wf 0 c/\Wf 0 r:=by
 rcases h.2 with⟨_,h1,h2⟩|⟨h1,_⟩|⟨h1,_⟩|⟨h1,_⟩|⟨h1,_⟩|⟨h1,_⟩|⟨h1,_⟩
 ·exact⟨h1,h2,h.1⟩
 all_goals omega
theorem Uq(K:CC):∀f:BT A6,Wf 0 f->bsize f<=500000->Cx (Fx K) f:=by
 intro f;induction f with
 | nil=>intro _ _;trivial
 | node x y l c r Dm Cw=>
  intro h hs;obtain⟨h1,h2,h3⟩:=h.exs;rw[bsize]at hs;have ih:=Dm h2 (by omega);have hl:=N4 c;refine⟨?_,Cw h3 (by omega)⟩;rcases Alo h1 with e|e|e|e|e|e|e|e|e|e|e
  ·exact A8v K l c e
  ·exact A2k K l c e
  ·exact Aep K l c e ih h2 (by omega)
  ·exact Afk K l c e ih
  ·exact Aae K l c e ih h2 (by omega)
  ·exact Agt K l c e ih
  ·exact Aiu K l c e ih h2
  ·exact A0j K l c e ih h2
  ·exact Amw K l c e ih
  ·exact A5b K l c e ih
  ·exact Adc K l c e ih h2
theorem Bo.isIface{D:Nat->Prop}{w:World}{l:A6}{v:Value}{ks:List Value}(h:Bo D w l v ks)(h1:l.kd≠31)(h2:l.kd≠32):∃t x,v=.iface t x:=by
 unfold Bo at h;rw[if_neg (by omega)]at h;obtain⟨b,cs,e,_⟩:=h;exact⟨_,_,e⟩
theorem Ob{kd:Nat}(h:Il kd=true):kd≠31/\kd≠32/\kd≠21:=by
 unfold Il at h;simp only[Bool.or_eq_true,Bool.and_eq_true,decide_eq_true_eq]at h;omega
def K3(K:CC)(l:A6)(c:BT A6):Prop:=∀(D:Nat->Prop) (w:World) (outer cur:List Nm) (bl:List Nat) (wh:Nat) (inn:Bool) (f:Cn) (rc:Nat) (v:Value) (ks:List Value),
 K.St D w (outer++cur) (bl++[outer.length]) wh inn f rc->Bo D w l v ks->Al D w c ks->(outer++cur).length+bsize (nd l c)<=700000->bl.length+bsize (nd l c)<=700000->wh+bsize (nd l c)<=700000->
 Calls Tryz.prog 192 #[.pointer (some ⟨K.cb,0,none⟩),v] w fun e w'=>e=.returned (.tuple #[])/\K.St D w' (outer++(Bp K.fns (nd l c) outer cur wh inn f).1) (bl++[outer.length]) wh inn (Bp K.fns (nd l c) outer cur wh inn f).2 rc/\A3 D w w'
theorem Z3(K:CC)(c:BT A6)(hok:Cx (K3 K) c)(D:Nat->Prop)(w:World)(outer cur:List Nm)(bl:List Nat)(wh:Nat)(inn:Bool)(f:Cn)(rc:Nat)(va:Option Addr)(vn vc:Nat)(ks:List Value)
  (hst:K.St D w (outer++cur) (bl++[outer.length]) wh inn f rc) (hown:Co D w 142 1 (.slice va vn vc) ks.length ks) (hrep:Al D w c ks) (A1:(outer++cur).length+bsize c<=700000) (A8:bl.length+bsize c<=700000) (Aj:wh+bsize c<=700000) :
  Calls Tryz.prog 134 #[.pointer (some ⟨K.cb,0,none⟩),.slice va vn vc] w fun e w'=>e=.returned (.tuple #[])/\K.St D w' (outer++(Bp K.fns c outer cur wh inn f).1) (bl++[outer.length]) wh inn (Bp K.fns c outer cur wh inn f).2 rc/\A3 D w w':=by
 have hvn:vn=ks.length:=(C8 hown.1).1;subst hvn;have HSt0:=A0 hst;have HOwn:=A0 hown;have HRep:=A0 hrep;have hlen:=hrep.len;have HLen:=A0 hlen;have hls:=N4 c;have hkl:ks.length<=700000:=by omega
 rw[List.length_append]at A1;clear hst hown hrep hlen;go_enter Tryz.func134,Tryz.ntmps134;go_wp2;go_loopg [8] ks.length (fun k v wr=>∃(i:Nat) (cn:List Nm) (fl:Cn),v=.int .i64 i/\i+k=ks.length/\cn.length+bsize (C3 i c)<=cur.length+bsize c/\K.St D wr (outer++cn) (bl++[outer.length]) wh inn fl rc/\Bp K.fns (C3 i c) outer cn wh inn fl=Bp K.fns c outer cur wh inn f/\A3 D w wr)
 case atStart=>exact⟨0,cur,f,rfl,by omega,by rw[show C3 0 c=c from by cases c <;> rfl];exact Nat.le_refl _,HSt0.o,rfl,A3.refl _ _⟩
 case round=>
  clear HSt0;obtain⟨i,cn,fl,rfl,hik,hcn,hst,hse,hbel⟩:=hrel;have HSt:=A0 hst;have HSe:=A0 hse;have HBel:=A0 hbel;clear hst hse hbel;by_cases hlt:i<ks.length
  ·have hr:=HRep.o.Bn HBel.o;obtain⟨x,y,l,cc,r,hd,v,ks',hv,hn,hrk⟩:=Al.at' i c ks hr (by rw[←HLen.o];exact hlt);obtain⟨g,rfl,_,hcap,lg,hcell⟩:=Gj (HOwn.o.Bn HBel.o).1 (by omega);have d0:=hcell i v hv;have hE:=A0 (hok.at' i c x y l cc r hd);have Ah:=sens_xy' K.fns x y l cc r outer cn wh inn fl;have hdn:=Uh i c;have hsz:bsize (C3 i c)=bsize (nd l cc)+bsize r:=by rw[hd,Cd,bsize]
   have hcl:=x8 K.fns (nd l cc) outer cn wh inn fl;have hds:=Nu i c x y l cc r hd;have HNx:Hid (Bp K.fns (C3 (i+1) c) outer (Bp K.fns (nd l cc) outer cn wh inn fl).1 wh inn (Bp K.fns (nd l cc) outer cn wh inn fl).2=Bp K.fns c outer cur wh inn f):=by
    show _=_;rw[hds,←HSe.o,hd,Ah]
   have HDs:=A0 hds;have HC:=A0 (hE.out D wr outer cn bl wh inn fl rc v ks' HSt.o hn hrk (by rw[List.length_append];omega) (by omega) (by omega));clear hr hd hv hn hrk hcell Ah hds;go_wp2_with fail
   refine HC.o.mono ?_;rintro e w1 ⟨rfl,Ah,A1⟩;have A9:=A0 Ah;have A5:Hid (A3 D w w1):=HBel.o.trans A1;clear Ah A1;go_wp2;go_roundg (gk-1)
   case measure=>omega
   case rel=>exact⟨i+1,_,_,rfl,by omega,by rw[HDs.o];omega,A9.o,HNx.o,A5.o⟩
  ·have HE:Hid ((cn,fl)=Bp K.fns c outer cur wh inn f):=by
    have h0:C3 i c=.nil:=by
     have:Ar (C3 i c)=0:=by rw[Ok,←HLen.o];omega
     cases hd:C3 i c with
     | nil=>rfl
     | node x y l c r=>rw[hd]at this;simp[Ar]at this
    have:=HSe.o;rw[h0]at this;exact this
   go_wp2;go_end0;rw[←HE.o];exact⟨rfl,HSt.o,HBel.o⟩
theorem Qf(K:CC)(c:BT A6)(hok:Cx (K3 K) c)(D:Nat->Prop)(w:World)(ns:List Nm)(bk:List Nat)(wh:Nat)(inn:Bool)(f:Cn)(rc:Nat)(va:Option Addr)(vn vc:Nat)(ks:List Value)
  (hst:K.St D w ns bk wh inn f rc) (hown:Co D w 142 1 (.slice va vn vc) ks.length ks) (hrep:Al D w c ks) (A1:ns.length+bsize c<=700000) (A8:bk.length+bsize c<=700000) (Aj:wh+bsize c<=700000) :
  Calls Tryz.prog 80 #[.pointer (some ⟨K.cb,0,none⟩),.slice va vn vc] w fun e w'=>e=.returned (.tuple #[])/\K.St D w' ns bk wh inn (Bp K.fns c ns [] wh inn f).2 rc/\A3 D w w':=by
 have HO:=A0 (Rg hst.st (by omega));have HSt:=A0 hst;have HRun:=A0 (fun(W:World) (hs:K.St D W (ns++[]) (bk++[ns.length]) wh inn f rc) (hbd:A3 D w W)=>Z3 K c hok D W ns [] bk wh inn f rc va vn vc ks hs (hown.Bn hbd) (hrep.Bn hbd) (by simpa using A1) A8 Aj);clear hst hown hrep;go_enter Tryz.func80,Tryz.ntmps80;go_wp2_with fail
 refine HO.o.mono ?_;rintro e w1 ⟨rfl,Ah,A1⟩;have A9:=A0 (HSt.o.next Ah A1);have A5:=A0 A1;clear Ah A1;go_wp2_with fail
 refine(HRun.o _ (by rw[List.append_nil];exact A9.o) A5.o).mono ?_;rintro e w2 ⟨rfl,Au,A8⟩;have Ak:=A0 Au;have Aa:Hid (A3 D w w2):=A5.o.trans A8;clear Au A8;go_wp2_with fail
 refine(Tm Ak.o.st (by simp)).mono ?_;rintro e w3 ⟨rfl,Bx,Aj⟩;rw[List.take_left]at Bx;have Bh:=A0 (Ak.o.next Bx Aj);have At:Hid (A3 D w w3):=Aa.o.trans Aj;clear Bx Aj;go_wp2;go_end0;exact⟨rfl,Bh.o,At.o⟩
theorem An5(K:CC)(l:A6)(c:BT A6)(ih:Cx (Fx K) c)(hwf:Wf 0 c)(D:Nat->Prop)(w:World)(outer cur:List Nm)(bk:List Nat)(wh:Nat)(inn:Bool)(f:Cn)(rc:Nat)(b:Nat)(a:Value)(ks:List Value)
  (hst:K.St D w (outer++cur) bk wh inn f rc) (hD:D b) (hblk:w.heap[b]?=some (.cells #[.int .i64 (l.line:Nat),a] 318 (0,0))) (hks:(ks=[]/\a=.nilIface)\/ks=[a]) (hrep:Al D w c ks) :
  Calls Tryz.prog 239 #[.pointer (some ⟨K.cb,0,none⟩),.pointer (some ⟨b,0,none⟩)] w fun e w'=>e=.returned (.tuple #[])/\K.St D w' (outer++cur) bk wh inn (Bp K.fns c outer cur wh inn (E2 (!inn) 4 l.line f)).2 rc/\A3 D w w':=by
 obtain⟨hlo,lcb,hncb⟩:=hst.lo;have HSt:=A0 hst;have HBlk:=A0 hblk;obtain⟨na,nn,nc,ba,bn,bc,la,ln,lc,ls,hv⟩:=hst.st;obtain⟨c0,c1,c2,c3,c4,c5,c6,c7,fz,lb⟩:=N6 hv.cell;have d0:=A2 hblk 0 _ rfl;have d1:=A2 hblk 1 _ rfl;have ld:=A4 hblk;clear hst hblk hv c0 c1 c2 c3 c4 c6 c7 fz;rcases hks with⟨rfl,rfl⟩|rfl
 ·rw[hrep.nil',Bp];clear hrep;cases inn
  ·go_enter Tryz.func239,Tryz.ntmps239;go_wp2_with fail
   refine(O7 HSt.o.st 4 l.line).mono ?_;rintro e w3 ⟨rfl,Bx,Aj⟩;have Bh:=A0 (HSt.o.next Bx Aj);have At:=A0 Aj;have Eg:=(Aj.block b hD).trans HBlk.o;clear Bx Aj d0 d1 ld c5;have d1:=A2 Eg 1 _ rfl;have ld:=A4 Eg;clear Eg;go_wp2;go_end0;exact⟨rfl,Bh.o,At.o⟩
  ·rw[show(!true)=false from rfl,Oy];go_enter Tryz.func239,Tryz.ntmps239;go_wp2;go_end0;exact⟨rfl,HSt.o,A3.refl _ _⟩
 ·obtain⟨x1,y1,l1,c1,r1,D5,rfl,Bj,Ap,hz⟩:=hrep.cons';obtain rfl:=hz.nil';rw[Jq];have hif:∃t x,a=.iface t x:=Bj.isIface (Ob hwf.exs.1).1 (Ob hwf.exs.1).2.1;obtain⟨t,x,rfl⟩:=hif;have HC:=A0 (fun W g (hs:K.St D W (outer++cur) bk wh inn g rc) (hbd:A3 D w W)=>ih.1 D W outer cur bk wh inn g rc (.iface t x) D5 hs (Bj.Bn hbd) (Ap.Bn hbd));clear hrep Bj Ap hz ih hwf;cases inn
  ·go_enter Tryz.func239,Tryz.ntmps239;go_wp2_with fail
   refine(O7 HSt.o.st 4 l.line).mono ?_;rintro e w3 ⟨rfl,Bx,Aj⟩;have Bh:=A0 (HSt.o.next Bx Aj);have At:=A0 Aj;have Eg:=(Aj.block b hD).trans HBlk.o;clear Bx Aj d0 d1 ld c5;have d1:=A2 Eg 1 _ rfl;have ld:=A4 Eg;clear Eg;go_wp2_with fail
   refine(HC.o _ _ Bh.o At.o).mono ?_;rintro e w4 ⟨rfl,F6,B4⟩;have Ep:=A0 F6;have Ci:Hid (A3 D w w4):=At.o.trans B4;clear F6 B4;go_wp2;go_end0;exact⟨rfl,Ep.o,Ci.o⟩
  ·rw[show(!true)=false from rfl,Oy];go_enter Tryz.func239,Tryz.ntmps239;go_wp2_with fail
   refine(HC.o _ _ HSt.o (A3.refl _ _)).mono ?_;rintro e w4 ⟨rfl,F6,B4⟩;have Ep:=A0 F6;have Ci:=A0 B4;clear F6 B4;go_wp2;go_end0;exact⟨rfl,Ep.o,Ci.o⟩
theorem Ahh(K:CC)(l:A6)(c:BT A6)(hk:l.kd=27)(ih:Cx (Fx K) c)(hwf:Wf 0 c):K3 K l c:=by
 intro D w outer cur bl wh inn f rc v ks hst hn hr Bv By Ft;obtain⟨hlo,lcb,hncb⟩:=hst.lo;unfold Bo at hn;rw[if_neg (by omega)]at hn;obtain⟨b,cs,rfl,hD,hb,hl⟩:=hn;have e1:Cb l.kd=265:=by rw[hk];rfl
 have e2:De l.kd=267:=by rw[hk];rfl
 rw[e1];rw[e2]at hb;unfold Cr at hl;simp only[hk]at hl;obtain⟨a,rfl,rfl⟩:=hl;have hnd:=Iq K.fns l c (by omega) (by omega) (by omega) outer cur wh inn f;rw[Ki (by omega)]at hnd;rw[hnd,Kc K.fns c hwf];obtain⟨x1,y1,l1,c1,r1,D5,rfl,Bj,Ap,hz⟩:=hr.cons';obtain rfl:=hz.nil';rw[Jq];have HC:=A0 (ih.1 D w outer cur _ wh inn f rc a D5 hst Bj Ap);have d0:=A2 hb 1 a rfl;have ld:=A4 hb;have D8:=fun(v:Value) (w:World)=>Bc (P:=Tryz.prog) (t:=265) (T:=143) (xT:=142) (z:=.pointer none) Tryz.underlying143 (by kernel_rfl) (by decide) v w;have Dr:=fun(v:Value) (w:World)=>Bc (P:=Tryz.prog) (t:=265) (T:=145) (xT:=142) (z:=.pointer none) Tryz.underlying145 (by kernel_rfl) (by decide) v w;have Ee:=fun(v:Value) (w:World)=>Bc (P:=Tryz.prog) (t:=265) (T:=253) (xT:=142) (z:=.pointer none) Tryz.underlying253 (by kernel_rfl) (by decide) v w;have F8:=fun(v:Value) (w:World)=>Bc (P:=Tryz.prog) (t:=265) (T:=255) (xT:=142) (z:=.pointer none) Tryz.underlying255 (by kernel_rfl) (by decide) v w;have G6:=fun(v:Value) (w:World)=>Bc (P:=Tryz.prog) (t:=265) (T:=257) (xT:=142) (z:=.pointer none) Tryz.underlying257 (by kernel_rfl) (by decide) v w;have He:=fun(v:Value) (w:World)=>Bc (P:=Tryz.prog) (t:=265) (T:=259) (xT:=142) (z:=.pointer none) Tryz.underlying259 (by kernel_rfl) (by decide) v w;have Iw:=fun(v:Value) (w:World)=>Bc (P:=Tryz.prog) (t:=265) (T:=264) (xT:=142) (z:=.pointer none) Tryz.underlying264 (by kernel_rfl) (by decide) v w;have ta7:=fun(v:Value) (w:World)=>Dv (P:=Tryz.prog) (xT:=142) Tryz.underlying265 v w;clear hst hb e1 e2 hk hr Bj Ap hz ih hwf hnd Bv By Ft;unfold C5;go_enter Tryz.func192,Tryz.ntmps192;go_wp2_with fail
 refine(HC.o).mono ?_;rintro e w1 ⟨rfl,Ah,A1⟩;have A9:=A0 Ah;have A5:Hid (A3 D w w1):=A1;clear Ah A1 ;go_wp2;go_end0;exact⟨rfl,A9.o,A5.o⟩
theorem Am9(K:CC)(l:A6)(c:BT A6)(hk:l.kd=30)(ih:Cx (Fx K) c)(hwf:Wf 0 c):K3 K l c:=by
 intro D w outer cur bl wh inn f rc v ks hst hn hr Bv By Ft;obtain⟨hlo,lcb,hncb⟩:=hst.lo;unfold Bo at hn;rw[if_neg (by omega)]at hn;obtain⟨b,cs,rfl,hD,hb,hl⟩:=hn;have e1:Cb l.kd=270:=by rw[hk];rfl
 have e2:De l.kd=272:=by rw[hk];rfl
 rw[e1];rw[e2]at hb;unfold Cr at hl;simp only[hk]at hl;obtain⟨a,rfl,rfl⟩:=hl;have hnd:=Iq K.fns l c (by omega) (by omega) (by omega) outer cur wh inn f;rw[Ki (by omega)]at hnd;rw[hnd,Kc K.fns c hwf];obtain⟨x1,y1,l1,c1,r1,D5,rfl,Bj,Ap,hz⟩:=hr.cons';obtain rfl:=hz.nil';rw[Jq];have HC:=A0 (ih.1 D w outer cur _ wh inn f rc a D5 hst Bj Ap);have d0:=A2 hb 0 a rfl;have ld:=A4 hb;have D8:=fun(v:Value) (w:World)=>Bc (P:=Tryz.prog) (t:=270) (T:=143) (xT:=142) (z:=.pointer none) Tryz.underlying143 (by kernel_rfl) (by decide) v w;have Dr:=fun(v:Value) (w:World)=>Bc (P:=Tryz.prog) (t:=270) (T:=145) (xT:=142) (z:=.pointer none) Tryz.underlying145 (by kernel_rfl) (by decide) v w;have Ee:=fun(v:Value) (w:World)=>Bc (P:=Tryz.prog) (t:=270) (T:=253) (xT:=142) (z:=.pointer none) Tryz.underlying253 (by kernel_rfl) (by decide) v w;have F8:=fun(v:Value) (w:World)=>Bc (P:=Tryz.prog) (t:=270) (T:=255) (xT:=142) (z:=.pointer none) Tryz.underlying255 (by kernel_rfl) (by decide) v w;have G6:=fun(v:Value) (w:World)=>Bc (P:=Tryz.prog) (t:=270) (T:=257) (xT:=142) (z:=.pointer none) Tryz.underlying257 (by kernel_rfl) (by decide) v w;have He:=fun(v:Value) (w:World)=>Bc (P:=Tryz.prog) (t:=270) (T:=259) (xT:=142) (z:=.pointer none) Tryz.underlying259 (by kernel_rfl) (by decide) v w;have Iw:=fun(v:Value) (w:World)=>Bc (P:=Tryz.prog) (t:=270) (T:=264) (xT:=142) (z:=.pointer none) Tryz.underlying264 (by kernel_rfl) (by decide) v w;have ta7:=fun(v:Value) (w:World)=>Bc (P:=Tryz.prog) (t:=270) (T:=265) (xT:=142) (z:=.pointer none) Tryz.underlying265 (by kernel_rfl) (by decide) v w;have ta8:=fun(v:Value) (w:World)=>Bc (P:=Tryz.prog) (t:=270) (T:=268) (xT:=142) (z:=.pointer none) Tryz.underlying268 (by kernel_rfl) (by decide) v w;have ta9:=fun(v:Value) (w:World)=>Dv (P:=Tryz.prog) (xT:=142) Tryz.underlying270 v w;clear hst hb e1 e2 hk hr Bj Ap hz ih hwf hnd Bv By Ft;unfold C5;go_enter Tryz.func192,Tryz.ntmps192;go_wp2_with fail
 refine(HC.o).mono ?_;rintro e w1 ⟨rfl,Ah,A1⟩;have A9:=A0 Ah;have A5:Hid (A3 D w w1):=A1;clear Ah A1 ;go_wp2;go_end0;exact⟨rfl,A9.o,A5.o⟩
theorem Als(K:CC)(l:A6)(c:BT A6)(hk:l.kd=25):K3 K l c:=by
 intro D w outer cur bl wh inn f rc v ks hst hn hr Bv By Ft;obtain⟨hlo,lcb,hncb⟩:=hst.lo;unfold Bo at hn;rw[if_neg (by omega)]at hn;obtain⟨b,cs,rfl,hD,hb,hl⟩:=hn;have e1:Cb l.kd=259:=by rw[hk];rfl
 have e2:De l.kd=367:=by rw[hk];rfl
 rw[e1];rw[e2]at hb;unfold Cr at hl;simp only[hk]at hl;obtain⟨rfl,rfl⟩:=hl;have hnd:=Iq K.fns l c (by omega) (by omega) (by omega) outer cur wh inn f;have hp:K7 K.fns l (Ar c) outer cur wh inn f=E2 (wh==0) 4 l.line f:=by unfold K7;rw[if_neg (by omega),if_neg (by omega),if_pos (by omega)]
 rw[hp]at hnd;rw[hnd,hr.nil',Bp];have HC:=A0 (s7 hst.st l.line);have HSt:=A0 hst;have d0:w.cell? ⟨b,0,none⟩=some (.int .i64 (l.line:Nat)):=A2 hb 0 _ rfl;have ld:=A4 hb;have D8:=fun(v:Value) (w:World)=>Bc (P:=Tryz.prog) (t:=259) (T:=143) (xT:=142) (z:=.pointer none) Tryz.underlying143 (by kernel_rfl) (by decide) v w;have Dr:=fun(v:Value) (w:World)=>Bc (P:=Tryz.prog) (t:=259) (T:=145) (xT:=142) (z:=.pointer none) Tryz.underlying145 (by kernel_rfl) (by decide) v w;have Ee:=fun(v:Value) (w:World)=>Bc (P:=Tryz.prog) (t:=259) (T:=253) (xT:=142) (z:=.pointer none) Tryz.underlying253 (by kernel_rfl) (by decide) v w;have F8:=fun(v:Value) (w:World)=>Bc (P:=Tryz.prog) (t:=259) (T:=255) (xT:=142) (z:=.pointer none) Tryz.underlying255 (by kernel_rfl) (by decide) v w;have G6:=fun(v:Value) (w:World)=>Bc (P:=Tryz.prog) (t:=259) (T:=257) (xT:=142) (z:=.pointer none) Tryz.underlying257 (by kernel_rfl) (by decide) v w;have He:=fun(v:Value) (w:World)=>Dv (P:=Tryz.prog) (xT:=142) Tryz.underlying259 v w;clear hst hb e1 e2 hk hr hnd Bv By Ft hp;unfold C5;go_enter Tryz.func192,Tryz.ntmps192;go_wp2_with fail
 refine HC.o.mono ?_;rintro e w1 ⟨rfl,Ah,A1⟩;have A9:=A0 (HSt.o.next Ah A1);have A5:=A0 A1;clear Ah A1;go_wp2;go_end0;exact⟨rfl,A9.o,A5.o⟩
theorem Aca(K:CC)(l:A6)(c:BT A6)(hk:l.kd=26):K3 K l c:=by
 intro D w outer cur bl wh inn f rc v ks hst hn hr Bv By Ft;obtain⟨hlo,lcb,hncb⟩:=hst.lo;unfold Bo at hn;rw[if_neg (by omega)]at hn;obtain⟨b,cs,rfl,hD,hb,hl⟩:=hn;have e1:Cb l.kd=264:=by rw[hk];rfl
 have e2:De l.kd=368:=by rw[hk];rfl
 rw[e1];rw[e2]at hb;unfold Cr at hl;simp only[hk]at hl;obtain⟨rfl,rfl⟩:=hl;have hnd:=Iq K.fns l c (by omega) (by omega) (by omega) outer cur wh inn f;have hp:K7 K.fns l (Ar c) outer cur wh inn f=E2 (wh==0) 4 l.line f:=by unfold K7;rw[if_neg (by omega),if_neg (by omega),if_pos (by omega)]
 rw[hp]at hnd;rw[hnd,hr.nil',Bp];have HC:=A0 (s7 hst.st l.line);have HSt:=A0 hst;have d0:w.cell? ⟨b,0,none⟩=some (.int .i64 (l.line:Nat)):=A2 hb 0 _ rfl;have ld:=A4 hb;have D8:=fun(v:Value) (w:World)=>Bc (P:=Tryz.prog) (t:=264) (T:=143) (xT:=142) (z:=.pointer none) Tryz.underlying143 (by kernel_rfl) (by decide) v w;have Dr:=fun(v:Value) (w:World)=>Bc (P:=Tryz.prog) (t:=264) (T:=145) (xT:=142) (z:=.pointer none) Tryz.underlying145 (by kernel_rfl) (by decide) v w;have Ee:=fun(v:Value) (w:World)=>Bc (P:=Tryz.prog) (t:=264) (T:=253) (xT:=142) (z:=.pointer none) Tryz.underlying253 (by kernel_rfl) (by decide) v w;have F8:=fun(v:Value) (w:World)=>Bc (P:=Tryz.prog) (t:=264) (T:=255) (xT:=142) (z:=.pointer none) Tryz.underlying255 (by kernel_rfl) (by decide) v w;have G6:=fun(v:Value) (w:World)=>Bc (P:=Tryz.prog) (t:=264) (T:=257) (xT:=142) (z:=.pointer none) Tryz.underlying257 (by kernel_rfl) (by decide) v w;have He:=fun(v:Value) (w:World)=>Bc (P:=Tryz.prog) (t:=264) (T:=259) (xT:=142) (z:=.pointer none) Tryz.underlying259 (by kernel_rfl) (by decide) v w;have Iw:=fun(v:Value) (w:World)=>Dv (P:=Tryz.prog) (xT:=142) Tryz.underlying264 v w;clear hst hb e1 e2 hk hr hnd Bv By Ft hp;unfold C5;go_enter Tryz.func192,Tryz.ntmps192;go_wp2_with fail
 refine HC.o.mono ?_;rintro e w1 ⟨rfl,Ah,A1⟩;have A9:=A0 (HSt.o.next Ah A1);have A5:=A0 A1;clear Ah A1;go_wp2;go_end0;exact⟨rfl,A9.o,A5.o⟩
theorem Adx(K:CC)(l:A6)(c:BT A6)(hk:l.kd=24)(ih:Cx (Fx K) c)(hwf:Wf 0 c):K3 K l c:=by
 intro D w outer cur bl wh inn f rc v ks hst hn hr Bv By Ft;obtain⟨hlo,lcb,hncb⟩:=hst.lo;unfold Bo at hn;rw[if_neg (by omega)]at hn;obtain⟨b,cs,rfl,hD,hb,hl⟩:=hn;have e1:Cb l.kd=257:=by rw[hk];rfl
 have e2:De l.kd=318:=by rw[hk];rfl
 rw[e1];rw[e2]at hb;unfold Cr at hl;simp only[hk]at hl;obtain⟨a,rfl,hks⟩:=hl;have hnd:=Iq K.fns l c (by omega) (by omega) (by omega) outer cur wh inn f;have hp:K7 K.fns l (Ar c) outer cur wh inn f=E2 (!inn) 4 l.line f:=by unfold K7;rw[if_neg (by omega),if_neg (by omega),if_neg (by omega),if_pos (by omega)]
 rw[hp]at hnd;rw[hnd,Kc K.fns c hwf];have HC:=A0 (An5 K l c ih hwf D w outer cur _ wh inn f rc b a ks hst hD hb hks hr);have ld:=A4 hb;have D8:=fun(v:Value) (w:World)=>Bc (P:=Tryz.prog) (t:=257) (T:=143) (xT:=142) (z:=.pointer none) Tryz.underlying143 (by kernel_rfl) (by decide) v w;have Dr:=fun(v:Value) (w:World)=>Bc (P:=Tryz.prog) (t:=257) (T:=145) (xT:=142) (z:=.pointer none) Tryz.underlying145 (by kernel_rfl) (by decide) v w;have Ee:=fun(v:Value) (w:World)=>Bc (P:=Tryz.prog) (t:=257) (T:=253) (xT:=142) (z:=.pointer none) Tryz.underlying253 (by kernel_rfl) (by decide) v w;have F8:=fun(v:Value) (w:World)=>Bc (P:=Tryz.prog) (t:=257) (T:=255) (xT:=142) (z:=.pointer none) Tryz.underlying255 (by kernel_rfl) (by decide) v w;have G6:=fun(v:Value) (w:World)=>Dv (P:=Tryz.prog) (xT:=142) Tryz.underlying257 v w;clear hst hb e1 e2 hk hr hnd Bv By Ft hp ih hwf hks;unfold C5;go_enter Tryz.func192,Tryz.ntmps192;go_wp2_with fail
 refine(HC.o).mono ?_;rintro e w1 ⟨rfl,Ah,A1⟩;have A9:=A0 Ah;have A5:Hid (A3 D w w1):=A1;clear Ah A1 ;go_wp2;go_end0;exact⟨rfl,A9.o,A5.o⟩
theorem A2x(K:CC)(l:A6)(c:BT A6)(hk:l.kd=21)(ih:Cx (Fx K) c)(hwf:Wf 0 c):K3 K l c:=by
 intro D w outer cur bl wh inn f rc v ks hst hn hr Bv By Ft;obtain⟨hlo,lcb,hncb⟩:=hst.lo;unfold Bo at hn;rw[if_neg (by omega)]at hn;obtain⟨b,cs,rfl,hD,hb,hl⟩:=hn;have e1:Cb l.kd=145:=by rw[hk];rfl
 have e2:De l.kd=152:=by rw[hk];rfl
 rw[e1];rw[e2]at hb;unfold Cr at hl;simp only[hk]at hl;obtain⟨a,rfl,rfl⟩:=hl;have hnd:Bp K.fns (nd l c) outer cur wh inn f=((Bp K.fns c outer cur wh inn (E2 (decide (l.s∈cur)) 3 l.line f)).1++[l.s],(Bp K.fns c outer cur wh inn (E2 (decide (l.s∈cur)) 3 l.line f)).2):=by
  rw[nd,Bp,if_neg (by omega),if_neg (by omega),if_pos hk,Bp]
 rw[hnd,Kc K.fns c hwf];obtain⟨x1,y1,l1,c1,r1,D5,rfl,Bj,Ap,hz⟩:=hr.cons';obtain rfl:=hz.nil';rw[Jq];have HF:=A0 (Ur hst.st l.line l.s);have HSt:=A0 hst;have HC:=A0 (fun W g (hs:K.St D W (outer++cur) (bl++[outer.length]) wh inn g rc) (hbd:A3 D w W)=>ih.1 D W outer cur _ wh inn g rc a D5 hs (Bj.Bn hbd) (Ap.Bn hbd));have d0:w.cell? ⟨b,0,none⟩=some (.int .i64 (l.line:Nat)):=A2 hb 0 _ rfl;have d1:w.cell? ⟨b,1,none⟩=some (.string ⟨l.s.toArray⟩):=A2 hb 1 _ rfl;have d2:=A2 hb 2 a rfl;have ld:=A4 hb;have HBk:=A0 hb;have hnl:(outer++cur).length+1<=700000:=by have:=Cd l (.node x1 y1 l1 c1 .nil);omega
 have D8:=fun(v:Value) (w:World)=>Bc (P:=Tryz.prog) (t:=145) (T:=143) (xT:=142) (z:=.pointer none) Tryz.underlying143 (by kernel_rfl) (by decide) v w;have Dr:=fun(v:Value) (w:World)=>Dv (P:=Tryz.prog) (xT:=142) Tryz.underlying145 v w;clear hst hb e1 e2 hk hr Bj Ap hz ih hwf hnd Bv By Ft;unfold C5;go_enter Tryz.func192,Tryz.ntmps192;go_wp2_with fail
 refine HF.o.mono ?_;rintro e w1 ⟨rfl,Ah,A1⟩;have A9:=A0 (HSt.o.next Ah A1);have A5:=A0 A1;have Bm:=(A1.block b hD).trans HBk.o;clear Ah A1 d0 d1 d2 ld;have d2:=A2 Bm 2 a rfl;have ld:=A4 Bm;clear Bm;go_wp2_with fail
 refine(HC.o _ _ A9.o A5.o).mono ?_;rintro e w2 ⟨rfl,Au,A8⟩;have Ak:=A0 Au;have Aa:Hid (A3 D w w2):=A5.o.trans A8;clear Au A8 ;have D6:=(Aa.o.block b hD).trans HBk.o;clear d2 ld;have d1:w2.cell? ⟨b,1,none⟩=some (.string ⟨l.s.toArray⟩):=A2 D6 1 _ rfl;have ld:=A4 D6;obtain⟨na,nn,nc,ba,bn,bc,la,ln,lc,ls,hv⟩:=Ak.o.st;have lcb2:=A4 hv.cell;have HV:=A0 (hv.keep (w':=w2.drew) (fun _ _=>rfl) (Nat.le_refl _));have HP:=A0 (Tb HV.o.L8 (by rw[Nr];omega) ⟨l.s.toArray⟩ (by simp));clear D6 hv;go_wp2;go_region_law (refine Fj rfl 137 _ _ rfl #[.pointer (some ⟨K.cb,2,none⟩),.string ⟨l.s.toArray⟩] (by kernel_rfl) HP.o ?_;rintro e w3 ⟨rfl,hp3⟩;refine⟨_,rfl,?_⟩)
 all_goals go_wp2
 all_goals go_end0
 all_goals obtain⟨k1,k2⟩:=HV.o.V0 l.s (by omega) hp3
 all_goals rw[List.append_assoc]at k1
 all_goals have k3:A3 D w2 w3:=⟨k2.os,k2.tape,k2.output,k2.size,k2.block⟩
 all_goals exact⟨rfl,Ak.o.next k1 k3,Aa.o.trans k3⟩
theorem A7x(K:CC)(l:A6)(c:BT A6)(hk:l.kd=28)(ih:Cx (Fx K) c)(hwf:Wf 0 c):K3 K l c:=by
 intro D w outer cur bl wh inn f rc v ks hst hn hr Bv By Ft;obtain⟨hlo,lcb,hncb⟩:=hst.lo;unfold Bo at hn;rw[if_neg (by omega)]at hn;obtain⟨b,cs,rfl,hD,hb,hl⟩:=hn;have e1:Cb l.kd=268:=by rw[hk];rfl
 have e2:De l.kd=322:=by rw[hk];rfl
 rw[e1];rw[e2]at hb;unfold Cr at hl;simp only[hk]at hl;obtain⟨b2,a,rfl,Iy,A8,rfl⟩:=hl;have hnd:=Iq K.fns l c (by omega) (by omega) (by omega) outer cur wh inn f;have hp:K7 K.fns l (Ar c) outer cur wh inn f=(Bp K.fns (nd ⟨6,l.line,l.s,0,[]⟩ .nil) outer cur wh inn f).2:=by
  rw[Iq K.fns _ _ (by simp) (by simp) (by simp),Bp];unfold K7;rw[if_pos (by omega),if_pos (by simp)]
 rw[hp]at hnd;rw[hnd,Kc K.fns c hwf];obtain⟨x1,y1,l1,c1,r1,D5,rfl,Bj,Ap,hz⟩:=hr.cons';obtain rfl:=hz.nil';rw[Jq];have hv6:Bo D w ⟨6,l.line,l.s,0,[]⟩ (.iface 238 (C5 b2)) []:=Bo.new (l:=⟨6,l.line,l.s,0,[]⟩) (by simp) Iy A8 ⟨rfl,rfl⟩;have HC:=A0 (A2k K ⟨6,l.line,l.s,0,[]⟩ .nil rfl D w outer cur _ wh inn f rc _ [] hst hv6 rfl);have F2:=A0 (fun W g (hs:K.St D W (outer++cur) (bl++[outer.length]) wh inn g rc) (hbd:A3 D w W)=>ih.1 D W outer cur _ wh inn g rc a D5 hs (Bj.Bn hbd) (Ap.Bn hbd));have d0:=A2 hb 0 _ rfl;have ld:=A4 hb;have HBk:=A0 hb;have D8:=fun(v:Value) (w:World)=>Bc (P:=Tryz.prog) (t:=268) (T:=143) (xT:=142) (z:=.pointer none) Tryz.underlying143 (by kernel_rfl) (by decide) v w;have Dr:=fun(v:Value) (w:World)=>Bc (P:=Tryz.prog) (t:=268) (T:=145) (xT:=142) (z:=.pointer none) Tryz.underlying145 (by kernel_rfl) (by decide) v w;have Ee:=fun(v:Value) (w:World)=>Bc (P:=Tryz.prog) (t:=268) (T:=253) (xT:=142) (z:=.pointer none) Tryz.underlying253 (by kernel_rfl) (by decide) v w;have F8:=fun(v:Value) (w:World)=>Bc (P:=Tryz.prog) (t:=268) (T:=255) (xT:=142) (z:=.pointer none) Tryz.underlying255 (by kernel_rfl) (by decide) v w;have G6:=fun(v:Value) (w:World)=>Bc (P:=Tryz.prog) (t:=268) (T:=257) (xT:=142) (z:=.pointer none) Tryz.underlying257 (by kernel_rfl) (by decide) v w;have He:=fun(v:Value) (w:World)=>Bc (P:=Tryz.prog) (t:=268) (T:=259) (xT:=142) (z:=.pointer none) Tryz.underlying259 (by kernel_rfl) (by decide) v w;have Iw:=fun(v:Value) (w:World)=>Bc (P:=Tryz.prog) (t:=268) (T:=264) (xT:=142) (z:=.pointer none) Tryz.underlying264 (by kernel_rfl) (by decide) v w;have ta7:=fun(v:Value) (w:World)=>Bc (P:=Tryz.prog) (t:=268) (T:=265) (xT:=142) (z:=.pointer none) Tryz.underlying265 (by kernel_rfl) (by decide) v w;have ta8:=fun(v:Value) (w:World)=>Dv (P:=Tryz.prog) (xT:=142) Tryz.underlying268 v w;clear hst hb e1 e2 hk hr Bj Ap hz ih hwf hnd Bv By Ft hp hv6 A8;unfold C5;go_enter Tryz.func192,Tryz.ntmps192;go_wp2_with fail
 refine(HC.o).mono ?_;rintro e w1 ⟨rfl,Ah,A1⟩;have A9:=A0 Ah;have A5:Hid (A3 D w w1):=A1;clear Ah A1 d0 ld;have Bm:=(A5.o.block b hD).trans HBk.o;have d1:=A2 Bm 1 _ rfl;have ld:=A4 Bm;clear Bm;go_wp2_with fail
 refine(F2.o _ _ A9.o A5.o).mono ?_;rintro e w2 ⟨rfl,Au,A8⟩;have Ak:=A0 Au;have Aa:Hid (A3 D w w2):=A5.o.trans A8;clear Au A8 ;go_wp2;go_end0;exact⟨rfl,Ak.o,Aa.o⟩
theorem Ams(K:CC)(l:A6)(c:BT A6)(hk:l.kd=29)(ih:Cx (Fx K) c)(hwf:Wf 0 c):K3 K l c:=by
 intro D w outer cur bl wh inn f rc v ks hst hn hr Bv By Ft;obtain⟨hlo,lcb,hncb⟩:=hst.lo;unfold Bo at hn;rw[if_neg (by omega)]at hn;obtain⟨b,cs,rfl,hD,hb,hl⟩:=hn;have e1:Cb l.kd=268:=by rw[hk];rfl
 have e2:De l.kd=322:=by rw[hk];rfl
 rw[e1];rw[e2]at hb;unfold Cr at hl;simp only[hk]at hl;obtain⟨b2,o,p,a,rfl,Iy,A8,rfl⟩:=hl;have hnd:=Iq K.fns l c (by omega) (by omega) (by omega) outer cur wh inn f;rw[Ki (by omega)]at hnd;rw[hnd,Kc K.fns c hwf];obtain⟨x1,y1,l1,c1,r1,D5,rfl,Bj,Ap,hz⟩:=hr.cons';obtain⟨x2,y2,l2,c2,r2,Gk,rfl,Dh,B0,hzz⟩:=hz.cons';obtain⟨x3,y3,l3,c3,r3,ks3,rfl,hn3,C7,hzzz⟩:=hzz.cons';obtain rfl:=hzzz.nil';have hw12:Wf 0 (.node x1 y1 l1 c1 (.node x2 y2 l2 c2 .nil)):=⟨⟨trivial,hwf.1.2⟩,hwf.2⟩;have h12:Bp K.fns (.node x1 y1 l1 c1 (.node x2 y2 l2 c2 (.node x3 y3 l3 c3 .nil))) outer cur wh inn f=Bp K.fns (nd l3 c3) outer cur wh inn (Bp K.fns (nd (Ba 12 l.line) (.node x1 y1 l1 c1 (.node x2 y2 l2 c2 .nil))) outer cur wh inn f).2:=by
  rw[Iq K.fns (Ba 12 l.line) _ (by simp[Ba]) (by simp[Ba]) (by simp[Ba]),Ki (by simp[Ba])];rw[sens_xy' K.fns x1,sens_xy' K.fns x2,Jq];rw[sens_xy' K.fns x1 y1 l1 c1 (.node x2 y2 l2 c2 .nil),Jq];rw[Kc K.fns (nd l1 c1) hwf.Ph,Kc K.fns (nd l2 c2) hwf.1.Ph]
 rw[h12];have hv12:Bo D w (Ba 12 l.line) (.iface 310 (C5 b2)) [o,p]:=Bo.new (l:=Ba 12 l.line) (by simp[Ba]) Iy A8 ⟨o,p,rfl,rfl⟩;have HC:=A0 (A0j K (Ba 12 l.line) (.node x1 y1 l1 c1 (.node x2 y2 l2 c2 .nil)) rfl ⟨ih.1,ih.2.1,trivial⟩ hw12 D w outer cur _ wh inn f rc _ [o,p] hst hv12 ⟨o,D5,[p],rfl,Bj,Ap,⟨p,Gk,[],rfl,Dh,B0,rfl⟩⟩);have F2:=A0 (fun W g (hs:K.St D W (outer++cur) (bl++[outer.length]) wh inn g rc) (hbd:A3 D w W)=>ih.2.2.1 D W outer cur _ wh inn g rc a ks3 hs (hn3.Bn hbd) (C7.Bn hbd));have d0:=A2 hb 0 _ rfl;have ld:=A4 hb;have HBk:=A0 hb;have D8:=fun(v:Value) (w:World)=>Bc (P:=Tryz.prog) (t:=268) (T:=143) (xT:=142) (z:=.pointer none) Tryz.underlying143 (by kernel_rfl) (by decide) v w;have Dr:=fun(v:Value) (w:World)=>Bc (P:=Tryz.prog) (t:=268) (T:=145) (xT:=142) (z:=.pointer none) Tryz.underlying145 (by kernel_rfl) (by decide) v w;have Ee:=fun(v:Value) (w:World)=>Bc (P:=Tryz.prog) (t:=268) (T:=253) (xT:=142) (z:=.pointer none) Tryz.underlying253 (by kernel_rfl) (by decide) v w;have F8:=fun(v:Value) (w:World)=>Bc (P:=Tryz.prog) (t:=268) (T:=255) (xT:=142) (z:=.pointer none) Tryz.underlying255 (by kernel_rfl) (by decide) v w;have G6:=fun(v:Value) (w:World)=>Bc (P:=Tryz.prog) (t:=268) (T:=257) (xT:=142) (z:=.pointer none) Tryz.underlying257 (by kernel_rfl) (by decide) v w;have He:=fun(v:Value) (w:World)=>Bc (P:=Tryz.prog) (t:=268) (T:=259) (xT:=142) (z:=.pointer none) Tryz.underlying259 (by kernel_rfl) (by decide) v w;have Iw:=fun(v:Value) (w:World)=>Bc (P:=Tryz.prog) (t:=268) (T:=264) (xT:=142) (z:=.pointer none) Tryz.underlying264 (by kernel_rfl) (by decide) v w;have ta7:=fun(v:Value) (w:World)=>Bc (P:=Tryz.prog) (t:=268) (T:=265) (xT:=142) (z:=.pointer none) Tryz.underlying265 (by kernel_rfl) (by decide) v w;have ta8:=fun(v:Value) (w:World)=>Dv (P:=Tryz.prog) (xT:=142) Tryz.underlying268 v w;clear hst hb e1 e2 hk hr Bj Ap hz ih hwf hnd Bv By Ft hv12 A8 h12 hw12 Dh B0 hzz hn3 C7 hzzz;unfold C5;go_enter Tryz.func192,Tryz.ntmps192;go_wp2_with fail
 refine(HC.o).mono ?_;rintro e w1 ⟨rfl,Ah,A1⟩;have A9:=A0 Ah;have A5:Hid (A3 D w w1):=A1;clear Ah A1 d0 ld;have Bm:=(A5.o.block b hD).trans HBk.o;have d1:=A2 Bm 1 _ rfl;have ld:=A4 Bm;clear Bm;go_wp2_with fail
 refine(F2.o _ _ A9.o A5.o).mono ?_;rintro e w2 ⟨rfl,Au,A8⟩;have Ak:=A0 Au;have Aa:Hid (A3 D w w2):=A5.o.trans A8;clear Au A8 ;go_wp2;go_end0;exact⟨rfl,Ak.o,Aa.o⟩
def Part(K:CC)(l:A6)(c:BT A6):Prop:=(Il l.kd=true->Fx K l c)/\((l.kd=31\/l.kd=32)->Cx (K3 K) c)
theorem Vc(fns:List (Nm×Nat)){l:A6}(c:BT A6)(h:l.kd=31)(outer cur:List Nm)(wh:Nat)(inn:Bool)(f:Cn):Bp fns (nd l c) outer cur wh inn f=(cur,(Bp fns c (outer++cur) [] wh inn f).2):=by
 rw[nd,Bp,if_pos h,Bp]
theorem Ag0(fns:List (Nm×Nat)){l:A6}(c:BT A6)(h:l.kd=32)(outer cur:List Nm)(wh:Nat)(inn:Bool)(f:Cn):Bp fns (nd l c) outer cur wh inn f=(cur,(Bp fns c (outer++cur) [] (wh+1) inn f).2):=by
 rw[nd,Bp,if_neg (by omega),if_pos h,Bp]
theorem Bo.Px{D:Nat->Prop}{w:World}{l:A6}{t:TypeId}{x:Value}{ks:List Value}(h:Bo D w l (.iface t x) ks):l.kd≠31/\l.kd≠32:=by
 unfold Bo at h;split at h
 ·obtain⟨⟨_,_,_,e⟩,_⟩:=h;cases e
 ·omega
theorem Bo.No{D:Nat->Prop}{w:World}{l:A6}{a:Option Addr}{n m:Nat}{ks:List Value}(h:Bo D w l (.slice a n m) ks):(l.kd=31\/l.kd=32)/\Co D w 142 1 (.slice a n m) ks.length ks:=by
 unfold Bo at h;split at h
 ·rename_i h1;exact⟨h1,h.2⟩
 ·obtain⟨b,cs,e,_⟩:=h;cases e
theorem Wf.La{x y:Nat}{l:A6}{c r:BT A6}(h:Wf 2 (.node x y l c r)):(l.kd≠31->Il l.kd=true/\Wf 0 c)/\(l.kd=31\/l.kd=32->l.kd=31/\Wf 1 c):=by
 rcases h.2 with⟨_,h1,h2⟩|⟨_,h1,h2⟩|⟨h1,_⟩|⟨h1,_⟩|⟨h1,_⟩|⟨h1,_⟩|⟨h1,_⟩
 ·exact⟨fun _=>⟨h1,h2⟩,fun e=>by have:=Ob h1;omega⟩
 ·exact⟨fun e=>absurd h1 e,fun _=>⟨h1,h2⟩⟩
 all_goals omega
theorem Wf.Ow{x y:Nat}{l:A6}{c r:BT A6}(h:Wf 3 (.node x y l c r)):(l.kd≠32->Il l.kd=true/\Wf 0 c)/\(l.kd=31\/l.kd=32->l.kd=32/\Wf 1 c):=by
 rcases h.2 with⟨_,h1,h2⟩|⟨h1,_⟩|⟨_,h1,h2⟩|⟨h1,_⟩|⟨h1,_⟩|⟨h1,_⟩|⟨h1,_⟩
 ·exact⟨fun _=>⟨h1,h2⟩,fun e=>by have:=Ob h1;omega⟩
 ·omega
 ·exact⟨fun e=>absurd h1 e,fun _=>⟨h1,h2⟩⟩
 all_goals omega
theorem Wf.Qb{l:A6}{c:BT A6}(h:Il l.kd=true)(hc:Wf 0 c):Wf 0 (nd l c):=Wf.ex h hc
theorem A6s(K:CC)(l:A6)(c:BT A6)(hk:l.kd=22)(ih:Cx (Part K) c)(hwf:Wf 2 c):K3 K l c:=by
 intro D w outer cur bl wh inn f rc v ks hst hn hr Bv By Ft;obtain⟨hlo,lcb,hncb⟩:=hst.lo;unfold Bo at hn;rw[if_neg (by omega)]at hn;obtain⟨b,cs,rfl,hD,hb,hl⟩:=hn;have e1:Cb l.kd=253:=by rw[hk];rfl
 have e2:De l.kd=314:=by rw[hk];rfl
 rw[e1];rw[e2]at hb;unfold Cr at hl;simp only[hk]at hl;obtain⟨t,x,s1,n1,m1,s2,n2,m2,rfl,hks⟩:=hl;have hnd:=Iq K.fns l c (by omega) (by omega) (by omega) outer cur wh inn f;rw[Ki (by omega)]at hnd;rw[hnd];have d0:=A2 hb 1 _ rfl;have ld:=A4 hb;have HBk:=A0 hb;rw[Cd]at Bv By Ft;have D8:=fun(v:Value) (w:World)=>Bc (P:=Tryz.prog) (t:=253) (T:=143) (xT:=142) (z:=.pointer none) Tryz.underlying143 (by kernel_rfl) (by decide) v w;have Dr:=fun(v:Value) (w:World)=>Bc (P:=Tryz.prog) (t:=253) (T:=145) (xT:=142) (z:=.pointer none) Tryz.underlying145 (by kernel_rfl) (by decide) v w;have Ee:=fun(v:Value) (w:World)=>Dv (P:=Tryz.prog) (xT:=142) Tryz.underlying253 v w;rcases hks with⟨rfl,Au⟩|rfl
 ·obtain⟨x1,y1,l1,c1,r1,D5,rfl,Bj,Ap,hz⟩:=hr.cons';obtain⟨x2,y2,l2,c2,r2,Gk,rfl,Dh,B0,hzz⟩:=hz.cons';obtain rfl:=hzz.nil';injection Au with q1 q2 q3;subst q1 q2 q3;obtain⟨Et,G3⟩:=hwf.La.1 Bj.Px.1;obtain⟨Cj,B8⟩:=Dh.No;obtain⟨h31,_⟩:=hwf.1.La.2 Cj;simp only[bsize]at Bv By Ft;have hse:Bp K.fns (.node x1 y1 l1 c1 (.node x2 y2 l2 c2 .nil)) outer cur wh inn f=(cur,(Bp K.fns c2 (outer++cur) [] wh inn (Bp K.fns (nd l1 c1) outer cur wh inn f).2).2):=by
   rw[sens_xy' K.fns x1,Kc K.fns _ (Wf.Qb Et G3),Jq,Vc K.fns c2 h31]
  rw[hse];have HC:=A0 (ih.1.1 Et D w outer cur _ wh inn f rc _ D5 hst Bj Ap);have F2:=A0 (fun W g (hs:K.St D W (outer++cur) (bl++[outer.length]) wh inn g rc) (hbd:A3 D w W)=>Qf K c2 (ih.2.1.2 Cj) D W (outer++cur) (bl++[outer.length]) wh inn g rc s1 n1 m1 Gk hs (B8.Bn hbd) (B0.Bn hbd) (by omega) (by simp;omega) (by omega));have HC3:=A0 (fun W g (hs:K.St D W (outer++cur) (bl++[outer.length]) wh inn g rc)=>Qf K .nil trivial D W (outer++cur) (bl++[outer.length]) wh inn g rc none 0 0 [] hs (O8 _ _ _ _) rfl (by simp only[bsize];omega) (by simp only[bsize];simp;omega) (by simp only[bsize];omega));clear hst hb e1 e2 hk hr Bj Ap hz ih hwf hnd Bv By Ft Dh B0 hzz Et G3 Cj B8 h31 hse;unfold C5;go_enter Tryz.func192,Tryz.ntmps192;go_wp2_with fail
  refine(HC.o).mono ?_;rintro e w1 ⟨rfl,Ah,A1⟩;have A9:=A0 Ah;have A5:Hid (A3 D w w1):=A1;clear Ah A1 d0 ld;have Bm:=(A5.o.block b hD).trans HBk.o;have d1:=A2 Bm 2 _ rfl;have ld:=A4 Bm;clear Bm;go_wp2_with fail
  refine(F2.o _ _ A9.o A5.o).mono ?_;rintro e w2 ⟨rfl,Au,A8⟩;have Ak:=A0 Au;have Aa:Hid (A3 D w w2):=A5.o.trans A8;clear Au A8 d1 ld;have D6:=(Aa.o.block b hD).trans HBk.o;have d2:=A2 D6 3 _ rfl;have ld:=A4 D6;clear D6;go_wp2_with fail
  refine(HC3.o _ _ Ak.o).mono ?_;rintro e w3 ⟨rfl,Bx,Aj⟩;have Bh:=A0 Bx;have At:Hid (A3 D w w3):=Aa.o.trans Aj;clear Bx Aj ;go_wp2;go_end0;rw[Bp]at Bh;exact⟨rfl,Bh.o,At.o⟩
 ·obtain⟨x1,y1,l1,c1,r1,D5,rfl,Bj,Ap,hz⟩:=hr.cons';obtain⟨x2,y2,l2,c2,r2,Gk,rfl,Dh,B0,hzz⟩:=hz.cons';obtain⟨x3,y3,l3,c3,r3,ks3,rfl,hn3,C7,hzzz⟩:=hzz.cons';obtain rfl:=hzzz.nil';obtain⟨Et,G3⟩:=hwf.La.1 Bj.Px.1;obtain⟨Cj,B8⟩:=Dh.No;obtain⟨h31,_⟩:=hwf.1.La.2 Cj;obtain⟨hk3,Cl⟩:=hn3.No;obtain⟨h31',_⟩:=hwf.1.1.La.2 hk3;simp only[bsize]at Bv By Ft;have hse:Bp K.fns (.node x1 y1 l1 c1 (.node x2 y2 l2 c2 (.node x3 y3 l3 c3 .nil))) outer cur wh inn f=(cur,(Bp K.fns c3 (outer++cur) [] wh inn (Bp K.fns c2 (outer++cur) [] wh inn (Bp K.fns (nd l1 c1) outer cur wh inn f).2).2).2):=by
   rw[sens_xy' K.fns x1,Kc K.fns _ (Wf.Qb Et G3),sens_xy' K.fns x2,Vc K.fns c2 h31,Jq,Vc K.fns c3 h31']
  rw[hse];have HC:=A0 (ih.1.1 Et D w outer cur _ wh inn f rc _ D5 hst Bj Ap);have F2:=A0 (fun W g (hs:K.St D W (outer++cur) (bl++[outer.length]) wh inn g rc) (hbd:A3 D w W)=>Qf K c2 (ih.2.1.2 Cj) D W (outer++cur) (bl++[outer.length]) wh inn g rc s1 n1 m1 Gk hs (B8.Bn hbd) (B0.Bn hbd) (by omega) (by simp;omega) (by omega));have HC3:=A0 (fun W g (hs:K.St D W (outer++cur) (bl++[outer.length]) wh inn g rc) (hbd:A3 D w W)=>Qf K c3 (ih.2.2.1.2 hk3) D W (outer++cur) (bl++[outer.length]) wh inn g rc s2 n2 m2 ks3 hs (Cl.Bn hbd) (C7.Bn hbd) (by omega) (by simp;omega) (by omega));clear hst hb e1 e2 hk hr Bj Ap hz ih hwf hnd Bv By Ft Dh B0 hzz Et G3 Cj B8 h31 hse hn3 C7 hzzz hk3 Cl h31';unfold C5;go_enter Tryz.func192,Tryz.ntmps192;go_wp2_with fail
  refine(HC.o).mono ?_;rintro e w1 ⟨rfl,Ah,A1⟩;have A9:=A0 Ah;have A5:Hid (A3 D w w1):=A1;clear Ah A1 d0 ld;have Bm:=(A5.o.block b hD).trans HBk.o;have d1:=A2 Bm 2 _ rfl;have ld:=A4 Bm;clear Bm;go_wp2_with fail
  refine(F2.o _ _ A9.o A5.o).mono ?_;rintro e w2 ⟨rfl,Au,A8⟩;have Ak:=A0 Au;have Aa:Hid (A3 D w w2):=A5.o.trans A8;clear Au A8 d1 ld;have D6:=(Aa.o.block b hD).trans HBk.o;have d2:=A2 D6 3 _ rfl;have ld:=A4 D6;clear D6;go_wp2_with fail
  refine(HC3.o _ _ Ak.o Aa.o).mono ?_;rintro e w3 ⟨rfl,Bx,Aj⟩;have Bh:=A0 Bx;have At:Hid (A3 D w w3):=Aa.o.trans Aj;clear Bx Aj ;go_wp2;go_end0;exact⟨rfl,Bh.o,At.o⟩
theorem All(K:CC)(l:A6)(c:BT A6)(hk:l.kd=23)(ih:Cx (Part K) c)(hwf:Wf 3 c):K3 K l c:=by
 intro D w outer cur bl wh inn f rc v ks hst hn hr Bv By Ft;obtain⟨hlo,lcb,hncb⟩:=hst.lo;unfold Bo at hn;rw[if_neg (by omega)]at hn;obtain⟨b,cs,rfl,hD,hb,hl⟩:=hn;have e1:Cb l.kd=255:=by rw[hk];rfl
 have e2:De l.kd=317:=by rw[hk];rfl
 rw[e1];rw[e2]at hb;unfold Cr at hl;simp only[hk]at hl;obtain⟨t,x,s1,n1,m1,rfl,rfl⟩:=hl;have hnd:=Iq K.fns l c (by omega) (by omega) (by omega) outer cur wh inn f;rw[Ki (by omega)]at hnd;rw[hnd];have d0:=A2 hb 1 _ rfl;have ld:=A4 hb;have HBk:=A0 hb;rw[Cd]at Bv By Ft;have D8:=fun(v:Value) (w:World)=>Bc (P:=Tryz.prog) (t:=255) (T:=143) (xT:=142) (z:=.pointer none) Tryz.underlying143 (by kernel_rfl) (by decide) v w;have Dr:=fun(v:Value) (w:World)=>Bc (P:=Tryz.prog) (t:=255) (T:=145) (xT:=142) (z:=.pointer none) Tryz.underlying145 (by kernel_rfl) (by decide) v w;have Ee:=fun(v:Value) (w:World)=>Bc (P:=Tryz.prog) (t:=255) (T:=253) (xT:=142) (z:=.pointer none) Tryz.underlying253 (by kernel_rfl) (by decide) v w;have F8:=fun(v:Value) (w:World)=>Dv (P:=Tryz.prog) (xT:=142) Tryz.underlying255 v w;obtain⟨x1,y1,l1,c1,r1,D5,rfl,Bj,Ap,hz⟩:=hr.cons';obtain⟨x2,y2,l2,c2,r2,Gk,rfl,Dh,B0,hzz⟩:=hz.cons';obtain rfl:=hzz.nil';obtain⟨Et,G3⟩:=hwf.Ow.1 Bj.Px.2;obtain⟨Cj,B8⟩:=Dh.No;obtain⟨h32,_⟩:=hwf.1.Ow.2 Cj;simp only[bsize]at Bv By Ft;have hse:Bp K.fns (.node x1 y1 l1 c1 (.node x2 y2 l2 c2 .nil)) outer cur wh inn f=(cur,(Bp K.fns c2 (outer++cur) [] (wh+1) inn (Bp K.fns (nd l1 c1) outer cur wh inn f).2).2):=by
  rw[sens_xy' K.fns x1,Kc K.fns _ (Wf.Qb Et G3),Jq,Ag0 K.fns c2 h32]
 rw[hse];have HC:=A0 (ih.1.1 Et D w outer cur _ wh inn f rc _ D5 hst Bj Ap);have F2:=A0 (fun W g (hs:K.St D W (outer++cur) (bl++[outer.length]) (wh+1) inn g rc) (hbd:A3 D w W)=>Qf K c2 (ih.2.1.2 Cj) D W (outer++cur) (bl++[outer.length]) (wh+1) inn g rc s1 n1 m1 Gk hs (B8.Bn hbd) (B0.Bn hbd) (by omega) (by simp;omega) (by omega));have hwh:wh+1<=700000:=by omega
 clear hst hb e1 e2 hk hr Bj Ap hz ih hwf hnd Bv By Ft Dh B0 hzz Et G3 Cj B8 h32 hse;unfold C5;go_enter Tryz.func192,Tryz.ntmps192;go_wp2_with fail
 refine(HC.o).mono ?_;rintro e w1 ⟨rfl,Ah,A1⟩;have A9:=A0 Ah;have A5:Hid (A3 D w w1):=A1;clear Ah A1 d0 ld;have Bm:=(A5.o.block b hD).trans HBk.o;have ld:=A4 Bm;clear Bm;obtain⟨na,nn,nc,ba,bn,bc,la,ln,lc,ls,hv⟩:=A9.o.st;have lcb1:=A4 hv.cell;have HV:=A0 hv;have HP:=A0 (A6q hv.W4 (by rw[hv.lsl];omega) (some ⟨b,0,none⟩) (by simp));clear hv;go_wp2_with fail
 refine HP.o.mono ?_;rintro e w2 ⟨rfl,hp2⟩;obtain⟨k1,k2⟩:=HV.o.Vi _ (by omega) hp2;have Ak:=A0 (A9.o.next k1 k2);have Aa:Hid (A3 D w w2):=A5.o.trans k2;have D6:=(Aa.o.block b hD).trans HBk.o;clear ld k1 k2 hp2 lcb1;have d2:=A2 D6 2 _ rfl;have ld:=A4 D6;clear D6;go_wp2_with fail
 refine(F2.o _ _ Ak.o Aa.o).mono ?_;rintro e w3 ⟨rfl,Bx,Aj⟩;have Bh:=A0 Bx;have At:Hid (A3 D w w3):=Aa.o.trans Aj;clear Bx Aj d2 ld;obtain⟨na3,nn3,nc3,ba3,bn3,bc3,la3,ln3,lc3,ls3,hv3⟩:=Bh.o.st;have lcb3:=A4 hv3.cell;have HV3:=A0 hv3;have hl3:=hv3.lsl;have Bl:=A0 (Aaz hv3.W4 (by omega) wh (by omega) hl3 (by simp));clear hv3;go_wp2_with fail
 refine Bl.o.mono ?_;rintro e w4 ⟨rfl,hp4⟩;obtain⟨k3,k4⟩:=HV3.o.A3t wh (by omega) hp4;have Ep:=A0 (Bh.o.next k3 k4);have Ci:Hid (A3 D w w4):=At.o.trans k4;clear k3 k4 hp4;go_wp2;go_end0;exact⟨rfl,Ep.o,Ci.o⟩
theorem k8(K:CC):∀f:BT A6,bsize f<=500000->(Wf 1 f->Cx (K3 K) f)/\(Wf 2 f->Cx (Part K) f)/\(Wf 3 f->Cx (Part K) f):=by
 intro f;induction f with
 | nil=>intro _;exact⟨fun _=>trivial,fun _=>trivial,fun _=>trivial⟩
 | node x y l c r Dm Cw=>
  intro hs;rw[bsize]at hs;obtain⟨i1,i2,i3⟩:=Dm (by omega);obtain⟨j1,j2,j3⟩:=Cw (by omega);refine⟨fun h=>⟨?_,j1 h.1⟩,fun h=>⟨⟨fun hx=>?_,fun hx=>i1 (h.La.2 hx).2⟩,j2 h.1⟩,fun h=>⟨⟨fun hx=>?_,fun hx=>i1 (h.Ow.2 hx).2⟩,j3 h.1⟩⟩
  ·rcases h.2 with⟨h0,_⟩|⟨h0,_⟩|⟨h0,_⟩|⟨_,h1,h2⟩|⟨_,h1,h2⟩|⟨_,h1,h2⟩|⟨h0,_⟩
   ·omega
   ·omega
   ·omega
   ·exact A6s K l c h1 (i2 h2) h2
   ·exact All K l c h1 (i3 h2) h2
   ·have hx:=Uq K c h2 (by omega);unfold Oo at h1;simp only[Bool.or_eq_true,Bool.and_eq_true,decide_eq_true_eq,beq_iff_eq]at h1;have hc:l.kd=21\/l.kd=24\/l.kd=25\/l.kd=26\/l.kd=27\/l.kd=28\/l.kd=29\/l.kd=30:=by omega
    rcases hc with e|e|e|e|e|e|e|e
    ·exact A2x K l c e hx h2
    ·exact Adx K l c e hx h2
    ·exact Als K l c e
    ·exact Aca K l c e
    ·exact Ahh K l c e hx h2
    ·exact A7x K l c e hx h2
    ·exact Ams K l c e hx h2
    ·exact Am9 K l c e hx h2
   ·omega
  ·have hw:=h.La.1 (Ob hx).1;exact(Uq K (nd l c) (Wf.Qb hw.1 hw.2) (by rw[Cd];omega)).1
  ·have hw:=h.Ow.1 (Ob hx).2.1;exact(Uq K (nd l c) (Wf.Qb hw.1 hw.2) (by rw[Cd];omega)).1
end
end Go.Proofs.YtjdlndhfaaolaaaGreatDoor
