import Derived.Test.YtjdlndhfaaolaaaGreatDoorY34
set_option maxHeartbeats 20000000
set_option linter.all false
namespace Go.Proofs.YtjdlndhfaaolaaaGreatDoor
section
set_option maxRecDepth 100000
open Go.RowKit
open Go.Deep (BT)
variable {C:MC} {D X:Nat->Prop} {w w':World} {m:MS} {β:Nat->Nat}
def z5xa {P:Prop} (h:P:=by simp[results,Tryz.results216,go_sem]):P:=h
def Acs(h:C.Ms D X β w m)(i:Aa)(ho:i.op=20)(hz:m.top.n=0):Calls Tryz.prog 216 #[.p C.mb,Ac i] w (MP C D X β w (m.pop.pop.fail 6 i) (.tuple #[])):=by
 obtain⟨w0,As,Av,Ag,Ao,Aw,nn,lb,C9⟩:=h.Ci i;have t19:((i.op:Int)==19)=false:=by rw[ho];rfl
 have t20:((i.op:Int)==20)=true:=by rw[ho];rfl
 clear ho;have tz:(m.top.n==0)=true:=by rw[hz];rfl
 have HT:=F1 Av.o;unfold Ac;go_in;go_wp2_with fail
 rw[←As.o];refine HT.mono ?_;rintro e w1 ⟨rfl,h1,k1⟩;unfold B7;have Bn:=h1.B3;have A9:A3 (dx D X) w w1:=Ag.o.trans (Ae k1);have An:=(k1.block _ Ao.o).trans Aw.o;have nn:=Bi An;have Bk:=fun(W:World) (hb:Bw w1 W)=>C3 ((fun hs=>Ih hs 6 i) (h1.below hb).1) (A9.trans (Ae (h1.below hb).2));unfold Ac at Bk;go_wp2_with fail
 refine((Bk _ z4na).1).mono ?_;rintro e w2 ⟨rfl,h2,k2⟩;have Au:=A0 h2.back;have Ab:A3 (dx D X) w w2:=(Bk _ z4na).2.trans (Ae k2);go_wp2;refine B9 (v:=.tuple #[]) z5xa rfl ?_;exact z4ja
def z1da {P:Prop} (h:P:=by
  (try unfold Ac at Bk);go_wp2_with fail
  refine((Bk _ z4na).1).mono ?_;rintro e w2 ⟨rfl,h2,k2⟩;have Au:=A0 h2.back;have Ab:A3 (dx D X) w w2:=(Bk _ z4na).2.trans (Ae k2);go_wp2;go_end0;exact⟨rfl,Au.o,Ab⟩):P:=h
def Acr(h:C.Ms D X β w m)(i:Aa)(ho:i.op=20)(hz:m.top.n≠0)(hn:m.vals.length+1<=90000000000):Calls Tryz.prog 216 #[.p C.mb,Ac i] w (MP C D X β w (m.pop.pop.push (ofInt (wr (m.pop.top.n.tdiv m.top.n)))) (.tuple #[])):=by
 obtain⟨w0,As,Av,Ag,Ao,Aw,nn,lb,C9⟩:=h.Ci i;have t19:((i.op:Int)==19)=false:=by rw[ho];rfl
 have t20:((i.op:Int)==20)=true:=by rw[ho];rfl
 clear ho;have tz:(m.top.n==0)=false:=by rw[Am];exact hz
 have HT:=F1 Av.o;unfold Ac;go_in;go_wp2_with fail
 rw[←As.o];refine HT.mono ?_;rintro e w1 ⟨rfl,h1,k1⟩;unfold B7;have Bn:=h1.B3;have A9:A3 (dx D X) w w1:=Ag.o.trans (Ae k1);have An:=(k1.block _ Ao.o).trans Aw.o;have nn:=Bi An;have Bk:=fun(W:World) (hb:Bw w1 W)=>C3 ((fun hs=>Oi hs (wr (m.pop.top.n.tdiv m.top.n)) z4ta) (h1.below hb).1) (A9.trans (Ae (h1.below hb).2));exact z1da
def z1ba {P:Prop} (h:P:=by
  (try unfold Ac at C2);go_wp2_with fail
  refine((C2.o _ z4na).1).mono ?_;rintro e w3 ⟨rfl,h3,k3⟩;have Bu:=A0 h3.back;have Ba:Hid (A3 (dx D X) w w3):=(C2.o _ z4na).2.trans (Ae k3);go_wp2;go_end0;exact⟨rfl,Bu.o,Ba.o⟩):P:=h
def Acq(h:C.Ms D X β w m)(i:Aa)(ho:i.op=19)(hn:m.vals.length+1<=90000000000):Calls Tryz.prog 216 #[.p C.mb,Ac i] w (MP C D X β w (m.ints i (fun a b m'=>if b=0 then m'.fail 6 i else m'.push (ofInt (wr (a.tdiv b))))) (.tuple #[])):=by
 obtain⟨w0,As,Av,Ag,Ao,Aw,nn,lb,C9⟩:=h.Ci i;have t0:((i.op:Int)==19)=true:=by rw[ho];rfl
 clear ho;unfold MS.ints;cases hb:m.both 2
 ·rw[A1 z4ra];have HA:=A0 (Wa Av.o i hb);unfold Ac at HA;unfold Ac;go_in;go_wp2_with fail
  rw[←As.o];refine HA.o.mono ?_;rintro e w1 ⟨rfl,h1,k1⟩;have B5:=A0 h1.back;have A9:Hid (A3 (dx D X) w w1):=Ag.o.trans (Ae k1);go_wp2;refine B9 (v:=.tuple #[]) z5xa rfl ?_;exact⟨rfl,B5.o,A9.o⟩
 ·rw[A7 rfl];have HA:=A0 (Wb Av.o i hb);unfold Ac at HA;unfold MS.two;dsimp only;by_cases hz:m.top.n=0
  ·rw[A7 hz];have tz:(m.top.n==0)=true:=by rw[hz];rfl
   unfold Ac;go_in;go_wp2_with fail
   rw[←As.o];refine HA.o.mono ?_;rintro e w1 ⟨rfl,h1,k1⟩;have Bn:=h1.B3;have B5:=A0 h1;have A9:Hid (A3 (dx D X) w w1):=Ag.o.trans (Ae k1);have An:=(k1.block _ Ao.o).trans Aw.o;have HI1:=A0 An;have nn:=Bi An;have HT:=A0 (F1 B5.o);go_wp2_with fail
   refine HT.o.mono ?_;rintro e w2 ⟨rfl,h2,k2⟩;unfold B7;have Ed:=h2.B3;have Au:=A0 h2;have Ab:Hid (A3 (dx D X) w w2):=A9.o.trans (Ae k2);have Ct:=(k2.block _ Ao.o).trans HI1.o;have HI2:=A0 Ct;have nn:=Bi Ct;have C2:=A0 (fun(W:World) (hb:Bw w2 W)=>C3 ((fun hs=>Ih hs 6 i) (Au.o.below hb).1) (Ab.o.trans (Ae (Au.o.below hb).2)));unfold Ac at C2;go_wp2_with fail
   refine((C2.o _ z4na).1).mono ?_;rintro e w3 ⟨rfl,h3,k3⟩;have Bu:=A0 h3.back;have Ba:Hid (A3 (dx D X) w w3):=(C2.o _ z4na).2.trans (Ae k3);go_wp2;refine B9 (v:=.tuple #[]) z5xa rfl ?_;exact⟨rfl,Bu.o,Ba.o⟩
  ·rw[A1 hz];have tz:(m.top.n==0)=false:=by rw[Am];exact hz
   unfold Ac;go_in;go_wp2_with fail
   rw[←As.o];refine HA.o.mono ?_;rintro e w1 ⟨rfl,h1,k1⟩;have Bn:=h1.B3;have B5:=A0 h1;have A9:Hid (A3 (dx D X) w w1):=Ag.o.trans (Ae k1);have An:=(k1.block _ Ao.o).trans Aw.o;have HI1:=A0 An;have nn:=Bi An;have HT:=A0 (F1 B5.o);go_wp2_with fail
   refine HT.o.mono ?_;rintro e w2 ⟨rfl,h2,k2⟩;unfold B7;have Ed:=h2.B3;have Au:=A0 h2;have Ab:Hid (A3 (dx D X) w w2):=A9.o.trans (Ae k2);have Ct:=(k2.block _ Ao.o).trans HI1.o;have HI2:=A0 Ct;have nn:=Bi Ct;have C2:=A0 (fun(W:World) (hb:Bw w2 W)=>C3 ((fun hs=>Oi hs (wr (m.pop.top.n.tdiv m.top.n)) z4ta) (Au.o.below hb).1) (Ab.o.trans (Ae (Au.o.below hb).2)));exact z1ba
def z5wa {P:Prop} (h:P:=by simp[results,Tryz.results217,go_sem]):P:=h
def Adz(h:C.Ms D X β w m)(i:Aa)(ho:i.op=22)(hz:m.top.n=0):Calls Tryz.prog 217 #[.p C.mb,Ac i] w (MP C D X β w (m.pop.pop.fail 6 i) (.tuple #[])):=by
 obtain⟨w0,As,Av,Ag,Ao,Aw,nn,lb,C9⟩:=h.Ci i;have t21:((i.op:Int)==21)=false:=by rw[ho];rfl
 have t22:((i.op:Int)==22)=true:=by rw[ho];rfl
 clear ho;have tz:(m.top.n==0)=true:=by rw[hz];rfl
 have HT:=F1 Av.o;unfold Ac;go_in;go_wp2_with fail
 rw[←As.o];refine HT.mono ?_;rintro e w1 ⟨rfl,h1,k1⟩;unfold B7;have Bn:=h1.B3;have A9:A3 (dx D X) w w1:=Ag.o.trans (Ae k1);have An:=(k1.block _ Ao.o).trans Aw.o;have nn:=Bi An;have Bk:=fun(W:World) (hb:Bw w1 W)=>C3 ((fun hs=>Ih hs 6 i) (h1.below hb).1) (A9.trans (Ae (h1.below hb).2));unfold Ac at Bk;go_wp2_with fail
 refine((Bk _ z4na).1).mono ?_;rintro e w2 ⟨rfl,h2,k2⟩;have Au:=A0 h2.back;have Ab:A3 (dx D X) w w2:=(Bk _ z4na).2.trans (Ae k2);go_wp2;refine B9 (v:=.tuple #[]) z5wa rfl ?_;exact z4ja
def Ady(h:C.Ms D X β w m)(i:Aa)(ho:i.op=22)(hz:m.top.n≠0)(hn:m.vals.length+1<=90000000000):Calls Tryz.prog 217 #[.p C.mb,Ac i] w (MP C D X β w (m.pop.pop.push (ofInt ( (m.pop.top.n.tmod m.top.n)))) (.tuple #[])):=by
 obtain⟨w0,As,Av,Ag,Ao,Aw,nn,lb,C9⟩:=h.Ci i;have t21:((i.op:Int)==21)=false:=by rw[ho];rfl
 have t22:((i.op:Int)==22)=true:=by rw[ho];rfl
 clear ho;have tz:(m.top.n==0)=false:=by rw[Am];exact hz
 have HT:=F1 Av.o;unfold Ac;go_in;go_wp2_with fail
 rw[←As.o];refine HT.mono ?_;rintro e w1 ⟨rfl,h1,k1⟩;unfold B7;have Bn:=h1.B3;have A9:A3 (dx D X) w w1:=Ag.o.trans (Ae k1);have An:=(k1.block _ Ao.o).trans Aw.o;have nn:=Bi An;have Bk:=fun(W:World) (hb:Bw w1 W)=>C3 ((fun hs=>Oi hs ( (m.pop.top.n.tmod m.top.n)) z4ta) (h1.below hb).1) (A9.trans (Ae (h1.below hb).2));exact z1da
def Adx(h:C.Ms D X β w m)(i:Aa)(ho:i.op=21)(hn:m.vals.length+1<=90000000000):Calls Tryz.prog 217 #[.p C.mb,Ac i] w (MP C D X β w (m.ints i (fun a b m'=>if b=0 then m'.fail 6 i else m'.push (ofInt ( (a.tmod b))))) (.tuple #[])):=by
 obtain⟨w0,As,Av,Ag,Ao,Aw,nn,lb,C9⟩:=h.Ci i;have t0:((i.op:Int)==21)=true:=by rw[ho];rfl
 clear ho;unfold MS.ints;cases hb:m.both 2
 ·rw[A1 z4ra];have HA:=A0 (Wa Av.o i hb);unfold Ac at HA;unfold Ac;go_in;go_wp2_with fail
  rw[←As.o];refine HA.o.mono ?_;rintro e w1 ⟨rfl,h1,k1⟩;have B5:=A0 h1.back;have A9:Hid (A3 (dx D X) w w1):=Ag.o.trans (Ae k1);go_wp2;refine B9 (v:=.tuple #[]) z5wa rfl ?_;exact⟨rfl,B5.o,A9.o⟩
 ·rw[A7 rfl];have HA:=A0 (Wb Av.o i hb);unfold Ac at HA;unfold MS.two;dsimp only;by_cases hz:m.top.n=0
  ·rw[A7 hz];have tz:(m.top.n==0)=true:=by rw[hz];rfl
   unfold Ac;go_in;go_wp2_with fail
   rw[←As.o];refine HA.o.mono ?_;rintro e w1 ⟨rfl,h1,k1⟩;have Bn:=h1.B3;have B5:=A0 h1;have A9:Hid (A3 (dx D X) w w1):=Ag.o.trans (Ae k1);have An:=(k1.block _ Ao.o).trans Aw.o;have HI1:=A0 An;have nn:=Bi An;have HT:=A0 (F1 B5.o);go_wp2_with fail
   refine HT.o.mono ?_;rintro e w2 ⟨rfl,h2,k2⟩;unfold B7;have Ed:=h2.B3;have Au:=A0 h2;have Ab:Hid (A3 (dx D X) w w2):=A9.o.trans (Ae k2);have Ct:=(k2.block _ Ao.o).trans HI1.o;have HI2:=A0 Ct;have nn:=Bi Ct;have C2:=A0 (fun(W:World) (hb:Bw w2 W)=>C3 ((fun hs=>Ih hs 6 i) (Au.o.below hb).1) (Ab.o.trans (Ae (Au.o.below hb).2)));unfold Ac at C2;go_wp2_with fail
   refine((C2.o _ z4na).1).mono ?_;rintro e w3 ⟨rfl,h3,k3⟩;have Bu:=A0 h3.back;have Ba:Hid (A3 (dx D X) w w3):=(C2.o _ z4na).2.trans (Ae k3);go_wp2;refine B9 (v:=.tuple #[]) z5wa rfl ?_;exact⟨rfl,Bu.o,Ba.o⟩
  ·rw[A1 hz];have tz:(m.top.n==0)=false:=by rw[Am];exact hz
   unfold Ac;go_in;go_wp2_with fail
   rw[←As.o];refine HA.o.mono ?_;rintro e w1 ⟨rfl,h1,k1⟩;have Bn:=h1.B3;have B5:=A0 h1;have A9:Hid (A3 (dx D X) w w1):=Ag.o.trans (Ae k1);have An:=(k1.block _ Ao.o).trans Aw.o;have HI1:=A0 An;have nn:=Bi An;have HT:=A0 (F1 B5.o);go_wp2_with fail
   refine HT.o.mono ?_;rintro e w2 ⟨rfl,h2,k2⟩;unfold B7;have Ed:=h2.B3;have Au:=A0 h2;have Ab:Hid (A3 (dx D X) w w2):=A9.o.trans (Ae k2);have Ct:=(k2.block _ Ao.o).trans HI1.o;have HI2:=A0 Ct;have nn:=Bi Ct;have C2:=A0 (fun(W:World) (hb:Bw w2 W)=>C3 ((fun hs=>Oi hs ( (m.pop.top.n.tmod m.top.n)) z4ta) (Au.o.below hb).1) (Ab.o.trans (Ae (Au.o.below hb).2)));exact z1ba
def Adk(h:C.Ms D X β w m)(i:Aa)(ho:i.op=23)(hk:m.top.k≠2):Calls Tryz.prog 218 #[.p C.mb,Ac i] w (MP C D X β w (m.fail 5 i) (.tuple #[])):=by
 obtain⟨w0,As,Av,Ag,Ao,Aw,nn,lb,C9⟩:=h.Ci i;have t23:((i.op:Int)==23)=true:=by rw[ho];rfl
 clear ho;have tk:(((m.top.k:Nat):Int) !=2)=true:=by rw[P8];omega
 have vf0:=Uv;have HT:=A0 Av.o.top;unfold Ac;go_in;go_wp2_with fail
 rw[←As.o];refine HT.o.mono ?_;rintro e w1 ⟨rfl,h1,k1⟩;unfold B7;have Bn:=h1.B3;have A9:A3 (dx D X) w w1:=Ag.o.trans (Ae k1);have An:=(k1.block _ Ao.o).trans Aw.o;have nn:=Bi An;have Bk:=fun(W:World) (hb:Bw w1 W)=>C3 ((fun hs=>Ih hs 5 i) (h1.below hb).1) (A9.trans (Ae (h1.below hb).2));unfold Ac at Bk;go_wp2_with fail
 refine((Bk _ z4na).1).mono ?_;rintro e w2 ⟨rfl,h2,k2⟩;have Au:=A0 h2.back;have Ab:A3 (dx D X) w w2:=(Bk _ z4na).2.trans (Ae k2);go_wp2;refine B9 (v:=.tuple #[]) (by simp[results,Tryz.results218,go_sem]) rfl ?_;exact z4ja
def Adm(h:C.Ms D X β w m)(i:Aa)(ho:i.op=23)(hk:m.top.k=2)(hn:m.vals.length+1<=90000000000):Calls Tryz.prog 218 #[.p C.mb,Ac i] w (MP C D X β w (m.pop.push (ofInt (wr (-m.top.n)))) (.tuple #[])):=by
 obtain⟨w0,As,Av,Ag,Ao,Aw,nn,lb,C9⟩:=h.Ci i;have t23:((i.op:Int)==23)=true:=by rw[ho];rfl
 clear ho;have tk:(((m.top.k:Nat):Int) !=2)=false:=by rw[hk];rfl
 have vf0:=Uv;have vf2:=Aa2;have HT:=A0 Av.o.top;unfold Ac;go_in;go_wp2_with fail
 rw[←As.o];refine HT.o.mono ?_;rintro e w1 ⟨rfl,h1,k1⟩;unfold B7;have Bn:=h1.B3;have A9:A3 (dx D X) w w1:=Ag.o.trans (Ae k1);have An:=(k1.block _ Ao.o).trans Aw.o;have nn:=Bi An;have HQ:=A0 h1.pop;go_wp2_with fail
 refine HQ.o.mono ?_;rintro e w2 ⟨rfl,h2,k2⟩;unfold B7;have Ed:=h2.B3;have Ab:A3 (dx D X) w w2:=A9.trans (Ae k2);have Ct:=(k2.block _ Ao.o).trans An;have nn:=Bi Ct;have C2:=fun(W:World) (hb:Bw w2 W)=>C3 ((fun hs=>Oi hs (wr (-m.top.n)) z4ta) (h2.below hb).1) (Ab.trans (Ae (h2.below hb).2));unfold Ac at C2;go_wp2_with fail
 refine((C2 _ z4na).1).mono ?_;rintro e w3 ⟨rfl,h3,k3⟩;have Bu:=A0 h3.back;have Ba:A3 (dx D X) w w3:=(C2 _ z4na).2.trans (Ae k3);exact z4la
def MC.Ms.n9(h:C.Ms D X β w m){i:Nat}(hi:i<m.arr.length):∃a c,w.cell? ⟨β i,0,none⟩=some (.slice a m.arr[i].length c)/\β i<w.heap.size/\w.ownsRow 0 225 5 (.slice a m.arr[i].length c) m.arr[i].length (C0 (Cj β) m.arr[i]):=by
 obtain⟨ρ,s,x,fv,ab,lp,hv⟩:=h;have hl:=hv.arr.len;obtain⟨h1,h2,_⟩:=hv.arr.at' i z4ma hi;have hn:(ab[i]'z4ma).2.1=m.arr[i].length:=(Cm h2).1;have c0:=A4 h1 0 _ rfl;unfold Nc at c0 h2;rw[hn]at c0 h2;exact⟨_,_,c0,A6 h1,h2⟩
def Gj(m:MS)(v:PV):Value:=.tuple #[.i (((sizeOf' m v).getD 0:Nat):Int),.bool (sizeOf' m v).isSome]
def z5ya {P:Prop} (h:P:=by simp[results,Tryz.results209,go_sem]):P:=h
def T0(h:C.Ms D X β w m)(v:PV)(hv:Ca m.arr.length v):Calls Tryz.prog 209 #[B7 β v] w fun e w'=>e=.returned (Gj m v)/\Bw w w':=by
 have hbl:Bw w (w.alloc (.cells #[.n v.k,.bool v.y,.i v.n,.s v.t,.pointer (Bf β v)] 225)):=Ah (Al _ _) (Af _) _;have HB:=A0 hbl;unfold B7;by_cases h3:v.k=3
 ·have e:Gj m v=.tuple #[.n v.t.length,.bool true]:=by unfold Gj sizeOf';rw[A7 h3];rfl
  rw[e];have t3:((v.k:Int)==3)=true:=by rw[h3];rfl
  clear h3 e hbl;go_in;go_wp2;exact B9 (v:=.tuple #[.n v.t.length,.bool true]) z5ya rfl ⟨rfl,HB.o⟩
 ·have t3:((v.k:Int)==3)=false:=by simp;omega
  by_cases h4:v.k=4
  ·have t4:((v.k:Int)==4)=true:=by rw[h4];rfl
   obtain⟨i,hr,hi⟩:∃i,v.r=some i/\i<m.arr.length:=by
    unfold Ca at hv;split at hv
    ·exact absurd h4 hv
    ·rename_i i hr;exact⟨i,hr,hv.2⟩
   have e:Gj m v=.tuple #[.n (m.arr[i].length),.bool true]:=by unfold Gj sizeOf';rw[A1 h3,A7 h4,hr];simp[Eh hi]
   have er:Bf β v=some ⟨β i,0,none⟩:=by unfold Bf;rw[hr]
   rw[e,er];rw[er]at HB hbl;obtain⟨a,c,c0,lb,_⟩:=h.n9 hi;have c1:=(D9 (hbl.block _ lb)).trans c0;generalize m.arr[i].length=n at *;clear h3 h4 e hbl hr er hv h c0;go_in;go_wp2;exact B9 (v:=.tuple #[.n n,.bool true]) z5ya rfl ⟨rfl,HB.o⟩
  ·have t4:((v.k:Int)==4)=false:=by simp;omega
   have e:Gj m v=.tuple #[.i 0,.bool false]:=by unfold Gj sizeOf';rw[A1 h3,A1 h4];rfl
   rw[e];clear h3 h4 e hbl;go_in;go_wp2;exact B9 (v:=.tuple #[.i 0,.bool false]) z5ya rfl ⟨rfl,HB.o⟩
def Ada(h:C.Ms D X β w m)(i:Aa)(hv:Ca m.arr.length m.top)(hs:Gj m.pop m.top=.tuple #[.i 0,.bool false]):Calls Tryz.prog 162 #[.p C.mb,Ac i] w (MP C D X β w (m.pop.fail 5 i) (.tuple #[])):=by
 obtain⟨w0,As,Av,Ag,Ao,Aw,n0,n1,n2,n3,n4,n5,n6,n7,ln,lb,C9⟩:=h.Ci i;have HP:=A0 Av.o.pop;have vf0:=Uv;unfold Ac;go_in;go_wp2_with fail
 rw[←As.o];refine HP.o.mono ?_;rintro e w1 ⟨rfl,h1,k1⟩;have Bn:=h1.B3;have A9:A3 (dx D X) w w1:=Ag.o.trans (Ae k1);have An:=(k1.block _ Ao.o).trans Aw.o;obtain⟨n0,n1,n2,n3,n4,n5,n6,n7,ln⟩:=Bi An;have HSz:=fun(W:World) (hb:Bw w1 W)=>T0 (h1.below hb).1 m.top hv;rw[show Gj m.pop m.top=_ from hs]at HSz;unfold B7 at HSz ⊢;generalize m.top=u at *;go_wp2_with fail
 refine(HSz _ z4na).mono ?_;rintro e w2 ⟨rfl,Ad⟩;have Ay:Bw w1 w2:=Ib z4na (Ad.mono z4ra);have Ct:=(Ay.block _ ln).trans An;have lw:=Ay.size;obtain⟨n0,n1,n2,n3,n4,n5,n6,n7,Hv⟩:=Bi Ct;have Ed:C.mb<w2.heap.size:=by omega
 have C2:=fun(W:World) (hb:Bw w2 W)=>C3 (Ih (h1.below (Ay.trans (hb.mono lw))).1 5 i) (A9.trans (Ae (h1.below (Ay.trans (hb.mono lw))).2));unfold Ac at C2;go_wp2_with fail
 refine((C2 _ z4na).1).mono ?_;rintro e w3 ⟨rfl,h3,k3⟩;have Bu:=A0 h3.back;have Ba:A3 (dx D X) w w3:=(C2 _ z4na).2.trans (Ae k3);go_wp2;refine B9 (v:=.tuple #[]) (by simp[results,Tryz.results162,go_sem]) rfl ?_;exact⟨rfl,Bu.o,Ba⟩
def Adb(h:C.Ms D X β w m)(i:Aa)(hv:Ca m.arr.length m.top){n:Nat}(hs:Gj m.pop m.top=.tuple #[.n n,.bool true])(hn:m.vals.length<=90000000000):Calls Tryz.prog 162 #[.p C.mb,Ac i] w (MP C D X β w (m.pop.push (ofInt n)) (.tuple #[])):=by
 obtain⟨w0,As,Av,Ag,Ao,Aw,n0,n1,n2,n3,n4,n5,n6,n7,ln,lb,C9⟩:=h.Ci i;have HP:=A0 Av.o.pop;have vf0:=Uv;unfold Ac;go_in;go_wp2_with fail
 rw[←As.o];refine HP.o.mono ?_;rintro e w1 ⟨rfl,h1,k1⟩;have Bn:=h1.B3;have A9:A3 (dx D X) w w1:=Ag.o.trans (Ae k1);have An:=(k1.block _ Ao.o).trans Aw.o;obtain⟨n0,n1,n2,n3,n4,n5,n6,n7,ln⟩:=Bi An;have HSz:=fun(W:World) (hb:Bw w1 W)=>T0 (h1.below hb).1 m.top hv;rw[show Gj m.pop m.top=_ from hs]at HSz;unfold B7 at HSz ⊢;generalize m.top=u at *;go_wp2_with fail
 refine(HSz _ z4na).mono ?_;rintro e w2 ⟨rfl,Ad⟩;have Ay:Bw w1 w2:=Ib z4na (Ad.mono z4ra);have Ct:=(Ay.block _ ln).trans An;have lw:=Ay.size;obtain⟨n0,n1,n2,n3,n4,n5,n6,n7,Hv⟩:=Bi Ct;have Ed:C.mb<w2.heap.size:=by omega
 have hl:m.pop.vals.length+1<=90000000000\/m.vals.length=0:=by simp only[MS.pop,Sg];omega
 have hl1:m.pop.vals.length+1<=90000000000:=by simp only[MS.pop,Sg]at hl ⊢;omega
 have C2:=fun(W:World) (hb:Bw w2 W)=>C3 ((h1.below (Ay.trans (hb.mono lw))).1.push (ofInt n) (by simp[Ca,ofInt]) hl1) (A9.trans (Ae (h1.below (Ay.trans (hb.mono lw))).2));go_wp2;go_region_law (first
  | (refine F9 rfl 99 _ _ rfl #[.pointer (some ⟨C.mb,4,none⟩),.agg #[.i 2,.bool false,.i n,.string ⟨#[]⟩,.pointer none]] z4pa H8.o.1 ?_;rintro e w4 ⟨rfl,h4,k4⟩;refine⟨_,rfl,?_⟩;have Ft:=A0 h4.back;have D6:Hid (A3 (dx D X) w w4):=H8.o.2.trans (Ae k4);clear h4 k4)
  | (refine F9 rfl 85 _ _ rfl #[.i n] z4pa (Yh n _) ?_;rintro e w3 ⟨rfl,hb3'⟩;refine⟨_,rfl,?_⟩;have Bz:=Tx hb3';have H8:=A0 (C2 w3 Bz);have lb3:=Bz.size;clear Bz hb3'))
 all_goals go_wp2
 all_goals go_end0
 all_goals exact⟨rfl,Ft.o,D6.o⟩
def A7q(h:C.Ms D X β w m)(n:Nat)(i:Aa)(hc:m.cells+n<=500):Calls Tryz.prog 207 #[.p C.mb,.n n,Ac i] w (MP C D X β w { m with cells:=m.cells+n } (.bool true)):=by
 obtain⟨ρ,s,x,fv,ab,lp,h⟩:=h;obtain⟨c0,c1,c2,c3,c4,c5,c6,c7,c8,c9,c10,c11,c12,c13,fz,lb⟩:=Tz (show w.heap[C.mb]?=some (.cells #[_,_,_,_,_,_,_,_,_,_,_,_,_,_] _ (0,0)) from h.cell);have t0:¬(500:Int)-(m.cells:Int)<(n:Int):=by omega
 have HFu:((m.cells+n:Nat):Int)=(m.cells:Int)+n:=by show _=_;omega
 unfold Ac;go_in;go_wp2;go_ret;rw[←HFu];have hcl:((w.setCell ⟨C.mb,10,none⟩ (.n ((m.cells+n:Nat)))).alloc (.cells #[.n i.op,.i i.arg,.n i.line,.n i.v.k,.bool i.v.y,.i i.v.n,.s i.v.t,.pointer none] 251)).heap[C.mb]?=some (.cells (C.cells s x m.fuel (m.cells+n) m.code m.line) 167 (0,0)):=by
  rw[Ck _ _ _ z4sa,(heap_set (j:=10) h.cell (.n ((m.cells+n:Nat))))];simp[MC.cells]
 have hkk:∀g,g<w.heap.size->g≠C.mb->((w.setCell ⟨C.mb,10,none⟩ (.n ((m.cells+n:Nat)))).alloc (.cells #[.n i.op,.i i.arg,.n i.line,.n i.v.k,.bool i.v.y,.i i.v.n,.s i.v.t,.pointer none] 251)).heap[g]?=w.heap[g]?:=by
  exact z26a
 have hpl:=h.plain (now:=m.now) (fuel:=m.fuel) (cells:=m.cells+n) (code:=m.code) (line:=m.line) (x':=x) h.now hcl hkk z4za rfl rfl rfl;exact⟨rfl,hpl⟩
def A7p(h:C.Ms D X β w m)(n:Nat)(i:Aa)(hc:500<m.cells+n)(h5:m.cells<=500):Calls Tryz.prog 207 #[.p C.mb,.n n,Ac i] w (MP C D X β w (m.fail 10 i) (.bool false)):=by
 have Bq:Bw w (w.alloc (.cells #[.n i.op,.i i.arg,.n i.line,.n i.v.k,.bool i.v.y,.i i.v.n,.s i.v.t,.pointer none] 251)):=Ah (Al _ _) (Af _) _;obtain⟨h0,hd0⟩:=h.below Bq;have HF:=Ih h0 10 i;obtain⟨ρ,s,x,fv,ab,lp,h⟩:=h;obtain⟨c0,c1,c2,c3,c4,c5,c6,c7,c8,c9,c10,c11,c12,c13,fz,lb⟩:=Tz (show w.heap[C.mb]?=some (.cells #[_,_,_,_,_,_,_,_,_,_,_,_,_,_] _ (0,0)) from h.cell);have t0:(500:Int)-(m.cells:Int)<(n:Int):=by omega
 exact z1ja
def Wt(w:World)(a b c:Obj):∃W,W=((w.alloc a).alloc b).alloc c/\W.heap[w.heap.size]?=some a/\W.heap[w.heap.size+1]?=some b/\W.heap[w.heap.size+1+1]?=some c/\Bw w W/\W.heap.size=w.heap.size+3:=by
 have z0:=alloc_old (o':=c) (alloc_old (o':=b) (Bp w a));have z1:=alloc_old (o':=c) (Bp (w.alloc a) b);have z2:=Bp ((w.alloc a).alloc b) c;have hs:∀(v:World) (o:Obj),(v.alloc o).heap.size=v.heap.size+1:=fun v o=>by simp
 simp only[hs]at z0 z1 z2;exact⟨_,rfl,z0,z1,z2,Ah (Ah (Ah (Al _ _) (Af _) _) z4ra _) z4qa _,by simp⟩
def Kg{w:World}{b:Nat}{a0 a1 a2 a3 a4:Value}{t:TypeId}(h:w.heap[b]?=some (.cells #[a0,a1,a2,a3,a4] t (0,0))):w.cell? ⟨b,0,none⟩=some a0/\w.cell? ⟨b,1,none⟩=some a1/\w.cell? ⟨b,2,none⟩=some a2/\w.cell? ⟨b,3,none⟩=some a3/\w.cell? ⟨b,4,none⟩=some a4/\b<w.heap.size:=
 ⟨A4 h 0 _ rfl,A4 h 1 _ rfl,A4 h 2 _ rfl,A4 h 3 _ rfl,A4 h 4 _ rfl,A6 h⟩
def A1r(h:C.Ms D X β w m)(u p:PV)(i:Aa)(hv:Ca m.arr.length u){n:Nat}(hs:Gj m u=.tuple #[.n n,.bool true])(hk:p.k=2)(h0:0<=p.n)(h1:p.n<(n:Nat)):Calls Tryz.prog 211 #[.p C.mb,B7 β u,B7 β p,Ac i] w fun e w'=>e=.returned (.bool true)/\Bw w w':=by
 obtain⟨W,hW,z0,z1,z2,hbW,hsW⟩:=Wt w (.cells #[.n u.k,.bool u.y,.i u.n,.s u.t,.pointer (Bf β u)] 225) (.cells #[.n p.k,.bool p.y,.i p.n,.s p.t,.pointer (Bf β p)] 225) (.cells #[.n i.op,.i i.arg,.n i.line,.n i.v.k,.bool i.v.y,.i i.v.n,.s i.v.t,.pointer none] 251);have lb:=h.B3;have HSz:=T0 (h.below hbW).1 u hv;rw[show Gj m u=_ from hs]at HSz;have HS:=fun(V:World) (hb:Bw W V)=>(h.below (hbW.trans (hb.mono hbW.size)));have t0:(((p.k:Nat):Int) !=2)=false:=by rw[hk];rfl
 have t1:¬p.n<0:=by omega
 have t2:¬((n:Nat):Int)<=p.n:=by omega
 clear hk;clear hv hs h;have HW:=A0 hW;have HbW:=A0 hbW;unfold B7 Ac at *;clear hW hbW;go_in;go_wp2_with fail
 rw[←HW.o];obtain⟨y0,y1,y2,y3,y4,_⟩:=Kg z0;go_wp2_with fail
 refine HSz.mono ?_;rintro e w1 ⟨rfl,A2⟩;have q1:=(A2.block _ z4ma).trans z1;have q2:=(A2.block _ z4ma).trans z2;have ls1:=A2.size;obtain⟨s1,s2⟩:=HS w1 A2;have Bn:=s1.B3;obtain⟨p0,p1,p2,p3,p4,lp⟩:=Kg q1;have nn:=Bi q2;have B5:=A0 s1;have A9:=A0 s2;have HBl:Bw w w1:=HbW.o.trans (A2.mono HbW.o.size);clear y0 y1 y2 y3 y4 A2 s1 s2 q1 q2 z0 z1 z2 HSz HS;go_wp2;go_ret;exact⟨rfl,HBl⟩
def z0ma {P:Prop} (h:P:=by
  unfold B7 Ac at *;go_in;go_wp2_with fail
  rw[←hW];obtain⟨y0,y1,y2,y3,y4,_⟩:=Kg z0;go_wp2_with fail
  refine HSz.mono ?_;rintro e w1 ⟨rfl,A2⟩;have q1:=(A2.block _ z4ma).trans z1;have q2:=(A2.block _ z4ma).trans z2;have ls1:=A2.size;obtain⟨s1,s2⟩:=HS w1 A2;have Bn:=s1.B3;obtain⟨p0,p1,p2,p3,p4,lp⟩:=Kg q1;have nn:=Bi q2;have HF:=fun(V:World) (hb:Bw w1 V)=>C3 (Ih (s1.below hb).1 5 i) (s2.trans (s1.below hb).2);unfold Ac at HF;go_wp2_with fail
  refine((HF _ z4na).1).mono ?_;rintro e w2 ⟨rfl,h2,k2⟩;have Ab:A3 (dx D X) w w2:=(HF _ z4na).2.trans k2;go_wp2;go_ret;exact⟨rfl,h2,Ab⟩):P:=h
def A7o(h:C.Ms D X β w m)(u p:PV)(i:Aa)(hv:Ca m.arr.length u){n:Nat}(hs:Gj m u=.tuple #[.n n,.bool true])(hk:p.k≠2):Calls Tryz.prog 211 #[.p C.mb,B7 β u,B7 β p,Ac i] w (MP C D X β w (m.fail 5 i) (.bool false)):=by
 obtain⟨W,hW,z0,z1,z2,hbW,hsW⟩:=Wt w (.cells #[.n u.k,.bool u.y,.i u.n,.s u.t,.pointer (Bf β u)] 225) (.cells #[.n p.k,.bool p.y,.i p.n,.s p.t,.pointer (Bf β p)] 225) (.cells #[.n i.op,.i i.arg,.n i.line,.n i.v.k,.bool i.v.y,.i i.v.n,.s i.v.t,.pointer none] 251);have lb:=h.B3;have HSz:=T0 (h.below hbW).1 u hv;rw[show Gj m u=_ from hs]at HSz;have HS:=fun(V:World) (hb:Bw W V)=>(h.below (hbW.trans (hb.mono hbW.size)));have t0:(((p.k:Nat):Int) !=2)=true:=by rw[P8];omega
 exact z0ma
def A7n(h:C.Ms D X β w m)(u p:PV)(i:Aa)(hv:Ca m.arr.length u)(hs:Gj m u=.tuple #[.i 0,.bool false]):Calls Tryz.prog 211 #[.p C.mb,B7 β u,B7 β p,Ac i] w (MP C D X β w (m.fail 5 i) (.bool false)):=by
 obtain⟨W,hW,z0,z1,z2,hbW,hsW⟩:=Wt w (.cells #[.n u.k,.bool u.y,.i u.n,.s u.t,.pointer (Bf β u)] 225) (.cells #[.n p.k,.bool p.y,.i p.n,.s p.t,.pointer (Bf β p)] 225) (.cells #[.n i.op,.i i.arg,.n i.line,.n i.v.k,.bool i.v.y,.i i.v.n,.s i.v.t,.pointer none] 251);have lb:=h.B3;have HSz:=T0 (h.below hbW).1 u hv;rw[show Gj m u=_ from hs]at HSz;have HS:=fun(V:World) (hb:Bw W V)=>(h.below (hbW.trans (hb.mono hbW.size)));exact z0ma
def z0ca {P:Prop} (h:P:=by
  obtain⟨W,hW,z0,z1,z2,hbW,hsW⟩:=Wt w (.cells #[.n u.k,.bool u.y,.i u.n,.s u.t,.pointer (Bf β u)] 225) (.cells #[.n p.k,.bool p.y,.i p.n,.s p.t,.pointer (Bf β p)] 225) (.cells #[.n i.op,.i i.arg,.n i.line,.n i.v.k,.bool i.v.y,.i i.v.n,.s i.v.t,.pointer none] 251);have lb:=h.B3;have HSz:=T0 (h.below hbW).1 u hv;rw[show Gj m u=_ from hs]at HSz;have HS:=fun(V:World) (hb:Bw W V)=>(h.below (hbW.trans (hb.mono hbW.size)));have t0:(((p.k:Nat):Int) !=2)=false:=by rw[hk];rfl
  clear hk;clear hv hs h;have HW:=A0 hW;have HbW:=A0 hbW;unfold B7 Ac at *;clear hW hbW;go_in;go_wp2_with fail
  rw[←HW.o];obtain⟨y0,y1,y2,y3,y4,_⟩:=Kg z0;go_wp2_with fail
  refine HSz.mono ?_;rintro e w1 ⟨rfl,A2⟩;have q1:=(A2.block _ z4ma).trans z1;have q2:=(A2.block _ z4ma).trans z2;have ls1:=A2.size;obtain⟨s1,s2⟩:=HS w1 A2;have Bn:=s1.B3;obtain⟨p0,p1,p2,p3,p4,lp⟩:=Kg q1;have nn:=Bi q2;have B5:=A0 s1;have A9:=A0 s2;clear y0 y1 y2 y3 y4 A2 s1 s2 q1 q2 z0 z1 z2 HSz HS;have HF:=fun(V:World) (hb:Bw w1 V)=>C3 (Ih (B5.o.below hb).1 7 i) (A9.o.trans (B5.o.below hb).2);unfold Ac at HF;go_wp2_with fail
  refine((HF _ z4na).1).mono ?_;rintro e w2 ⟨rfl,h2,k2⟩;have Au:=A0 h2;have Ab:A3 (dx D X) w w2:=(HF _ z4na).2.trans k2;clear h2 k2;go_wp2;go_ret;exact⟨rfl,Au.o,Ab⟩):P:=h
def A7m(h:C.Ms D X β w m)(u p:PV)(i:Aa)(hv:Ca m.arr.length u){n:Nat}(hs:Gj m u=.tuple #[.n n,.bool true])(hk:p.k=2)(h1:p.n<0):Calls Tryz.prog 211 #[.p C.mb,B7 β u,B7 β p,Ac i] w (MP C D X β w (m.fail 7 i) (.bool false)):=by
 exact z0ca
def A7l(h:C.Ms D X β w m)(u p:PV)(i:Aa)(hv:Ca m.arr.length u){n:Nat}(hs:Gj m u=.tuple #[.n n,.bool true])(hk:p.k=2)(h0:¬p.n<0)(h1:((n:Nat):Int)<=p.n):Calls Tryz.prog 211 #[.p C.mb,B7 β u,B7 β p,Ac i] w (MP C D X β w (m.fail 7 i) (.bool false)):=by
 exact z0ca
def Xm(h:C.Ms D X β w m)(i:Aa){m':MS}(hp:∀W,C.Ms D (Dd X w) β W m.pop.pop->Calls Tryz.prog 211 #[.p C.mb,B7 β m.pop.top,B7 β m.top,Ac i] W (MP C D (Dd X w) β W m' (.bool false))):Calls Tryz.prog 164 #[.p C.mb,Ac i] w (MP C D X β w m' (.tuple #[])):=by
 obtain⟨w0,As,Av,Ag,Ao,Aw,nn,lb,C9⟩:=h.Ci i;have HT:=F1 Av.o;have HH:=A0 hp;generalize m.pop.top=u at *;generalize m.top=p at *;unfold Ac;unfold Ac at HH;go_in;go_wp2_with fail
 rw[←As.o];refine HT.mono ?_;rintro e w1 ⟨rfl,h1,k1⟩;unfold B7 at HH ⊢;have Bn:=h1.B3;have A9:A3 (dx D X) w w1:=Ag.o.trans (Ae k1);have An:=(k1.block _ Ao.o).trans Aw.o;have nn:=Bi An;have HH2:=fun(W:World) (hb:Bw w1 W)=>C3 (HH.o W (h1.below hb).1) (A9.trans (Ae (h1.below hb).2));go_wp2_with fail
 refine((HH2 _ z4na).1).mono ?_;rintro e w2 ⟨rfl,h2,k2⟩;have Au:=A0 h2.back;have Ab:A3 (dx D X) w w2:=(HH2 _ z4na).2.trans (Ae k2);go_wp2;refine B9 (v:=.tuple #[]) (by simp[results,Tryz.results164,go_sem]) rfl ?_;exact z4ja
def A2t(w:World)(a b:Obj):∃W,W=(w.alloc a).alloc b/\W.heap[w.heap.size]?=some a/\W.heap[w.heap.size+1]?=some b/\Bw w W/\W.heap.size=w.heap.size+2:=by
 have z0:=alloc_old (o':=b) (Bp w a);have z1:=Bp (w.alloc a) b;have hs:∀(v:World) (o:Obj),(v.alloc o).heap.size=v.heap.size+1:=fun v o=>by simp
 simp only[hs]at z0 z1;exact⟨_,rfl,z0,z1,Ah (Ah (Al _ _) (Af _) _) z4ra _,by simp⟩
def z2ga {P:Prop} (h:P:=by
  unfold Gj sizeOf';rw[Ai,A7 Jk,hr];show Value.tuple #[.i (((some (((m.arr)[r]?).getD []).length).getD 0:Nat):Int),.bool true]=_;rw[Eh hra];rfl):P:=h
def Ad3(h:C.Ms D X β w m)(i:Aa){r k:Nat}(hr:m.pop.top.r=some r)(hra:r<m.arr.length)(Jk:m.pop.top.k=4)(D4:m.top.k=2)(hkn:m.top.n=(k:Nat))(hki:k<m.arr[r].length)(hn:m.vals.length<=90000000000)(hvv:Ca m.arr.length m.arr[r][k]):Calls Tryz.prog 164 #[.p C.mb,Ac i] w (MP C D X β w (m.pop.pop.push m.arr[r][k]) (.tuple #[])):=by
 obtain⟨w0,As,Av,Ag,Ao,Aw,nn,lb,C9⟩:=h.Ci i;clear h;have HT:=F1 Av.o;have hs:Gj m.pop.pop m.pop.top=.tuple #[.n (m.arr[r].length),.bool true]:=by
  exact z2ga
 have hvu:Ca m.arr.length m.pop.top:=by unfold Ca;rw[hr];exact⟨Jk,hra⟩
 have HH:=fun(W:World) (hs':C.Ms D (Dd X w) β W m.pop.pop)=>A1r hs' m.pop.top m.top i hvu hs D4 z4ma z4ma;have HA:∀W:World,C.Ms D (Dd X w) β W m.pop.pop->∃a c,W.cell? ⟨β r,0,none⟩=some (.slice a m.arr[r].length c)/\β r<W.heap.size/\W.ownsRow 0 225 5 (.slice a m.arr[r].length c) m.arr[r].length (C0 (Cj β) m.arr[r]):=fun W hs'=>hs'.n9 hra;have hl:m.pop.pop.vals.length+1<=90000000000:=by simp only[MS.pop,Sg];omega
 have HP:=fun(W:World) (hs':C.Ms D (Dd X w) β W m.pop.pop)=>hs'.push m.arr[r][k] hvv hl;have er:Bf β m.pop.top=some ⟨β r,0,none⟩:=by unfold Bf;rw[hr]
 have t3:(((m.pop.top.k:Nat):Int)==3)=false:=by rw[Jk];rfl
 clear hr Jk D4 hs hvu hl hvv hn;generalize hx:m.arr[r][k]=x at *;generalize hL:m.arr[r]=L at *;have HX:=A0 hx;clear hx hL;generalize m.pop.top=u at *;generalize m.top=p at *;unfold Ac;unfold Ac at HH;unfold B7 at HH HP HT;rw[er]at HH HT;have t1:(0:Int)<=(k:Int):=by omega
 have t2:(k:Int)<(L.length:Int):=by omega
 rw[hkn]at HH HT;clear hkn er;go_in;go_wp2_with fail
 rw[←As.o];refine HT.mono ?_;rintro e w1 ⟨rfl,h1,k1⟩;have Bn:=h1.B3;have B5:=A0 h1;have A9:A3 (dx D X) w w1:=Ag.o.trans (Ae k1);have An:=(k1.block _ Ao.o).trans Aw.o;replace nn:=Bi An;obtain⟨W,hW,z0,z1,hbW,hsW⟩:=A2t w1 (.cells #[.n u.k,.bool u.y,.i u.n,.s u.t,.p (β r)] 225) (.cells #[.n p.k,.bool p.y,.n k,.s p.t,.pointer (Bf β p)] 225);have HW:=A0 hW;have HH2:=HH W (B5.o.below hbW).1;have HBe:=fun(V:World) (hb:Bw W V)=>B5.o.below (hbW.trans (hb.mono hbW.size));clear hW hbW HH h1 k1 An HT;go_wp2_with fail
 rw[←HW.o];refine HH2.mono ?_;rintro e w2 ⟨rfl,Ad⟩;have q0:=(Ad.block _ z4ma).trans z0;have q1:=(Ad.block _ z4ma).trans z1;obtain⟨s1,s2⟩:=HBe w2 Ad;obtain⟨a,c,c0,lr,ho⟩:=HA w2 s1;obtain⟨g,ea,_,hcp,lg,hcell⟩:=G1 ho z4ma;subst ea;have hat:∀j v,(Cj β x)[j]?=some v->j<5->w2.cell? ⟨g,k*5+j,none⟩=some v:=fun j v hv hj=>hcell (k*5+j) v ((D8 (f:=Cj β) (sz:=5) (fun _=>rfl) L k j hki hj).trans (by rw[HX.o];exact hv));have e0:=hat 0 _ rfl z4ma;have e1:=hat 1 _ rfl z4ma;have e2:=hat 2 _ rfl z4ma;have e3:=hat 3 _ rfl z4ma;have e4:=hat 4 _ rfl z4ma;rw[Ma]at e0;obtain⟨u0,u1,u2,u3,u4,lu⟩:=Kg q0;obtain⟨p0,p1,p2,p3,p4,lp⟩:=Kg q1;have Ed:=s1.B3;have Bk:=HP _ s1.J6;have Ab:A3 (dx D X) w w2:=A9.trans (Ae s2);clear Ad q0 q1 s1 s2 ho hcell hat z0 z1 HP HA HBe HH2 HX;go_wp2;refine Jt 12 z4pa z4pa ?_;simp only[Jh,J1,Ia,Hl];iterate 12 (refine Fm (fun K' hK'=>?_);go_simp;refine hK' _ ?_;clear hK' K')
 refine Js ?_;go_wp2_with fail
 refine(Bk).mono ?_;rintro e w3 ⟨rfl,h3,k3⟩;have Bu:=A0 h3.back;have Ba:A3 (dx D X) w w3:=Ab.trans ((Eb _ w2 1).trans (Ae k3));clear h3 k3;exact z4la
end
section
open Go.RowKit
open Go.Deep (BT)
variable {C:MC} {D X:Nat->Prop} {w w':World} {m:MS} {ρ β:Nat->Nat} {s:Qz} {x:Fi} {fv:List Fi} {ab:List AB} {lp:List (Option Addr×En)}
def MC.Mv.A91(h:C.Mv D X w m ρ β s x fv ab lp){r:Nat}(hr:r<m.arr.length)(ho:w'.os=w.os)(ht:w'.tape=w.tape)(hu:w'.output=w.output)(hz:w.heap.size<=w'.heap.size)(hk:∀g,g<w.heap.size->ρ g≠7+2*r->ρ g≠8+2*r->w'.heap[g]?=w.heap[g]?){nb:AB}{l:List PV}
  (hh:w'.heap[β r]?=some (.cells #[Nc nb] 356 (0,0))) (hrow:w'.ownsRow 0 225 5 (Nc nb) l.length (C0 (Cj β) l)) (hro:∀g,(Nc nb).ownBlock=some g->(Nc (ab[r]'(by rw[h.arr.len];exact hr))).ownBlock=some g\/w.heap.size<=g) (hvv:∀v∈l,Ca m.arr.length v) :
  C.Mv D X w' { m with arr:=m.arr.set r l } (Fs ρ w.heap.size (8+2*r)) β s x fv (ab.set r nb) lp/\A3 (dx D X) w w':=by
 have hl:=h.arr.len;have hrb:r<ab.length:=by omega
 have hlow:∀g,g<w.heap.size->ρ g<=6->w'.heap[g]?=w.heap[g]?:=fun g hg h6=>hk g hg z4ma z4ma;have hbd:A3 (dx D X) w w':=⟨ho,ht,hu,hz,fun g hg=>hlow g (h.prot g hg).1 (by rw[(h.prot g hg).2];omega)⟩;have hkD:∀g,D g->g<w.heap.size->w'.heap[g]?=w.heap[g]?/\D g:=fun g hg _=>⟨hbd.block g (.inl hg),hg⟩;have hmb:w'.heap[C.mb]?=w.heap[C.mb]?:=hlow _ h.lo.1 z5ba;have hlen:(m.arr.set r l).length=m.arr.length:=by simp
 have up:∀g,g<w.heap.size->Fs ρ w.heap.size (8+2*r) g=ρ g:=fun g hg=>Br hg;refine⟨⟨hmb.trans h.cell,h.prog.keep hkD,Bc h.lots (fun g hg hl'=>hlow g hl' z4ya),fun g hg=>by rw[up g (Bs h.lots g hg)];exact h.loto g hg,h.lotm,fun q hq=>(h.forms q hq).keep hkD,
  Bc h.gl (fun g hg hl'=>hlow g hl' z50a),fun g hg=>by rw[up g (Bs h.gl g hg)];exact h.glo g hg,
  Bc h.vals (fun g hg hl'=>hlow g hl' z4wa),fun g hg=>by rw[up g (Bs h.vals g hg)];exact h.valo g hg,
  Bc h.calls (fun g hg hl'=>hlow g hl' z4va),fun g hg=>by rw[up g (Bs h.calls g hg)];exact h.callo g hg,h.frs.keep hkD,h.now.keep hkD,
  Bc h.out (fun g hg hl'=>hlow g hl' z4xa),fun g hg=>by rw[up g (Bs h.out g hg)];exact h.outo g hg,⟨by simp[hl],fun i hi hi'=>?_⟩,
  fun g hg=>⟨Cb (h.prot g hg).1 hz,by rw[up g (h.prot g hg).1];exact(h.prot g hg).2⟩,⟨by rw[up _ h.lo.1];exact h.one.1,fun g hg=>?_⟩,h.C1,?_⟩,hbd⟩
 ·have An:i<ab.length:=by simpa using hi
  have Ct:i<m.arr.length:=by simpa using hi'
  obtain⟨a1,a2,a3,a4⟩:=h.arr.at' i An Ct;by_cases e:i=r
  ·subst e;have e1:(ab.set i nb)[i]'hi=nb:=by simp
   have e2:(m.arr.set i l)[i]'hi'=l:=by simp
   rw[e1,e2];refine⟨hh,hrow,by rw[up _ (A6 a1)];exact a3,fun g hg=>?_⟩;rcases hro g hg with q|q
   ·rw[up g (Bs a2 g q)];exact a4 g q
   ·exact J0 q
  ·have e1:(ab.set r nb)[i]'hi=ab[i]:=by rw[List.getElem_set_ne (fun q=>e q.symm)]
   have e2:(m.arr.set r l)[i]'hi'=m.arr[i]:=by rw[List.getElem_set_ne (fun q=>e q.symm)]
   rw[e1,e2];refine⟨(hk _ (A6 a1) (by rw[a3];omega) (by rw[a3];omega)).trans a1,Bc a2 (fun g hg hl'=>hk g hl' (by rw[a4 g hg];omega) (by rw[a4 g hg];omega)),by rw[up _ (A6 a1)];exact a3,fun g hg=>by rw[up g (Bs a2 g hg)];exact a4 g hg⟩
 ·by_cases hlt:g<w.heap.size
  ·rw[up g hlt]at hg;exact h.one.2 g hg
  ·rw[J0 z4ma]at hg;omega
 ·rw[hlen];refine⟨h.vv.1,h.vv.2.1,fun l' hl' v hv=>?_⟩;rcases O6 hl' with q|q
  ·exact h.vv.2.2 l' q v hv
  ·rw[q]at hv;exact hvv v hv
end
section
open Go.RowKit
open Go.Deep (BT)
variable {C:MC} {D X:Nat->Prop} {w w':World} {m:MS} {β:Nat->Nat}
def MC.Ms.Adt(h:C.Ms D X β w m){r:Nat}(hr:r<m.arr.length){a:Option Addr}{c:Nat}(hc:w.cell? ⟨β r,0,none⟩=some (.slice a m.arr[r].length c)){w1:World}{g cap:Nat}(v:PV)(hv:Ca m.arr.length v)(ho:w1.ownsRow 0 225 5 (.slice (some ⟨g,0,none⟩) (m.arr[r].length+1) cap) (m.arr[r].length+1) (C0 (Cj β) m.arr[r]++Cj β v))(hg:w.grownBy w1 (Value.slice a m.arr[r].length c).ownBlock)(hat:(Value.slice a m.arr[r].length c).ownBlock=some g\/w.heap.size<=g) :
  C.Ms D X β (w1.setCell ⟨β r,0,none⟩ (.slice (some ⟨g,0,none⟩) (m.arr[r].length+1) cap)) { m with arr:=m.arr.set r (m.arr[r]++[v]) }/\A3 (dx D X) w (w1.setCell ⟨β r,0,none⟩ (.slice (some ⟨g,0,none⟩) (m.arr[r].length+1) cap)):=by
 obtain⟨ρ,s,x,fv,ab,lp,h⟩:=h;have hl:=h.arr.len;obtain⟨a1,a2,a3,a4⟩:=h.arr.at' r z4ma hr;have c0:=(A4 a1 0 _ rfl).symm.trans hc;have c1:Nc (ab[r]'z4ma)=.slice a m.arr[r].length c:=by injection c0
 have lr:=A6 a1;have hrow:∀q,(Value.slice a m.arr[r].length c).ownBlock=some q->ρ q=8+2*r:=fun q hq=>a4 q (by rw[c1];exact hq);have hnb:(Value.slice a m.arr[r].length c).ownBlock≠some (β r):=fun e=>by have:=hrow _ e;rw[a3]at this;omega
 have b1:=(hg.block (β r) lr (fun e=>hnb e.symm)).trans a1;have hgr:g≠β r:=by
  rcases hat with e|e
  ·exact fun q=>hnb (by rw[←q];exact e)
  ·omega
 have hq:=h.A91 (w':=w1.setCell ⟨β r,0,none⟩ (.slice (some ⟨g,0,none⟩) (m.arr[r].length+1) cap)) hr (by exact hg.os) (by exact hg.tape) (by exact hg.output) (by have:=hg.size;simp[World.setCell];omega) (fun q hq h7 h8=>(Bh _ _ _ _ (show q≠β r from fun e=>h7 (by rw[e];exact a3))).trans (hg.block q hq (fun e=>h8 (hrow q e.symm)))) (nb:=(some ⟨g,0,none⟩,m.arr[r].length+1,cap)) (l:=m.arr[r]++[v])
  (by rw[heap_set (j:=0) b1];rfl) (by
   have e:C0 (Cj β) (m.arr[r]++[v])=C0 (Cj β) m.arr[r]++Cj β v:=by rw[T8];simp[C0]
   rw[e,Ds];exact Bc ho (fun k hk _=>Bh _ _ _ _ (show k≠β r from fun q=>hgr (by have:some g=some k:=hk;injection this with this;rw[this,q]))))
  (fun q hq=>by
   have e:g=q:=by have:some g=some q:=hq;injection this
   rw[c1,←e];exact hat) (fun u hu=>by
   rcases Jp.1 hu with q|q
   ·exact h.vv.2.2 _ (Ho hr) u q
   ·rw[Lb.1 q];exact hv)
 exact⟨⟨_,s,x,fv,_,lp,hq.1⟩,hq.2⟩
