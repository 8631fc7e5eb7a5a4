import Derived.Test.YtjdlndhfaaolaaaGreatDoorX39
set_option maxHeartbeats 20000000
namespace Go.Proofs.YtjdlndhfaaolaaaGreatDoor
section
set_option maxRecDepth 100000
open Go.RowKit
open Go.Deep (BT)
variable {C:MC} {D X:Nat->Prop} {w w':World} {m:MS} {β:Nat->Nat}
theorem j5(h:C.Ms D X β w m)(i:Af)(hva:Bs m.arr.length m.pop.top)(hvb:Bs m.arr.length m.top)(hn:m.vals.length+1<=90000000000):Calls Tryz.prog 219 #[.pointer (some ⟨C.mb,0,none⟩),Ag i] w (MP C D X β w (m.pop.pop.push (ofBool (m.pop.top.same m.top))) (.tuple #[])):=by
 cases hk:(m.pop.top.k==m.top.k)
 ·have e:m.pop.top.same m.top=false:=by unfold PV.same;rw[hk];rfl
  rw[e];exact A70 h i hva hvb hn hk
 cases hy:(m.pop.top.y==m.top.y)
 ·have e:m.pop.top.same m.top=false:=by unfold PV.same;rw[hk,hy];rfl
  rw[e];exact A75 h i hva hvb hn hk hy
 cases hnn:(m.pop.top.n==m.top.n)
 ·have e:m.pop.top.same m.top=false:=by unfold PV.same;rw[hk,hy,hnn];rfl
  rw[e];exact A71 h i hva hvb hn hk hy hnn
 cases ht:(m.pop.top.t==m.top.t)
 ·have e:m.pop.top.same m.top=false:=by unfold PV.same;rw[hk,hy,hnn,ht];rfl
  rw[e];exact A74 h i hva hvb hn hk hy hnn ht
 cases hr:(m.pop.top.r==m.top.r)
 ·have e:m.pop.top.same m.top=false:=by unfold PV.same;rw[hk,hy,hnn,ht,hr];rfl
  rw[e];exact A72 h i hva hvb hn hk hy hnn ht hr
 have e:m.pop.top.same m.top=true:=by unfold PV.same;rw[hk,hy,hnn,ht,hr];rfl
 rw[e];refine A73 h i hva hvb hn ?_;rw[beq_iff_eq]at hk hy hnn ht hr;generalize m.pop.top=u at *;generalize m.top=v at *;cases u;cases v;simp only at hk hy hnn ht hr;rw[hk,hy,hnn,ht,hr]
theorem A7p(h:C.Ms D X β w m)(i:Af)(ho:i.op=26)(hva:Bs m.arr.length m.pop.top)(hvb:Bs m.arr.length m.top)(hn:m.vals.length+1<=90000000000):Calls Tryz.prog 220 #[.pointer (some ⟨C.mb,0,none⟩),Ag i] w (MP C D X β w (m.pop.pop.push (ofBool (!m.pop.top.same m.top))) (.tuple #[])):=by
 obtain⟨w0,Ap,Aq,Ae,Ao,As,n0,n1,n2,n3,n4,n5,n6,n7,ln,lb,C9⟩:=h.Ca i;clear h;have t26:((i.op:Int)==26)=true:=by rw[ho];rfl
 clear ho;have tpush:(m.pop.pop.push (ofBool (m.pop.top.same m.top))).top=ofBool (m.pop.top.same m.top):=by simp[MS.push,MS.top]
 have tpop:(m.pop.pop.push (ofBool (m.pop.top.same m.top))).pop=m.pop.pop:=by simp[MS.push,MS.pop]
 have HE:=A0 (j5 Aq.o i hva hvb hn);unfold Ag at HE;generalize m.pop.top.same m.top=q at *;have HTu:=A0 tpush;have HTo:=A0 tpop;clear tpush tpop;unfold Ag;go_enter Tryz.func220,Tryz.ntmps220;go_wp2_with fail
 rw[←Ap.o];refine HE.o.mono ?_;rintro e w1 ⟨rfl,h1,k1⟩;have Bk:=h1.At;have A8:=A0 h1;have A4:Hid (A2 (dx D X) w w1):=Ae.o.trans (Ac k1);have Ad:=(k1.block _ Ao.o).trans As.o;have C1:=A0 Ad;clear n0 n1 n2 n3 n4 n5 n6 n7 ln;obtain⟨n0,n1,n2,n3,n4,n5,n6,n7,ln⟩:=Bj Ad;clear h1 k1 Ad;have HQ:=A0 A8.o.pop;rw[HTu.o,HTo.o]at HQ;unfold B3 ofBool at HQ;go_wp2_with fail
 refine HQ.o.mono ?_;rintro e w2 ⟨rfl,h2,k2⟩;have Eb:=h2.At;have Ah:=A0 h2;have Aa:Hid (A2 (dx D X) w w2):=A4.o.trans (Ac k2);have Bl:=(k2.block _ Ao.o).trans C1.o;have I8:=A0 Bl;clear n0 n1 n2 n3 n4 n5 n6 n7 ln;obtain⟨n0,n1,n2,n3,n4,n5,n6,n7,ln⟩:=Bj Bl;clear h2 k2 Bl;have Bc:=A0 (fun(W:World) (hb:Below w2.heap.size w2 W)=>And.intro ((fun hs=>Kf hs (!q) z51a) (Ah.o.below hb).1) (Aa.o.trans (Ac (Ah.o.below hb).2)));exact z16a
theorem z08a {P:Prop} (h:P:=by
  go_wp2_with fail
  refine(HBf.o _).mono ?_;rintro e w3 ⟨rfl,hb3'⟩;have Ar:Below w2.heap.size w2 w3:=Below.trans z4ua (Below.mono hb3' z4za);have Eu:=A0 (Bc.o _ Ar);have lb3:=Ar.size;clear Ar hb3';go_wp2_with fail
  refine Eu.o.1.mono ?_;rintro e w4 ⟨rfl,h4,k4⟩;have El:=A0 h4.back;have Cs:Hid (A2 (dx D X) w w4):=Eu.o.2.trans (Ac k4);clear h4 k4;go_wp2;go_end0;exact⟨rfl,El.o,Cs.o⟩):P:=h
theorem A9t(h:C.Ms D X β w m)(i:Af)(ho:i.op=28)(h2:m.both 2=true)(hn:m.vals.length+1<=90000000000):Calls Tryz.prog 221 #[.pointer (some ⟨C.mb,0,none⟩),Ag i] w (MP C D X β w (m.pop.pop.push (ofBool (before m.top m.pop.top))) (.tuple #[])):=by
 obtain⟨w0,Ap,Aq,Ae,Ao,As,n0,n1,n2,n3,n4,n5,n6,n7,ln,lb,C9⟩:=h.Ca i;clear h;have HBo:=A0 (Jo Aq.o 2);rw[h2]at HBo;have t28:((i.op:Int)==28)=true:=by rw[ho];rfl
 clear ho h2;unfold Ag;go_enter Tryz.func221,Tryz.ntmps221;go_wp2_with fail
 rw[←Ap.o];refine HBo.o.mono ?_;rintro e w1 ⟨rfl,h1,k1⟩;have Bk:=h1.At;have A8:=A0 h1;have A4:Hid (A2 (dx D X) w w1):=Ae.o.trans (Ac k1);have Ad:=(k1.block _ Ao.o).trans As.o;have C1:=A0 Ad;clear n0 n1 n2 n3 n4 n5 n6 n7 ln;obtain⟨n0,n1,n2,n3,n4,n5,n6,n7,ln⟩:=Bj Ad;clear h1 k1 Ad;have HT:=A0 (Fe A8.o);go_wp2_with fail
 refine HT.o.mono ?_;rintro e w2 ⟨rfl,h2,k2⟩;unfold B3;have Eb:=h2.At;have Ah:=A0 h2;have Aa:Hid (A2 (dx D X) w w2):=A4.o.trans (Ac k2);have Bl:=(k2.block _ Ao.o).trans C1.o;have I8:=A0 Bl;clear n0 n1 n2 n3 n4 n5 n6 n7 ln;obtain⟨n0,n1,n2,n3,n4,n5,n6,n7,ln⟩:=Bj Bl;clear h2 k2 Bl;have HBf:=A0 (fun(W:World)=>O5 m.top m.pop.top β W);unfold B3 at HBf;have Bc:=A0 (fun(W:World) (hb:Below w2.heap.size w2 W)=>And.intro (Kf (Ah.o.below hb).1 (before m.top m.pop.top) z51a) (Aa.o.trans (Ac (Ah.o.below hb).2)));generalize before m.top m.pop.top=q at *;exact z08a
theorem z09a {P:Prop} (h:P:=by
  go_wp2_with fail
  refine(HBf.o _).mono ?_;rintro e w4 ⟨rfl,hb4'⟩;have Bi:Below w3.heap.size w3 w4:=Below.trans z4ua (Below.mono hb4' z4za);have Iz:=A0 (Cl.o _ Bi);have lb4:=Bi.size;clear Bi hb4';go_wp2_with fail
  refine Iz.o.1.mono ?_;rintro e w5 ⟨rfl,h5,k5⟩;have Hs:=A0 h5.back;have Ek:Hid (A2 (dx D X) w w5):=Iz.o.2.trans (Ac k5);clear h5 k5;go_wp2;go_end0;exact⟨rfl,Hs.o,Ek.o⟩):P:=h
theorem A9u(h:C.Ms D X β w m)(i:Af)(ho:i.op=28)(h2:m.both 2=false)(h3:m.both 3=true)(hn:m.vals.length+1<=90000000000):Calls Tryz.prog 221 #[.pointer (some ⟨C.mb,0,none⟩),Ag i] w (MP C D X β w (m.pop.pop.push (ofBool (before m.top m.pop.top))) (.tuple #[])):=by
 obtain⟨w0,Ap,Aq,Ae,Ao,As,n0,n1,n2,n3,n4,n5,n6,n7,ln,lb,C9⟩:=h.Ca i;clear h;have HBo:=A0 (Jo Aq.o 2);rw[h2]at HBo;have t28:((i.op:Int)==28)=true:=by rw[ho];rfl
 clear ho h2;unfold Ag;go_enter Tryz.func221,Tryz.ntmps221;go_wp2_with fail
 rw[←Ap.o];refine HBo.o.mono ?_;rintro e w1 ⟨rfl,h1,k1⟩;have Bk:=h1.At;have A8:=A0 h1;have A4:Hid (A2 (dx D X) w w1):=Ae.o.trans (Ac k1);have Ad:=(k1.block _ Ao.o).trans As.o;have C1:=A0 Ad;clear n0 n1 n2 n3 n4 n5 n6 n7 ln;obtain⟨n0,n1,n2,n3,n4,n5,n6,n7,ln⟩:=Bj Ad;clear h1 k1 Ad;have HBo2:=A0 (Jo A8.o 3);rw[h3]at HBo2;clear h3;go_wp2_with fail
 refine HBo2.o.mono ?_;rintro e w2 ⟨rfl,h2,k2⟩;have Eb:=h2.At;have Ah:=A0 h2;have Aa:Hid (A2 (dx D X) w w2):=A4.o.trans (Ac k2);have Bl:=(k2.block _ Ao.o).trans C1.o;have I8:=A0 Bl;clear n0 n1 n2 n3 n4 n5 n6 n7 ln;obtain⟨n0,n1,n2,n3,n4,n5,n6,n7,ln⟩:=Bj Bl;clear h2 k2 Bl;have HT:=A0 (Fe Ah.o);go_wp2_with fail
 refine HT.o.mono ?_;rintro e w3 ⟨rfl,h3,k3⟩;unfold B3;have lb3:=h3.At;have Be:=A0 h3;have Ay:Hid (A2 (dx D X) w w3):=Aa.o.trans (Ac k3);have J1:=(k3.block _ Ao.o).trans I8.o;have HI3:=A0 J1;clear n0 n1 n2 n3 n4 n5 n6 n7 ln;obtain⟨n0,n1,n2,n3,n4,n5,n6,n7,ln⟩:=Bj J1;clear h3 k3 J1;have HBf:=A0 (fun(W:World)=>O5 m.top m.pop.top β W);unfold B3 at HBf;have Cl:=A0 (fun(W:World) (hb:Below w3.heap.size w3 W)=>And.intro (Kf (Be.o.below hb).1 (before m.top m.pop.top) z51a) (Ay.o.trans (Ac (Be.o.below hb).2)));generalize before m.top m.pop.top=q at *;exact z09a
theorem A9z(h:C.Ms D X β w m)(i:Af)(ho:i.op=29)(h2:m.both 2=true)(hn:m.vals.length+1<=90000000000):Calls Tryz.prog 221 #[.pointer (some ⟨C.mb,0,none⟩),Ag i] w (MP C D X β w (m.pop.pop.push (ofBool (before m.pop.top m.top))) (.tuple #[])):=by
 obtain⟨w0,Ap,Aq,Ae,Ao,As,n0,n1,n2,n3,n4,n5,n6,n7,ln,lb,C9⟩:=h.Ca i;clear h;have HBo:=A0 (Jo Aq.o 2);rw[h2]at HBo;have t28:((i.op:Int)==28)=false:=by rw[ho];rfl
 have t29:((i.op:Int)==29)=true:=by rw[ho];rfl
 clear ho h2;unfold Ag;go_enter Tryz.func221,Tryz.ntmps221;go_wp2_with fail
 rw[←Ap.o];refine HBo.o.mono ?_;rintro e w1 ⟨rfl,h1,k1⟩;have Bk:=h1.At;have A8:=A0 h1;have A4:Hid (A2 (dx D X) w w1):=Ae.o.trans (Ac k1);have Ad:=(k1.block _ Ao.o).trans As.o;have C1:=A0 Ad;clear n0 n1 n2 n3 n4 n5 n6 n7 ln;obtain⟨n0,n1,n2,n3,n4,n5,n6,n7,ln⟩:=Bj Ad;clear h1 k1 Ad;have HT:=A0 (Fe A8.o);go_wp2_with fail
 refine HT.o.mono ?_;rintro e w2 ⟨rfl,h2,k2⟩;unfold B3;have Eb:=h2.At;have Ah:=A0 h2;have Aa:Hid (A2 (dx D X) w w2):=A4.o.trans (Ac k2);have Bl:=(k2.block _ Ao.o).trans C1.o;have I8:=A0 Bl;clear n0 n1 n2 n3 n4 n5 n6 n7 ln;obtain⟨n0,n1,n2,n3,n4,n5,n6,n7,ln⟩:=Bj Bl;clear h2 k2 Bl;have HBf:=A0 (fun(W:World)=>O5 m.pop.top m.top β W);unfold B3 at HBf;have Bc:=A0 (fun(W:World) (hb:Below w2.heap.size w2 W)=>And.intro (Kf (Ah.o.below hb).1 (before m.pop.top m.top) z51a) (Aa.o.trans (Ac (Ah.o.below hb).2)));generalize before m.pop.top m.top=q at *;exact z08a
theorem Aa0(h:C.Ms D X β w m)(i:Af)(ho:i.op=29)(h2:m.both 2=false)(h3:m.both 3=true)(hn:m.vals.length+1<=90000000000):Calls Tryz.prog 221 #[.pointer (some ⟨C.mb,0,none⟩),Ag i] w (MP C D X β w (m.pop.pop.push (ofBool (before m.pop.top m.top))) (.tuple #[])):=by
 obtain⟨w0,Ap,Aq,Ae,Ao,As,n0,n1,n2,n3,n4,n5,n6,n7,ln,lb,C9⟩:=h.Ca i;clear h;have HBo:=A0 (Jo Aq.o 2);rw[h2]at HBo;have t28:((i.op:Int)==28)=false:=by rw[ho];rfl
 have t29:((i.op:Int)==29)=true:=by rw[ho];rfl
 clear ho h2;unfold Ag;go_enter Tryz.func221,Tryz.ntmps221;go_wp2_with fail
 rw[←Ap.o];refine HBo.o.mono ?_;rintro e w1 ⟨rfl,h1,k1⟩;have Bk:=h1.At;have A8:=A0 h1;have A4:Hid (A2 (dx D X) w w1):=Ae.o.trans (Ac k1);have Ad:=(k1.block _ Ao.o).trans As.o;have C1:=A0 Ad;clear n0 n1 n2 n3 n4 n5 n6 n7 ln;obtain⟨n0,n1,n2,n3,n4,n5,n6,n7,ln⟩:=Bj Ad;clear h1 k1 Ad;have HBo2:=A0 (Jo A8.o 3);rw[h3]at HBo2;clear h3;go_wp2_with fail
 refine HBo2.o.mono ?_;rintro e w2 ⟨rfl,h2,k2⟩;have Eb:=h2.At;have Ah:=A0 h2;have Aa:Hid (A2 (dx D X) w w2):=A4.o.trans (Ac k2);have Bl:=(k2.block _ Ao.o).trans C1.o;have I8:=A0 Bl;clear n0 n1 n2 n3 n4 n5 n6 n7 ln;obtain⟨n0,n1,n2,n3,n4,n5,n6,n7,ln⟩:=Bj Bl;clear h2 k2 Bl;have HT:=A0 (Fe Ah.o);go_wp2_with fail
 refine HT.o.mono ?_;rintro e w3 ⟨rfl,h3,k3⟩;unfold B3;have lb3:=h3.At;have Be:=A0 h3;have Ay:Hid (A2 (dx D X) w w3):=Aa.o.trans (Ac k3);have J1:=(k3.block _ Ao.o).trans I8.o;have HI3:=A0 J1;clear n0 n1 n2 n3 n4 n5 n6 n7 ln;obtain⟨n0,n1,n2,n3,n4,n5,n6,n7,ln⟩:=Bj J1;clear h3 k3 J1;have HBf:=A0 (fun(W:World)=>O5 m.pop.top m.top β W);unfold B3 at HBf;have Cl:=A0 (fun(W:World) (hb:Below w3.heap.size w3 W)=>And.intro (Kf (Be.o.below hb).1 (before m.pop.top m.top) z51a) (Ay.o.trans (Ac (Be.o.below hb).2)));generalize before m.pop.top m.top=q at *;exact z09a
theorem A9r(h:C.Ms D X β w m)(i:Af)(ho:i.op=30)(h2:m.both 2=true)(hn:m.vals.length+1<=90000000000):Calls Tryz.prog 221 #[.pointer (some ⟨C.mb,0,none⟩),Ag i] w (MP C D X β w (m.pop.pop.push (ofBool (!before m.pop.top m.top))) (.tuple #[])):=by
 obtain⟨w0,Ap,Aq,Ae,Ao,As,n0,n1,n2,n3,n4,n5,n6,n7,ln,lb,C9⟩:=h.Ca i;clear h;have HBo:=A0 (Jo Aq.o 2);rw[h2]at HBo;have t28:((i.op:Int)==28)=false:=by rw[ho];rfl
 have t29:((i.op:Int)==29)=false:=by rw[ho];rfl
 have t30:((i.op:Int)==30)=true:=by rw[ho];rfl
 clear ho h2;unfold Ag;go_enter Tryz.func221,Tryz.ntmps221;go_wp2_with fail
 rw[←Ap.o];refine HBo.o.mono ?_;rintro e w1 ⟨rfl,h1,k1⟩;have Bk:=h1.At;have A8:=A0 h1;have A4:Hid (A2 (dx D X) w w1):=Ae.o.trans (Ac k1);have Ad:=(k1.block _ Ao.o).trans As.o;have C1:=A0 Ad;clear n0 n1 n2 n3 n4 n5 n6 n7 ln;obtain⟨n0,n1,n2,n3,n4,n5,n6,n7,ln⟩:=Bj Ad;clear h1 k1 Ad;have HT:=A0 (Fe A8.o);go_wp2_with fail
 refine HT.o.mono ?_;rintro e w2 ⟨rfl,h2,k2⟩;unfold B3;have Eb:=h2.At;have Ah:=A0 h2;have Aa:Hid (A2 (dx D X) w w2):=A4.o.trans (Ac k2);have Bl:=(k2.block _ Ao.o).trans C1.o;have I8:=A0 Bl;clear n0 n1 n2 n3 n4 n5 n6 n7 ln;obtain⟨n0,n1,n2,n3,n4,n5,n6,n7,ln⟩:=Bj Bl;clear h2 k2 Bl;have HBf:=A0 (fun(W:World)=>O5 m.pop.top m.top β W);unfold B3 at HBf;have Bc:=A0 (fun(W:World) (hb:Below w2.heap.size w2 W)=>And.intro (Kf (Ah.o.below hb).1 (!before m.pop.top m.top) z51a) (Aa.o.trans (Ac (Ah.o.below hb).2)));generalize before m.pop.top m.top=q at *;exact z08a
theorem A9s(h:C.Ms D X β w m)(i:Af)(ho:i.op=30)(h2:m.both 2=false)(h3:m.both 3=true)(hn:m.vals.length+1<=90000000000):Calls Tryz.prog 221 #[.pointer (some ⟨C.mb,0,none⟩),Ag i] w (MP C D X β w (m.pop.pop.push (ofBool (!before m.pop.top m.top))) (.tuple #[])):=by
 obtain⟨w0,Ap,Aq,Ae,Ao,As,n0,n1,n2,n3,n4,n5,n6,n7,ln,lb,C9⟩:=h.Ca i;clear h;have HBo:=A0 (Jo Aq.o 2);rw[h2]at HBo;have t28:((i.op:Int)==28)=false:=by rw[ho];rfl
 have t29:((i.op:Int)==29)=false:=by rw[ho];rfl
 have t30:((i.op:Int)==30)=true:=by rw[ho];rfl
 clear ho h2;unfold Ag;go_enter Tryz.func221,Tryz.ntmps221;go_wp2_with fail
 rw[←Ap.o];refine HBo.o.mono ?_;rintro e w1 ⟨rfl,h1,k1⟩;have Bk:=h1.At;have A8:=A0 h1;have A4:Hid (A2 (dx D X) w w1):=Ae.o.trans (Ac k1);have Ad:=(k1.block _ Ao.o).trans As.o;have C1:=A0 Ad;clear n0 n1 n2 n3 n4 n5 n6 n7 ln;obtain⟨n0,n1,n2,n3,n4,n5,n6,n7,ln⟩:=Bj Ad;clear h1 k1 Ad;have HBo2:=A0 (Jo A8.o 3);rw[h3]at HBo2;clear h3;go_wp2_with fail
 refine HBo2.o.mono ?_;rintro e w2 ⟨rfl,h2,k2⟩;have Eb:=h2.At;have Ah:=A0 h2;have Aa:Hid (A2 (dx D X) w w2):=A4.o.trans (Ac k2);have Bl:=(k2.block _ Ao.o).trans C1.o;have I8:=A0 Bl;clear n0 n1 n2 n3 n4 n5 n6 n7 ln;obtain⟨n0,n1,n2,n3,n4,n5,n6,n7,ln⟩:=Bj Bl;clear h2 k2 Bl;have HT:=A0 (Fe Ah.o);go_wp2_with fail
 refine HT.o.mono ?_;rintro e w3 ⟨rfl,h3,k3⟩;unfold B3;have lb3:=h3.At;have Be:=A0 h3;have Ay:Hid (A2 (dx D X) w w3):=Aa.o.trans (Ac k3);have J1:=(k3.block _ Ao.o).trans I8.o;have HI3:=A0 J1;clear n0 n1 n2 n3 n4 n5 n6 n7 ln;obtain⟨n0,n1,n2,n3,n4,n5,n6,n7,ln⟩:=Bj J1;clear h3 k3 J1;have HBf:=A0 (fun(W:World)=>O5 m.pop.top m.top β W);unfold B3 at HBf;have Cl:=A0 (fun(W:World) (hb:Below w3.heap.size w3 W)=>And.intro (Kf (Be.o.below hb).1 (!before m.pop.top m.top) z51a) (Ay.o.trans (Ac (Be.o.below hb).2)));generalize before m.pop.top m.top=q at *;exact z09a
theorem A9w(h:C.Ms D X β w m)(i:Af)(ho:i.op=31)(h2:m.both 2=true)(hn:m.vals.length+1<=90000000000):Calls Tryz.prog 221 #[.pointer (some ⟨C.mb,0,none⟩),Ag i] w (MP C D X β w (m.pop.pop.push (ofBool (!before m.top m.pop.top))) (.tuple #[])):=by
 obtain⟨w0,Ap,Aq,Ae,Ao,As,n0,n1,n2,n3,n4,n5,n6,n7,ln,lb,C9⟩:=h.Ca i;clear h;have HBo:=A0 (Jo Aq.o 2);rw[h2]at HBo;have t28:((i.op:Int)==28)=false:=by rw[ho];rfl
 have t29:((i.op:Int)==29)=false:=by rw[ho];rfl
 have t30:((i.op:Int)==30)=false:=by rw[ho];rfl
 have t31:((i.op:Int)==31)=true:=by rw[ho];rfl
 clear ho h2;unfold Ag;go_enter Tryz.func221,Tryz.ntmps221;go_wp2_with fail
 rw[←Ap.o];refine HBo.o.mono ?_;rintro e w1 ⟨rfl,h1,k1⟩;have Bk:=h1.At;have A8:=A0 h1;have A4:Hid (A2 (dx D X) w w1):=Ae.o.trans (Ac k1);have Ad:=(k1.block _ Ao.o).trans As.o;have C1:=A0 Ad;clear n0 n1 n2 n3 n4 n5 n6 n7 ln;obtain⟨n0,n1,n2,n3,n4,n5,n6,n7,ln⟩:=Bj Ad;clear h1 k1 Ad;have HT:=A0 (Fe A8.o);go_wp2_with fail
 refine HT.o.mono ?_;rintro e w2 ⟨rfl,h2,k2⟩;unfold B3;have Eb:=h2.At;have Ah:=A0 h2;have Aa:Hid (A2 (dx D X) w w2):=A4.o.trans (Ac k2);have Bl:=(k2.block _ Ao.o).trans C1.o;have I8:=A0 Bl;clear n0 n1 n2 n3 n4 n5 n6 n7 ln;obtain⟨n0,n1,n2,n3,n4,n5,n6,n7,ln⟩:=Bj Bl;clear h2 k2 Bl;have HBf:=A0 (fun(W:World)=>O5 m.top m.pop.top β W);unfold B3 at HBf;have Bc:=A0 (fun(W:World) (hb:Below w2.heap.size w2 W)=>And.intro (Kf (Ah.o.below hb).1 (!before m.top m.pop.top) z51a) (Aa.o.trans (Ac (Ah.o.below hb).2)));generalize before m.top m.pop.top=q at *;exact z08a
theorem A9x(h:C.Ms D X β w m)(i:Af)(ho:i.op=31)(h2:m.both 2=false)(h3:m.both 3=true)(hn:m.vals.length+1<=90000000000):Calls Tryz.prog 221 #[.pointer (some ⟨C.mb,0,none⟩),Ag i] w (MP C D X β w (m.pop.pop.push (ofBool (!before m.top m.pop.top))) (.tuple #[])):=by
 obtain⟨w0,Ap,Aq,Ae,Ao,As,n0,n1,n2,n3,n4,n5,n6,n7,ln,lb,C9⟩:=h.Ca i;clear h;have HBo:=A0 (Jo Aq.o 2);rw[h2]at HBo;have t28:((i.op:Int)==28)=false:=by rw[ho];rfl
 have t29:((i.op:Int)==29)=false:=by rw[ho];rfl
 have t30:((i.op:Int)==30)=false:=by rw[ho];rfl
 have t31:((i.op:Int)==31)=true:=by rw[ho];rfl
 clear ho h2;unfold Ag;go_enter Tryz.func221,Tryz.ntmps221;go_wp2_with fail
 rw[←Ap.o];refine HBo.o.mono ?_;rintro e w1 ⟨rfl,h1,k1⟩;have Bk:=h1.At;have A8:=A0 h1;have A4:Hid (A2 (dx D X) w w1):=Ae.o.trans (Ac k1);have Ad:=(k1.block _ Ao.o).trans As.o;have C1:=A0 Ad;clear n0 n1 n2 n3 n4 n5 n6 n7 ln;obtain⟨n0,n1,n2,n3,n4,n5,n6,n7,ln⟩:=Bj Ad;clear h1 k1 Ad;have HBo2:=A0 (Jo A8.o 3);rw[h3]at HBo2;clear h3;go_wp2_with fail
 refine HBo2.o.mono ?_;rintro e w2 ⟨rfl,h2,k2⟩;have Eb:=h2.At;have Ah:=A0 h2;have Aa:Hid (A2 (dx D X) w w2):=A4.o.trans (Ac k2);have Bl:=(k2.block _ Ao.o).trans C1.o;have I8:=A0 Bl;clear n0 n1 n2 n3 n4 n5 n6 n7 ln;obtain⟨n0,n1,n2,n3,n4,n5,n6,n7,ln⟩:=Bj Bl;clear h2 k2 Bl;have HT:=A0 (Fe Ah.o);go_wp2_with fail
 refine HT.o.mono ?_;rintro e w3 ⟨rfl,h3,k3⟩;unfold B3;have lb3:=h3.At;have Be:=A0 h3;have Ay:Hid (A2 (dx D X) w w3):=Aa.o.trans (Ac k3);have J1:=(k3.block _ Ao.o).trans I8.o;have HI3:=A0 J1;clear n0 n1 n2 n3 n4 n5 n6 n7 ln;obtain⟨n0,n1,n2,n3,n4,n5,n6,n7,ln⟩:=Bj J1;clear h3 k3 J1;have HBf:=A0 (fun(W:World)=>O5 m.top m.pop.top β W);unfold B3 at HBf;have Cl:=A0 (fun(W:World) (hb:Below w3.heap.size w3 W)=>And.intro (Kf (Be.o.below hb).1 (!before m.top m.pop.top) z51a) (Ay.o.trans (Ac (Be.o.below hb).2)));generalize before m.top m.pop.top=q at *;exact z09a
theorem Ta(h:C.Ms D X β w m)(i:Af)(h2:m.both 2=false)(h3:m.both 3=false):Calls Tryz.prog 221 #[.pointer (some ⟨C.mb,0,none⟩),Ag i] w (MP C D X β w (m.fail 5 i) (.tuple #[])):=by
 obtain⟨w0,Ap,Aq,Ae,Ao,As,n0,n1,n2,n3,n4,n5,n6,n7,ln,lb,C9⟩:=h.Ca i;clear h;have HBo:=A0 (Jo Aq.o 2);rw[h2]at HBo;clear h2;unfold Ag;go_enter Tryz.func221,Tryz.ntmps221;go_wp2_with fail
 rw[←Ap.o];refine HBo.o.mono ?_;rintro e w1 ⟨rfl,h1,k1⟩;have Bk:=h1.At;have A8:=A0 h1;have A4:Hid (A2 (dx D X) w w1):=Ae.o.trans (Ac k1);have Ad:=(k1.block _ Ao.o).trans As.o;have C1:=A0 Ad;clear n0 n1 n2 n3 n4 n5 n6 n7 ln;obtain⟨n0,n1,n2,n3,n4,n5,n6,n7,ln⟩:=Bj Ad;clear h1 k1 Ad;have HBo2:=A0 (Jo A8.o 3);rw[h3]at HBo2;clear h3;go_wp2_with fail
 refine HBo2.o.mono ?_;rintro e w2 ⟨rfl,h2,k2⟩;have Eb:=h2.At;have Ah:=A0 h2;have Aa:Hid (A2 (dx D X) w w2):=A4.o.trans (Ac k2);have Bl:=(k2.block _ Ao.o).trans C1.o;have I8:=A0 Bl;clear n0 n1 n2 n3 n4 n5 n6 n7 ln;obtain⟨n0,n1,n2,n3,n4,n5,n6,n7,ln⟩:=Bj Bl;clear h2 k2 Bl;have Bc:=A0 (fun(W:World) (hb:Below w2.heap.size w2 W)=>And.intro ((fun hs=>I6 hs 5 i) (Ah.o.below hb).1) (Aa.o.trans (Ac (Ah.o.below hb).2)));unfold Ag at Bc;go_wp2_with fail
 refine((Bc.o _ z4ua).1).mono ?_;rintro e w3 ⟨rfl,h3,k3⟩;have Be:=A0 h3.back;have Ay:Hid (A2 (dx D X) w w3):=(Bc.o _ z4ua).2.trans (Ac k3);clear h3 k3;go_wp2;refine bodyPost_ret (v:=.tuple #[]) (by simp[results,Tryz.results221,go_sem]) rfl ?_;exact z4qa
theorem Alw(a b:List UInt8)(ha:a.length<=100)(hb:b.length<=100)(w:World):(Op.stringOp .add ⟨a.toArray⟩ ⟨b.toArray⟩).run Tryz.prog w=.ok (.string ⟨(a++b).toArray⟩) w:=run_string_add_lists w a b z4sa z4sa
theorem A78(h:C.Ms D X β w m)(i:Af)(Jm:m.pop.top.t.length<=100000)(Ip:m.top.t.length<=100000)(hz:100<m.pop.top.t.length+m.top.t.length):Calls Tryz.prog 213 #[.pointer (some ⟨C.mb,0,none⟩),Ag i] w (MP C D X β w (m.pop.pop.fail 10 i) (.tuple #[])):=by
 obtain⟨w0,Ap,Aq,Ae,Ao,As,n0,n1,n2,n3,n4,n5,n6,n7,ln,lb,C9⟩:=h.Ca i;clear h;have tz:decide ((100:Int)<(m.pop.top.t.length:Int)+(m.top.t.length:Int))=true:=by rw[decide_eq_true_iff];omega
 have HT:=A0 (Fe Aq.o);clear hz;unfold Ag;go_enter Tryz.func213,Tryz.ntmps213;go_wp2_with fail
 rw[←Ap.o];refine HT.o.mono ?_;rintro e w1 ⟨rfl,h1,k1⟩;unfold B3;have Bk:=h1.At;have A8:=A0 h1;have A4:Hid (A2 (dx D X) w w1):=Ae.o.trans (Ac k1);have Ad:=(k1.block _ Ao.o).trans As.o;have C1:=A0 Ad;clear n0 n1 n2 n3 n4 n5 n6 n7 ln;obtain⟨n0,n1,n2,n3,n4,n5,n6,n7,ln⟩:=Bj Ad;clear h1 k1 Ad;have B4:=A0 (fun(W:World) (hb:Below w1.heap.size w1 W)=>And.intro ((fun hs=>I6 hs 10 i) (A8.o.below hb).1) (A4.o.trans (Ac (A8.o.below hb).2)));unfold Ag at B4;go_wp2_with fail
 refine((B4.o _ z4ua).1).mono ?_;rintro e w2 ⟨rfl,h2,k2⟩;have Ah:=A0 h2.back;have Aa:Hid (A2 (dx D X) w w2):=(B4.o _ z4ua).2.trans (Ac k2);clear h2 k2;go_wp2;refine bodyPost_ret (v:=.tuple #[]) (by simp[results,Tryz.results213,go_sem]) rfl ?_;exact z4aa
theorem A79(h:C.Ms D X β w m)(i:Af)(hz:m.pop.top.t.length+m.top.t.length<=100)(hn:m.vals.length+1<=90000000000):Calls Tryz.prog 213 #[.pointer (some ⟨C.mb,0,none⟩),Ag i] w (MP C D X β w (m.pop.pop.push (ofStr (m.pop.top.t++m.top.t))) (.tuple #[])):=by
 obtain⟨w0,Ap,Aq,Ae,Ao,As,n0,n1,n2,n3,n4,n5,n6,n7,ln,lb,C9⟩:=h.Ca i;clear h;have tz:decide ((100:Int)<(m.pop.top.t.length:Int)+(m.top.t.length:Int))=false:=by rw[decide_eq_false_iff_not];omega
 have Jm:m.pop.top.t.length<=100:=by omega
 have Ip:m.top.t.length<=100:=by omega
 have HT:=A0 (Fe Aq.o);clear hz;unfold Ag;go_enter Tryz.func213,Tryz.ntmps213;go_wp2_with fail
 rw[←Ap.o];refine HT.o.mono ?_;rintro e w1 ⟨rfl,h1,k1⟩;unfold B3;have Bk:=h1.At;have A8:=A0 h1;have A4:Hid (A2 (dx D X) w w1):=Ae.o.trans (Ac k1);have Ad:=(k1.block _ Ao.o).trans As.o;have C1:=A0 Ad;clear n0 n1 n2 n3 n4 n5 n6 n7 ln;obtain⟨n0,n1,n2,n3,n4,n5,n6,n7,ln⟩:=Bj Ad;clear h1 k1 Ad;have HPs:=A0 (fun(W:World) (hb:Below w1.heap.size w1 W)=>And.intro ((A8.o.below hb).1.push (ofStr (m.pop.top.t++m.top.t)) (by simp[Bs,ofStr]) z51a) (A4.o.trans (Ac (A8.o.below hb).2)));unfold B3 ofStr at HPs;dsimp only[B5]at HPs;go_wp2;have sa:=Alw m.pop.top.t m.top.t Jm Ip;generalize hu:m.pop.top.t++m.top.t=u at *;have HU:=A0 hu;clear hu;go_region_law (first
  | (refine Fg rfl 99 _ _ rfl #[.pointer (some ⟨C.mb,4,none⟩),.agg #[.int .i64 3,.bool false,.int .i64 0,.string ⟨u.toArray⟩,.pointer none]] z4va HQ.o.1 ?_;rintro e w3 ⟨rfl,h3,k3⟩;refine⟨_,rfl,?_⟩;have Be:=A0 h3.back;have Ay:Hid (A2 (dx D X) w w3):=HQ.o.2.trans (Ac k3);clear h3 k3)
  | (refine Fg rfl 86 _ _ rfl #[.string ⟨u.toArray⟩] z4va (Y6 _ _) ?_;rintro e w2 ⟨rfl,hb2'⟩;refine⟨_,rfl,?_⟩;have A9:Below w1.heap.size w1 w2:=Below.trans z4ua (Below.mono (Q3 hb2') z4za);have HQ:=A0 (HPs.o w2 A9);have Eb:=A9.size;clear A9 hb2'))
 all_goals go_wp2
 all_goals go_end0
 all_goals exact⟨rfl,Be.o,Ay.o⟩
theorem z0ia {P:Prop} (h:P:=by
  (try unfold Ag at B4);go_wp2_with fail
  refine((B4.o _ z4ua).1).mono ?_;rintro e w2 ⟨rfl,h2,k2⟩;have Ah:=A0 h2.back;have Aa:Hid (A2 (dx D X) w w2):=(B4.o _ z4ua).2.trans (Ac k2);clear h2 k2;go_wp2;refine bodyPost_ret (v:=.tuple #[]) (by simp[results,Tryz.results212,go_sem]) rfl ?_;exact⟨rfl,Ah.o,Aa.o⟩):P:=h
theorem A65(h:C.Ms D X β w m)(i:Af)(ho:i.op=12)(h3:m.both 3=true)(hz:m.pop.top.t.length+m.top.t.length<=100)(hn:m.vals.length+1<=90000000000):Calls Tryz.prog 212 #[.pointer (some ⟨C.mb,0,none⟩),Ag i] w (MP C D X β w (m.pop.pop.push (ofStr (m.pop.top.t++m.top.t))) (.tuple #[])):=by
 obtain⟨w0,Ap,Aq,Ae,Ao,As,n0,n1,n2,n3,n4,n5,n6,n7,ln,lb,C9⟩:=h.Ca i;clear h;have HBo:=A0 (Jo Aq.o 3);rw[h3]at HBo;have t0:((i.op:Int)==12)=true:=by rw[ho];rfl
 clear ho h3;unfold Ag;go_enter Tryz.func212,Tryz.ntmps212;go_wp2_with fail
 rw[←Ap.o];refine HBo.o.mono ?_;rintro e w1 ⟨rfl,h1,k1⟩;have Bk:=h1.At;have A8:=A0 h1;have A4:Hid (A2 (dx D X) w w1):=Ae.o.trans (Ac k1);have Ad:=(k1.block _ Ao.o).trans As.o;have C1:=A0 Ad;clear n0 n1 n2 n3 n4 n5 n6 n7 ln;obtain⟨n0,n1,n2,n3,n4,n5,n6,n7,ln⟩:=Bj Ad;clear h1 k1 Ad;have B4:=A0 (fun(W:World) (hb:Below w1.heap.size w1 W)=>And.intro ((fun hs=>A79 hs i hz hn) (A8.o.below hb).1) (A4.o.trans (Ac (A8.o.below hb).2)));exact z0ia
theorem A64(h:C.Ms D X β w m)(i:Af)(ho:i.op=12)(h3:m.both 3=true)(Jm:m.pop.top.t.length<=100000)(Ip:m.top.t.length<=100000)(hz:100<m.pop.top.t.length+m.top.t.length):Calls Tryz.prog 212 #[.pointer (some ⟨C.mb,0,none⟩),Ag i] w (MP C D X β w (m.pop.pop.fail 10 i) (.tuple #[])):=by
 obtain⟨w0,Ap,Aq,Ae,Ao,As,n0,n1,n2,n3,n4,n5,n6,n7,ln,lb,C9⟩:=h.Ca i;clear h;have HBo:=A0 (Jo Aq.o 3);rw[h3]at HBo;have t0:((i.op:Int)==12)=true:=by rw[ho];rfl
 clear ho h3;unfold Ag;go_enter Tryz.func212,Tryz.ntmps212;go_wp2_with fail
 rw[←Ap.o];refine HBo.o.mono ?_;rintro e w1 ⟨rfl,h1,k1⟩;have Bk:=h1.At;have A8:=A0 h1;have A4:Hid (A2 (dx D X) w w1):=Ae.o.trans (Ac k1);have Ad:=(k1.block _ Ao.o).trans As.o;have C1:=A0 Ad;clear n0 n1 n2 n3 n4 n5 n6 n7 ln;obtain⟨n0,n1,n2,n3,n4,n5,n6,n7,ln⟩:=Bj Ad;clear h1 k1 Ad;have B4:=A0 (fun(W:World) (hb:Below w1.heap.size w1 W)=>And.intro ((fun hs=>A78 hs i Jm Ip hz) (A8.o.below hb).1) (A4.o.trans (Ac (A8.o.below hb).2)));exact z0ia
theorem A63(h:C.Ms D X β w m)(i:Af)(ho:i.op=12)(h3:m.both 3=false)(h2:m.both 2=false):Calls Tryz.prog 212 #[.pointer (some ⟨C.mb,0,none⟩),Ag i] w (MP C D X β w (m.fail 5 i) (.tuple #[])):=by
 obtain⟨w0,Ap,Aq,Ae,Ao,As,n0,n1,n2,n3,n4,n5,n6,n7,ln,lb,C9⟩:=h.Ca i;clear h;have HBo:=A0 (Jo Aq.o 3);rw[h3]at HBo;have t0:((i.op:Int)==12)=true:=by rw[ho];rfl
 clear ho h3;unfold Ag;go_enter Tryz.func212,Tryz.ntmps212;go_wp2_with fail
 rw[←Ap.o];refine HBo.o.mono ?_;rintro e w1 ⟨rfl,h1,k1⟩;have Bk:=h1.At;have A8:=A0 h1;have A4:Hid (A2 (dx D X) w w1):=Ae.o.trans (Ac k1);have Ad:=(k1.block _ Ao.o).trans As.o;have C1:=A0 Ad;clear n0 n1 n2 n3 n4 n5 n6 n7 ln;obtain⟨n0,n1,n2,n3,n4,n5,n6,n7,ln⟩:=Bj Ad;clear h1 k1 Ad;have B4:=A0 (fun(W:World) (hb:Below w1.heap.size w1 W)=>And.intro ((fun hs=>Rt hs i h2) (A8.o.below hb).1) (A4.o.trans (Ac (A8.o.below hb).2)));exact z0ia
theorem A66(h:C.Ms D X β w m)(i:Af)(ho:i.op=12)(h3:m.both 3=false)(h2:m.both 2=true)(hn:m.vals.length+1<=90000000000):Calls Tryz.prog 212 #[.pointer (some ⟨C.mb,0,none⟩),Ag i] w (MP C D X β w (m.pop.pop.push (ofInt (wr (m.pop.top.n+m.top.n)))) (.tuple #[])):=by
 obtain⟨w0,Ap,Aq,Ae,Ao,As,n0,n1,n2,n3,n4,n5,n6,n7,ln,lb,C9⟩:=h.Ca i;clear h;have HBo:=A0 (Jo Aq.o 3);rw[h3]at HBo;have t0:((i.op:Int)==12)=true:=by rw[ho];rfl
 clear ho h3;unfold Ag;go_enter Tryz.func212,Tryz.ntmps212;go_wp2_with fail
 rw[←Ap.o];refine HBo.o.mono ?_;rintro e w1 ⟨rfl,h1,k1⟩;have Bk:=h1.At;have A8:=A0 h1;have A4:Hid (A2 (dx D X) w w1):=Ae.o.trans (Ac k1);have Ad:=(k1.block _ Ao.o).trans As.o;have C1:=A0 Ad;clear n0 n1 n2 n3 n4 n5 n6 n7 ln;obtain⟨n0,n1,n2,n3,n4,n5,n6,n7,ln⟩:=Bj Ad;clear h1 k1 Ad;have HA:=A0 (Ru A8.o i h2);unfold Ag at HA;go_wp2_with fail
 refine HA.o.mono ?_;rintro e w2 ⟨rfl,h2,k2⟩;have Eb:=h2.At;have Ah:=A0 h2;have Aa:Hid (A2 (dx D X) w w2):=A4.o.trans (Ac k2);have Bl:=(k2.block _ Ao.o).trans C1.o;have I8:=A0 Bl;clear n0 n1 n2 n3 n4 n5 n6 n7 ln;obtain⟨n0,n1,n2,n3,n4,n5,n6,n7,ln⟩:=Bj Bl;clear h2 k2 Bl;have HT:=A0 (Fe Ah.o);go_wp2_with fail
 refine HT.o.mono ?_;rintro e w3 ⟨rfl,h3,k3⟩;unfold B3;have lb3:=h3.At;have Be:=A0 h3;have Ay:Hid (A2 (dx D X) w w3):=Aa.o.trans (Ac k3);have J1:=(k3.block _ Ao.o).trans I8.o;have HI3:=A0 J1;clear n0 n1 n2 n3 n4 n5 n6 n7 ln;obtain⟨n0,n1,n2,n3,n4,n5,n6,n7,ln⟩:=Bj J1;clear h3 k3 J1;have Cl:=A0 (fun(W:World) (hb:Below w3.heap.size w3 W)=>And.intro ((fun hs=>Oe hs (wr (m.pop.top.n+m.top.n)) z51a) (Be.o.below hb).1) (Ay.o.trans (Ac (Be.o.below hb).2)));unfold Ag at Cl;go_wp2_with fail
 refine((Cl.o _ z4ua).1).mono ?_;rintro e w4 ⟨rfl,h4,k4⟩;have El:=A0 h4.back;have Cs:Hid (A2 (dx D X) w w4):=(Cl.o _ z4ua).2.trans (Ac k4);clear h4 k4;exact z49a
end
end Go.Proofs.YtjdlndhfaaolaaaGreatDoor
