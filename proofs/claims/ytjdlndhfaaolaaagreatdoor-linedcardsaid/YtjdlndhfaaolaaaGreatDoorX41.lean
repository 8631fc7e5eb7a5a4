import Derived.Test.YtjdlndhfaaolaaaGreatDoorX37
set_option maxHeartbeats 20000000
namespace Go.Proofs.YtjdlndhfaaolaaaGreatDoor
section
set_option maxRecDepth 100000
open Go.RowKit
open Go.Deep (BT)
variable {C:MC} {D X:Nat->Prop} {w w':World} {m:MS} {β:Nat->Nat}
theorem z4xa {P:Prop} (h:P:=by repeat (first|exact Below.refl _ _|refine Below.alloc ?_ z4wa _|refine Below.setCell ?_ z4wa _|refine Below.drew ?_)):P:=h
theorem z44a {P:Prop} (h:P:=by
  (try unfold Ag at Bc);go_wp2_with fail
  refine((Bc.o _ z4xa).1).mono ?_;rintro e w3 ⟨rfl,h3,k3⟩;have Be:=A0 h3.back;have Ay:Hid (A2 (dx D X) w w3):=(Bc.o _ z4xa).2.trans (Ac k3);clear h3 k3;go_wp2;go_end0;exact⟨rfl,Be.o,Ay.o⟩):P:=h
theorem A6y(h:C.Ms D X β w m)(i:Af)(ho:i.op=19)(hn:m.vals.length+1<=90000000000):Calls Tryz.prog 216 #[.pointer (some ⟨C.mb,0,none⟩),Ag i] w (MP C D X β w (m.ints i (fun a b m'=>if b=0 then m'.fail 6 i else m'.push (ofInt (wr (a.tdiv b))))) (.tuple #[])):=by
 obtain⟨w0,Ap,Aq,Ae,Ao,As,n0,n1,n2,n3,n4,n5,n6,n7,ln,lb,C9⟩:=h.Ca i;clear h;have t0:((i.op:Int)==19)=true:=by rw[ho];rfl
 unfold MS.ints;clear ho;cases hb:m.both 2
 ·rw[if_neg z4wa];have HA:=A0 (Rt Aq.o i hb);unfold Ag at HA;clear hb;unfold Ag;go_enter Tryz.func216,Tryz.ntmps216;go_wp2_with fail
  rw[←Ap.o];refine HA.o.mono ?_;rintro e w1 ⟨rfl,h1,k1⟩;have A8:=A0 h1.back;have A4:Hid (A2 (dx D X) w w1):=Ae.o.trans (Ac k1);clear h1 k1;go_wp2;refine bodyPost_ret (v:=.tuple #[]) (by simp[results,Tryz.results216,go_sem]) rfl ?_;exact z4ba
 ·rw[if_pos rfl];have HA:=A0 (Ru Aq.o i hb);unfold Ag at HA;clear hb;unfold MS.two;dsimp only;by_cases hz:m.top.n=0
  ·rw[if_pos hz];have tz:(m.top.n==0)=true:=by rw[hz];rfl
   clear hz;unfold Ag;go_enter Tryz.func216,Tryz.ntmps216;go_wp2_with fail
   rw[←Ap.o];refine HA.o.mono ?_;rintro e w1 ⟨rfl,h1,k1⟩;have Bk:=h1.At;have A8:=A0 h1;have A4:Hid (A2 (dx D X) w w1):=Ae.o.trans (Ac k1);have Ad:=(k1.block _ Ao.o).trans As.o;have C1:=A0 Ad;clear n0 n1 n2 n3 n4 n5 n6 n7 ln;obtain⟨n0,n1,n2,n3,n4,n5,n6,n7,ln⟩:=Bj Ad;clear h1 k1 Ad;have HT:=A0 (Fe A8.o);go_wp2_with fail
   refine HT.o.mono ?_;rintro e w2 ⟨rfl,h2,k2⟩;unfold B3;have Eb:=h2.At;have Ah:=A0 h2;have Aa:Hid (A2 (dx D X) w w2):=A4.o.trans (Ac k2);have Bl:=(k2.block _ Ao.o).trans C1.o;have I8:=A0 Bl;clear n0 n1 n2 n3 n4 n5 n6 n7 ln;obtain⟨n0,n1,n2,n3,n4,n5,n6,n7,ln⟩:=Bj Bl;clear h2 k2 Bl;have Bc:=A0 (fun(W:World) (hb:Below w2.heap.size w2 W)=>And.intro ((fun hs=>I6 hs 6 i) (Ah.o.below hb).1) (Aa.o.trans (Ac (Ah.o.below hb).2)));unfold Ag at Bc;go_wp2_with fail
   refine((Bc.o _ z4xa).1).mono ?_;rintro e w3 ⟨rfl,h3,k3⟩;have Be:=A0 h3.back;have Ay:Hid (A2 (dx D X) w w3):=(Bc.o _ z4xa).2.trans (Ac k3);clear h3 k3;go_wp2;refine bodyPost_ret (v:=.tuple #[]) (by simp[results,Tryz.results216,go_sem]) rfl ?_;exact z4qa
  ·rw[if_neg hz];have tz:(m.top.n==0)=false:=by rw[beq_eq_false_iff_ne];exact hz
   unfold Ag;go_enter Tryz.func216,Tryz.ntmps216;go_wp2_with fail
   rw[←Ap.o];refine HA.o.mono ?_;rintro e w1 ⟨rfl,h1,k1⟩;have Bk:=h1.At;have A8:=A0 h1;have A4:Hid (A2 (dx D X) w w1):=Ae.o.trans (Ac k1);have Ad:=(k1.block _ Ao.o).trans As.o;have C1:=A0 Ad;clear n0 n1 n2 n3 n4 n5 n6 n7 ln;obtain⟨n0,n1,n2,n3,n4,n5,n6,n7,ln⟩:=Bj Ad;clear h1 k1 Ad;have HT:=A0 (Fe A8.o);go_wp2_with fail
   refine HT.o.mono ?_;rintro e w2 ⟨rfl,h2,k2⟩;unfold B3;have Eb:=h2.At;have Ah:=A0 h2;have Aa:Hid (A2 (dx D X) w w2):=A4.o.trans (Ac k2);have Bl:=(k2.block _ Ao.o).trans C1.o;have I8:=A0 Bl;clear n0 n1 n2 n3 n4 n5 n6 n7 ln;obtain⟨n0,n1,n2,n3,n4,n5,n6,n7,ln⟩:=Bj Bl;clear h2 k2 Bl;have Bc:=A0 (fun(W:World) (hb:Below w2.heap.size w2 W)=>And.intro ((fun hs=>Oe hs (wr (m.pop.top.n.tdiv m.top.n)) z51a) (Ah.o.below hb).1) (Aa.o.trans (Ac (Ah.o.below hb).2)));exact z44a
theorem A7x(h:C.Ms D X β w m)(i:Af)(ho:i.op=21)(hn:m.vals.length+1<=90000000000):Calls Tryz.prog 217 #[.pointer (some ⟨C.mb,0,none⟩),Ag i] w (MP C D X β w (m.ints i (fun a b m'=>if b=0 then m'.fail 6 i else m'.push (ofInt ( (a.tmod b))))) (.tuple #[])):=by
 obtain⟨w0,Ap,Aq,Ae,Ao,As,n0,n1,n2,n3,n4,n5,n6,n7,ln,lb,C9⟩:=h.Ca i;clear h;have t0:((i.op:Int)==21)=true:=by rw[ho];rfl
 unfold MS.ints;clear ho;cases hb:m.both 2
 ·rw[if_neg z4wa];have HA:=A0 (Rt Aq.o i hb);unfold Ag at HA;clear hb;unfold Ag;go_enter Tryz.func217,Tryz.ntmps217;go_wp2_with fail
  rw[←Ap.o];refine HA.o.mono ?_;rintro e w1 ⟨rfl,h1,k1⟩;have A8:=A0 h1.back;have A4:Hid (A2 (dx D X) w w1):=Ae.o.trans (Ac k1);clear h1 k1;go_wp2;refine bodyPost_ret (v:=.tuple #[]) (by simp[results,Tryz.results217,go_sem]) rfl ?_;exact z4ba
 ·rw[if_pos rfl];have HA:=A0 (Ru Aq.o i hb);unfold Ag at HA;clear hb;unfold MS.two;dsimp only;by_cases hz:m.top.n=0
  ·rw[if_pos hz];have tz:(m.top.n==0)=true:=by rw[hz];rfl
   clear hz;unfold Ag;go_enter Tryz.func217,Tryz.ntmps217;go_wp2_with fail
   rw[←Ap.o];refine HA.o.mono ?_;rintro e w1 ⟨rfl,h1,k1⟩;have Bk:=h1.At;have A8:=A0 h1;have A4:Hid (A2 (dx D X) w w1):=Ae.o.trans (Ac k1);have Ad:=(k1.block _ Ao.o).trans As.o;have C1:=A0 Ad;clear n0 n1 n2 n3 n4 n5 n6 n7 ln;obtain⟨n0,n1,n2,n3,n4,n5,n6,n7,ln⟩:=Bj Ad;clear h1 k1 Ad;have HT:=A0 (Fe A8.o);go_wp2_with fail
   refine HT.o.mono ?_;rintro e w2 ⟨rfl,h2,k2⟩;unfold B3;have Eb:=h2.At;have Ah:=A0 h2;have Aa:Hid (A2 (dx D X) w w2):=A4.o.trans (Ac k2);have Bl:=(k2.block _ Ao.o).trans C1.o;have I8:=A0 Bl;clear n0 n1 n2 n3 n4 n5 n6 n7 ln;obtain⟨n0,n1,n2,n3,n4,n5,n6,n7,ln⟩:=Bj Bl;clear h2 k2 Bl;have Bc:=A0 (fun(W:World) (hb:Below w2.heap.size w2 W)=>And.intro ((fun hs=>I6 hs 6 i) (Ah.o.below hb).1) (Aa.o.trans (Ac (Ah.o.below hb).2)));unfold Ag at Bc;go_wp2_with fail
   refine((Bc.o _ z4xa).1).mono ?_;rintro e w3 ⟨rfl,h3,k3⟩;have Be:=A0 h3.back;have Ay:Hid (A2 (dx D X) w w3):=(Bc.o _ z4xa).2.trans (Ac k3);clear h3 k3;go_wp2;refine bodyPost_ret (v:=.tuple #[]) (by simp[results,Tryz.results217,go_sem]) rfl ?_;exact z4qa
  ·rw[if_neg hz];have tz:(m.top.n==0)=false:=by rw[beq_eq_false_iff_ne];exact hz
   unfold Ag;go_enter Tryz.func217,Tryz.ntmps217;go_wp2_with fail
   rw[←Ap.o];refine HA.o.mono ?_;rintro e w1 ⟨rfl,h1,k1⟩;have Bk:=h1.At;have A8:=A0 h1;have A4:Hid (A2 (dx D X) w w1):=Ae.o.trans (Ac k1);have Ad:=(k1.block _ Ao.o).trans As.o;have C1:=A0 Ad;clear n0 n1 n2 n3 n4 n5 n6 n7 ln;obtain⟨n0,n1,n2,n3,n4,n5,n6,n7,ln⟩:=Bj Ad;clear h1 k1 Ad;have HT:=A0 (Fe A8.o);go_wp2_with fail
   refine HT.o.mono ?_;rintro e w2 ⟨rfl,h2,k2⟩;unfold B3;have Eb:=h2.At;have Ah:=A0 h2;have Aa:Hid (A2 (dx D X) w w2):=A4.o.trans (Ac k2);have Bl:=(k2.block _ Ao.o).trans C1.o;have I8:=A0 Bl;clear n0 n1 n2 n3 n4 n5 n6 n7 ln;obtain⟨n0,n1,n2,n3,n4,n5,n6,n7,ln⟩:=Bj Bl;clear h2 k2 Bl;have Bc:=A0 (fun(W:World) (hb:Below w2.heap.size w2 W)=>And.intro ((fun hs=>Oe hs ( (m.pop.top.n.tmod m.top.n)) z51a) (Ah.o.below hb).1) (Aa.o.trans (Ac (Ah.o.below hb).2)));exact z44a
theorem A7l(h:C.Ms D X β w m)(i:Af)(ho:i.op=23)(hk:m.top.k≠2):Calls Tryz.prog 218 #[.pointer (some ⟨C.mb,0,none⟩),Ag i] w (MP C D X β w (m.fail 5 i) (.tuple #[])):=by
 obtain⟨w0,Ap,Aq,Ae,Ao,As,n0,n1,n2,n3,n4,n5,n6,n7,ln,lb,C9⟩:=h.Ca i;clear h;have t23:((i.op:Int)==23)=true:=by rw[ho];rfl
 have tk:(((m.top.k:Nat):Int) !=2)=true:=by rw[bne_iff_ne];omega
 have vf0:=Qx;have HT:=A0 Aq.o.top;clear ho hk;unfold Ag;go_enter Tryz.func218,Tryz.ntmps218;go_wp2_with fail
 rw[←Ap.o];refine HT.o.mono ?_;rintro e w1 ⟨rfl,h1,k1⟩;unfold B3;have Bk:=h1.At;have A8:=A0 h1;have A4:Hid (A2 (dx D X) w w1):=Ae.o.trans (Ac k1);have Ad:=(k1.block _ Ao.o).trans As.o;have C1:=A0 Ad;clear n0 n1 n2 n3 n4 n5 n6 n7 ln;obtain⟨n0,n1,n2,n3,n4,n5,n6,n7,ln⟩:=Bj Ad;clear h1 k1 Ad;have B4:=A0 (fun(W:World) (hb:Below w1.heap.size w1 W)=>And.intro ((fun hs=>I6 hs 5 i) (A8.o.below hb).1) (A4.o.trans (Ac (A8.o.below hb).2)));unfold Ag at B4;go_wp2_with fail
 refine((B4.o _ z4xa).1).mono ?_;rintro e w2 ⟨rfl,h2,k2⟩;have Ah:=A0 h2.back;have Aa:Hid (A2 (dx D X) w w2):=(B4.o _ z4xa).2.trans (Ac k2);clear h2 k2;go_wp2;refine bodyPost_ret (v:=.tuple #[]) (by simp[results,Tryz.results218,go_sem]) rfl ?_;exact z4aa
theorem A7m(h:C.Ms D X β w m)(i:Af)(ho:i.op=23)(hk:m.top.k=2)(hn:m.vals.length+1<=90000000000):Calls Tryz.prog 218 #[.pointer (some ⟨C.mb,0,none⟩),Ag i] w (MP C D X β w (m.pop.push (ofInt (wr (-m.top.n)))) (.tuple #[])):=by
 obtain⟨w0,Ap,Aq,Ae,Ao,As,n0,n1,n2,n3,n4,n5,n6,n7,ln,lb,C9⟩:=h.Ca i;clear h;have t23:((i.op:Int)==23)=true:=by rw[ho];rfl
 have tk:(((m.top.k:Nat):Int) !=2)=false:=by rw[hk];rfl
 have vf0:=Qx;have vf2:=A4r;have HT:=A0 Aq.o.top;clear ho hk;unfold Ag;go_enter Tryz.func218,Tryz.ntmps218;go_wp2_with fail
 rw[←Ap.o];refine HT.o.mono ?_;rintro e w1 ⟨rfl,h1,k1⟩;unfold B3;have Bk:=h1.At;have A8:=A0 h1;have A4:Hid (A2 (dx D X) w w1):=Ae.o.trans (Ac k1);have Ad:=(k1.block _ Ao.o).trans As.o;have C1:=A0 Ad;clear n0 n1 n2 n3 n4 n5 n6 n7 ln;obtain⟨n0,n1,n2,n3,n4,n5,n6,n7,ln⟩:=Bj Ad;clear h1 k1 Ad;have HQ:=A0 A8.o.pop;go_wp2_with fail
 refine HQ.o.mono ?_;rintro e w2 ⟨rfl,h2,k2⟩;unfold B3;have Eb:=h2.At;have Ah:=A0 h2;have Aa:Hid (A2 (dx D X) w w2):=A4.o.trans (Ac k2);have Bl:=(k2.block _ Ao.o).trans C1.o;have I8:=A0 Bl;clear n0 n1 n2 n3 n4 n5 n6 n7 ln;obtain⟨n0,n1,n2,n3,n4,n5,n6,n7,ln⟩:=Bj Bl;clear h2 k2 Bl;have Bc:=A0 (fun(W:World) (hb:Below w2.heap.size w2 W)=>And.intro ((fun hs=>Oe hs (wr (-m.top.n)) z51a) (Ah.o.below hb).1) (Aa.o.trans (Ac (Ah.o.below hb).2)));exact z44a
theorem MC.Ms.Vr(h:C.Ms D X β w m){i:Nat}(hi:i<m.arr.length):∃a c,w.cell? ⟨β i,0,none⟩=some (.slice a m.arr[i].length c)/\β i<w.heap.size/\w.ownsRow 0 225 5 (.slice a m.arr[i].length c) m.arr[i].length (C5 (By β) m.arr[i]):=by
 obtain⟨ρ,s,x,fv,ab,lp,hv⟩:=h;have hl:=hv.arr.len;obtain⟨h1,h2,_⟩:=hv.arr.at' i z4sa hi;have hn:(ab[i]'z4sa).2.1=m.arr[i].length:=(Cf h2).1;have c0:=A7 h1 0 _ rfl;unfold Kx at c0 h2;rw[hn]at c0 h2;exact⟨_,_,c0,A6 h1,h2⟩
def Fh(m:MS)(v:PV):Value:=.tuple #[.int .i64 (((sizeOf' m v).getD 0:Nat):Int),.bool (sizeOf' m v).isSome]
theorem z5wa {P:Prop} (h:P:=by simp[results,Tryz.results209,go_sem]):P:=h
theorem Pd(h:C.Ms D X β w m)(v:PV)(hv:Bs m.arr.length v):Calls Tryz.prog 209 #[B3 β v] w fun e w'=>e=.returned (Fh m v)/\Below w.heap.size w w':=by
 have hbl:Below w.heap.size w (w.alloc (.cells #[.int .i64 (v.k:Nat),.bool v.y,.int .i64 v.n,.string ⟨v.t.toArray⟩,.pointer (B5 β v)] 225)):=Below.alloc (Below.refl _ _) (Nat.le_refl _) _;have HB:=A0 hbl;unfold B3;by_cases h3:v.k=3
 ·have e:Fh m v=.tuple #[.int .i64 (v.t.length:Nat),.bool true]:=by unfold Fh sizeOf';rw[if_pos h3];rfl
  rw[e];have t3:((v.k:Int)==3)=true:=by rw[h3];rfl
  clear h3 e hbl;go_enter Tryz.func209,Tryz.ntmps209;go_wp2;exact bodyPost_ret (v:=.tuple #[.int .i64 (v.t.length:Nat),.bool true]) z5wa rfl ⟨rfl,HB.o⟩
 ·have t3:((v.k:Int)==3)=false:=by simp;omega
  by_cases h4:v.k=4
  ·have t4:((v.k:Int)==4)=true:=by rw[h4];rfl
   obtain⟨i,hr,hi⟩:∃i,v.r=some i/\i<m.arr.length:=by
    unfold Bs at hv;split at hv
    ·exact absurd h4 hv
    ·rename_i i hr;exact⟨i,hr,hv.2⟩
   have e:Fh m v=.tuple #[.int .i64 (m.arr[i].length:Nat),.bool true]:=by unfold Fh sizeOf';rw[if_neg h3,if_pos h4,hr];simp[List.getElem?_eq_getElem hi]
   have er:B5 β v=some ⟨β i,0,none⟩:=by unfold B5;rw[hr]
   rw[e,er];rw[er]at HB hbl;obtain⟨a,c,c0,lb,_⟩:=h.Vr hi;have c1:=(World.cell?_of_block (hbl.block _ lb)).trans c0;generalize m.arr[i].length=n at *;clear h3 h4 e hbl hr er hv h c0;go_enter Tryz.func209,Tryz.ntmps209;go_wp2;exact bodyPost_ret (v:=.tuple #[.int .i64 (n:Nat),.bool true]) z5wa rfl ⟨rfl,HB.o⟩
  ·have t4:((v.k:Int)==4)=false:=by simp;omega
   have e:Fh m v=.tuple #[.int .i64 0,.bool false]:=by unfold Fh sizeOf';rw[if_neg h3,if_neg h4];rfl
   rw[e];clear h3 h4 e hbl;go_enter Tryz.func209,Tryz.ntmps209;go_wp2;exact bodyPost_ret (v:=.tuple #[.int .i64 0,.bool false]) z5wa rfl ⟨rfl,HB.o⟩
theorem A7e(h:C.Ms D X β w m)(i:Af)(hv:Bs m.arr.length m.top)(hs:Fh m.pop m.top=.tuple #[.int .i64 0,.bool false]):Calls Tryz.prog 162 #[.pointer (some ⟨C.mb,0,none⟩),Ag i] w (MP C D X β w (m.pop.fail 5 i) (.tuple #[])):=by
 obtain⟨w0,Ap,Aq,Ae,Ao,As,n0,n1,n2,n3,n4,n5,n6,n7,ln,lb,C9⟩:=h.Ca i;clear h;have HP:=A0 Aq.o.pop;have vf0:=Qx;unfold Ag;go_enter Tryz.func162,Tryz.ntmps162;go_wp2_with fail
 rw[←Ap.o];refine HP.o.mono ?_;rintro e w1 ⟨rfl,h1,k1⟩;have Bk:=h1.At;have A8:=A0 h1;have A4:Hid (A2 (dx D X) w w1):=Ae.o.trans (Ac k1);have Ad:=(k1.block _ Ao.o).trans As.o;clear n0 n1 n2 n3 n4 n5 n6 n7 ln;obtain⟨n0,n1,n2,n3,n4,n5,n6,n7,ln⟩:=Bj Ad;have C1:=A0 Ad;clear h1 k1 Ad HP;have HSz:=A0 (fun(W:World) (hb:Below w1.heap.size w1 W)=>Pd (A8.o.below hb).1 m.top hv);rw[show Fh m.pop m.top=_ from hs]at HSz;unfold B3 at HSz ⊢;clear hv hs;generalize m.top=u at *;go_wp2_with fail
 refine(HSz.o _ z4xa).mono ?_;rintro e w2 ⟨rfl,A9⟩;have Ar:Below w1.heap.size w1 w2:=Below.trans z4xa (A9.mono z4wa);have Bl:=(Ar.block _ ln).trans C1.o;clear n0 n1 n2 n3 n4 n5 n6 n7;have lw:=Ar.size;obtain⟨n0,n1,n2,n3,n4,n5,n6,n7,Gc⟩:=Bj Bl;have Eb:C.mb<w2.heap.size:=by omega
 have Bc:=A0 (fun(W:World) (hb:Below w2.heap.size w2 W)=>And.intro (I6 (A8.o.below (Ar.trans (hb.mono lw))).1 5 i) (A4.o.trans (Ac (A8.o.below (Ar.trans (hb.mono lw))).2)));unfold Ag at Bc;clear A9 Ar Bl HSz;go_wp2_with fail
 refine((Bc.o _ z4xa).1).mono ?_;rintro e w3 ⟨rfl,h3,k3⟩;have Be:=A0 h3.back;have Ay:Hid (A2 (dx D X) w w3):=(Bc.o _ z4xa).2.trans (Ac k3);clear h3 k3;go_wp2;refine bodyPost_ret (v:=.tuple #[]) (by simp[results,Tryz.results162,go_sem]) rfl ?_;exact z4qa
theorem A7f(h:C.Ms D X β w m)(i:Af)(hv:Bs m.arr.length m.top){n:Nat}(hs:Fh m.pop m.top=.tuple #[.int .i64 (n:Nat),.bool true])(hn:m.vals.length<=90000000000):Calls Tryz.prog 162 #[.pointer (some ⟨C.mb,0,none⟩),Ag i] w (MP C D X β w (m.pop.push (ofInt n)) (.tuple #[])):=by
 obtain⟨w0,Ap,Aq,Ae,Ao,As,n0,n1,n2,n3,n4,n5,n6,n7,ln,lb,C9⟩:=h.Ca i;clear h;have HP:=A0 Aq.o.pop;have vf0:=Qx;unfold Ag;go_enter Tryz.func162,Tryz.ntmps162;go_wp2_with fail
 rw[←Ap.o];refine HP.o.mono ?_;rintro e w1 ⟨rfl,h1,k1⟩;have Bk:=h1.At;have A8:=A0 h1;have A4:Hid (A2 (dx D X) w w1):=Ae.o.trans (Ac k1);have Ad:=(k1.block _ Ao.o).trans As.o;clear n0 n1 n2 n3 n4 n5 n6 n7 ln;obtain⟨n0,n1,n2,n3,n4,n5,n6,n7,ln⟩:=Bj Ad;have C1:=A0 Ad;clear h1 k1 Ad HP;have HSz:=A0 (fun(W:World) (hb:Below w1.heap.size w1 W)=>Pd (A8.o.below hb).1 m.top hv);rw[show Fh m.pop m.top=_ from hs]at HSz;unfold B3 at HSz ⊢;clear hv hs;generalize m.top=u at *;go_wp2_with fail
 refine(HSz.o _ z4xa).mono ?_;rintro e w2 ⟨rfl,A9⟩;have Ar:Below w1.heap.size w1 w2:=Below.trans z4xa (A9.mono z4wa);have Bl:=(Ar.block _ ln).trans C1.o;clear n0 n1 n2 n3 n4 n5 n6 n7;have lw:=Ar.size;obtain⟨n0,n1,n2,n3,n4,n5,n6,n7,Gc⟩:=Bj Bl;have Eb:C.mb<w2.heap.size:=by omega
 have hl:m.pop.vals.length+1<=90000000000\/m.vals.length=0:=by simp only[MS.pop,List.length_dropLast];omega
 have Jm:m.pop.vals.length+1<=90000000000:=by simp only[MS.pop,List.length_dropLast]at hl ⊢;omega
 have Bc:=A0 (fun(W:World) (hb:Below w2.heap.size w2 W)=>And.intro ((A8.o.below (Ar.trans (hb.mono lw))).1.push (ofInt n) (by simp[Bs,ofInt]) Jm) (A4.o.trans (Ac (A8.o.below (Ar.trans (hb.mono lw))).2)));clear A9 Ar Bl HSz hl Jm;go_wp2;go_region_law (first
  | (refine Fg rfl 99 _ _ rfl #[.pointer (some ⟨C.mb,4,none⟩),.agg #[.int .i64 2,.bool false,.int .i64 n,.string ⟨#[]⟩,.pointer none]] z4va Cl.o.1 ?_;rintro e w4 ⟨rfl,h4,k4⟩;refine⟨_,rfl,?_⟩;have El:=A0 h4.back;have Cs:Hid (A2 (dx D X) w w4):=Cl.o.2.trans (Ac k4);clear h4 k4)
  | (refine Fg rfl 85 _ _ rfl #[.int .i64 n] z4va (Y5 n _) ?_;rintro e w3 ⟨rfl,hb3'⟩;refine⟨_,rfl,?_⟩;have Bi:=Q3 hb3';have Cl:=A0 (Bc.o w3 Bi);have lb3:=Bi.size;clear Bi hb3'))
 all_goals go_wp2
 all_goals go_end0
 all_goals exact⟨rfl,El.o,Cs.o⟩
theorem A21(h:C.Ms D X β w m)(n:Nat)(i:Af)(hc:m.cells+n<=500):Calls Tryz.prog 207 #[.pointer (some ⟨C.mb,0,none⟩),.int .i64 (n:Nat),Ag i] w (MP C D X β w { m with cells:=m.cells+n } (.bool true)):=by
 obtain⟨ρ,s,x,fv,ab,lp,h⟩:=h;obtain⟨c0,c1,c2,c3,c4,c5,c6,c7,c8,c9,c10,c11,c12,c13,fz,lb⟩:=Q5 (show w.heap[C.mb]?=some (.cells #[_,_,_,_,_,_,_,_,_,_,_,_,_,_] _ (0,0)) from h.cell);have HH:=A0 h;have t0:¬(500:Int)-(m.cells:Int)<(n:Int):=by omega
 have HFu:Hid (((m.cells+n:Nat):Int)=(m.cells:Int)+n):=by show _=_;omega
 clear h c0 c1 c2 c3 c4 c5 c6 c7 c8 c9 c11 c12 c13;unfold Ag;go_enter Tryz.func207,Tryz.ntmps207;go_wp2;go_ret;rw[←HFu.o];have hcl:((w.setCell ⟨C.mb,10,none⟩ (.int .i64 ((m.cells+n:Nat):Nat))).alloc (.cells #[.int .i64 (i.op:Nat),.int .i64 i.arg,.int .i64 (i.line:Nat),.int .i64 (i.v.k:Nat),.bool i.v.y,.int .i64 i.v.n,.string ⟨i.v.t.toArray⟩,.pointer none] 251)).heap[C.mb]?=some (.cells (C.cells s x m.fuel (m.cells+n) m.code m.line) 167 (0,0)):=by
  rw[Below.heap_alloc _ _ _ z50a,(heap_set (j:=10) HH.o.cell (.int .i64 ((m.cells+n:Nat):Nat)))];simp[MC.cells]
 have hkk:∀g,g<w.heap.size->g≠C.mb->((w.setCell ⟨C.mb,10,none⟩ (.int .i64 ((m.cells+n:Nat):Nat))).alloc (.cells #[.int .i64 (i.op:Nat),.int .i64 i.arg,.int .i64 (i.line:Nat),.int .i64 (i.v.k:Nat),.bool i.v.y,.int .i64 i.v.n,.string ⟨i.v.t.toArray⟩,.pointer none] 251)).heap[g]?=w.heap[g]?:=by
  exact z1ua
 have hpl:=HH.o.plain (now:=m.now) (fuel:=m.fuel) (cells:=m.cells+n) (code:=m.code) (line:=m.line) (x':=x) HH.o.now hcl hkk z57a rfl rfl rfl;exact⟨rfl,hpl⟩
theorem A20(h:C.Ms D X β w m)(n:Nat)(i:Af)(hc:500<m.cells+n)(h5:m.cells<=500):Calls Tryz.prog 207 #[.pointer (some ⟨C.mb,0,none⟩),.int .i64 (n:Nat),Ag i] w (MP C D X β w (m.fail 10 i) (.bool false)):=by
 have Bv:Below w.heap.size w (w.alloc (.cells #[.int .i64 (i.op:Nat),.int .i64 i.arg,.int .i64 (i.line:Nat),.int .i64 (i.v.k:Nat),.bool i.v.y,.int .i64 i.v.n,.string ⟨i.v.t.toArray⟩,.pointer none] 251)):=Below.alloc (Below.refl _ _) (Nat.le_refl _) _;obtain⟨h0,hd0⟩:=h.below Bv;have HF:=A0 (I6 h0 10 i);have Ae:=A0 hd0;obtain⟨ρ,s,x,fv,ab,lp,h⟩:=h;obtain⟨c0,c1,c2,c3,c4,c5,c6,c7,c8,c9,c10,c11,c12,c13,fz,lb⟩:=Q5 (show w.heap[C.mb]?=some (.cells #[_,_,_,_,_,_,_,_,_,_,_,_,_,_] _ (0,0)) from h.cell);have t0:(500:Int)-(m.cells:Int)<(n:Int):=by omega
 have lx:=heap_alloc_new w (.cells #[.int .i64 (i.op:Nat),.int .i64 i.arg,.int .i64 (i.line:Nat),.int .i64 (i.v.k:Nat),.bool i.v.y,.int .i64 i.v.n,.string ⟨i.v.t.toArray⟩,.pointer none] 251);clear h c0 c1 c2 c3 c4 c5 c6 c7 c8 c9 c11 c12 c13 h0 hd0 Bv hc;unfold Ag at *;go_enter Tryz.func207,Tryz.ntmps207;exact z2ba
theorem Sm(w:World)(a b c:Obj):∃W,W=((w.alloc a).alloc b).alloc c/\W.heap[w.heap.size]?=some a/\W.heap[w.heap.size+1]?=some b/\W.heap[w.heap.size+1+1]?=some c/\Below w.heap.size w W/\W.heap.size=w.heap.size+3:=by
 have z0:=alloc_old (o':=c) (alloc_old (o':=b) (heap_alloc_new w a));have z1:=alloc_old (o':=c) (heap_alloc_new (w.alloc a) b);have z2:=heap_alloc_new ((w.alloc a).alloc b) c;have hs:∀(v:World) (o:Obj),(v.alloc o).heap.size=v.heap.size+1:=fun v o=>by simp
 simp only[hs]at z0 z1 z2;exact⟨_,rfl,z0,z1,z2,Below.alloc (Below.alloc (Below.alloc (Below.refl _ _) (Nat.le_refl _) _) z4wa _) z4za _,by simp⟩
theorem Jb{w:World}{b:Nat}{a0 a1 a2 a3 a4:Value}{t:TypeId}(h:w.heap[b]?=some (.cells #[a0,a1,a2,a3,a4] t (0,0))):w.cell? ⟨b,0,none⟩=some a0/\w.cell? ⟨b,1,none⟩=some a1/\w.cell? ⟨b,2,none⟩=some a2/\w.cell? ⟨b,3,none⟩=some a3/\w.cell? ⟨b,4,none⟩=some a4/\b<w.heap.size:=
 ⟨A7 h 0 _ rfl,A7 h 1 _ rfl,A7 h 2 _ rfl,A7 h 3 _ rfl,A7 h 4 _ rfl,A6 h⟩
theorem Xz(h:C.Ms D X β w m)(u p:PV)(i:Af)(hv:Bs m.arr.length u){n:Nat}(hs:Fh m u=.tuple #[.int .i64 (n:Nat),.bool true])(hk:p.k=2)(h0:0<=p.n)(h1:p.n<(n:Nat)):Calls Tryz.prog 211 #[.pointer (some ⟨C.mb,0,none⟩),B3 β u,B3 β p,Ag i] w fun e w'=>e=.returned (.bool true)/\Below w.heap.size w w':=by
 obtain⟨W,hW,z0,z1,z2,hbW,hsW⟩:=Sm w (.cells #[.int .i64 (u.k:Nat),.bool u.y,.int .i64 u.n,.string ⟨u.t.toArray⟩,.pointer (B5 β u)] 225) (.cells #[.int .i64 (p.k:Nat),.bool p.y,.int .i64 p.n,.string ⟨p.t.toArray⟩,.pointer (B5 β p)] 225) (.cells #[.int .i64 (i.op:Nat),.int .i64 i.arg,.int .i64 (i.line:Nat),.int .i64 (i.v.k:Nat),.bool i.v.y,.int .i64 i.v.n,.string ⟨i.v.t.toArray⟩,.pointer none] 251);have lb:=h.At;have HSz:=A0 (Pd (h.below hbW).1 u hv);rw[show Fh m u=_ from hs]at HSz;have HS:=A0 (fun(V:World) (hb:Below W.heap.size W V)=>(h.below (hbW.trans (hb.mono hbW.size))));have t0:(((p.k:Nat):Int) !=2)=false:=by rw[hk];rfl
 have t1:¬p.n<0:=by omega
 have t2:¬((n:Nat):Int)<=p.n:=by omega
 clear hk;clear hv hs h;have HW:=A0 hW;have HbW:=A0 hbW;unfold B3 Ag at *;clear hW hbW;go_enter Tryz.func211,Tryz.ntmps211;go_wp2_with fail
 rw[←HW.o];obtain⟨y0,y1,y2,y3,y4,_⟩:=Jb z0;go_wp2_with fail
 refine HSz.o.mono ?_;rintro e w1 ⟨rfl,A1⟩;have q1:=(A1.block _ z4sa).trans z1;have q2:=(A1.block _ z4sa).trans z2;have ls1:=A1.size;obtain⟨s1,s2⟩:=HS.o w1 A1;have Bk:=s1.At;obtain⟨p0,p1,p2,p3,p4,lp⟩:=Jb q1;obtain⟨n0,n1,n2,n3,n4,n5,n6,n7,ln⟩:=Bj q2;have A8:=A0 s1;have A4:=A0 s2;have HBl:Hid (Below w.heap.size w w1):=HbW.o.trans (A1.mono HbW.o.size);clear y0 y1 y2 y3 y4 A1 s1 s2 q1 q2 z0 z1 z2 HSz HS;go_wp2;go_ret;exact⟨rfl,HBl.o⟩
theorem z0ha {P:Prop} (h:P:=by
  clear hv hs h;have HW:=A0 hW;have HbW:=A0 hbW;unfold B3 Ag at *;clear hW hbW;go_enter Tryz.func211,Tryz.ntmps211;go_wp2_with fail
  rw[←HW.o];obtain⟨y0,y1,y2,y3,y4,_⟩:=Jb z0;go_wp2_with fail
  refine HSz.o.mono ?_;rintro e w1 ⟨rfl,A1⟩;have q1:=(A1.block _ z4sa).trans z1;have q2:=(A1.block _ z4sa).trans z2;have ls1:=A1.size;obtain⟨s1,s2⟩:=HS.o w1 A1;have Bk:=s1.At;obtain⟨p0,p1,p2,p3,p4,lp⟩:=Jb q1;obtain⟨n0,n1,n2,n3,n4,n5,n6,n7,ln⟩:=Bj q2;have A8:=A0 s1;have A4:=A0 s2;clear y0 y1 y2 y3 y4 A1 s1 s2 q1 q2 z0 z1 z2 HSz HS;have HF:=A0 (fun(V:World) (hb:Below w1.heap.size w1 V)=>And.intro (I6 (A8.o.below hb).1 5 i) (A4.o.trans (A8.o.below hb).2));unfold Ag at HF;go_wp2_with fail
  refine((HF.o _ z4xa).1).mono ?_;rintro e w2 ⟨rfl,h2,k2⟩;have Ah:=A0 h2;have Aa:Hid (A2 (dx D X) w w2):=(HF.o _ z4xa).2.trans k2;clear h2 k2;go_wp2;go_ret;exact⟨rfl,Ah.o,Aa.o⟩):P:=h
theorem A1z(h:C.Ms D X β w m)(u p:PV)(i:Af)(hv:Bs m.arr.length u){n:Nat}(hs:Fh m u=.tuple #[.int .i64 (n:Nat),.bool true])(hk:p.k≠2):Calls Tryz.prog 211 #[.pointer (some ⟨C.mb,0,none⟩),B3 β u,B3 β p,Ag i] w (MP C D X β w (m.fail 5 i) (.bool false)):=by
 obtain⟨W,hW,z0,z1,z2,hbW,hsW⟩:=Sm w (.cells #[.int .i64 (u.k:Nat),.bool u.y,.int .i64 u.n,.string ⟨u.t.toArray⟩,.pointer (B5 β u)] 225) (.cells #[.int .i64 (p.k:Nat),.bool p.y,.int .i64 p.n,.string ⟨p.t.toArray⟩,.pointer (B5 β p)] 225) (.cells #[.int .i64 (i.op:Nat),.int .i64 i.arg,.int .i64 (i.line:Nat),.int .i64 (i.v.k:Nat),.bool i.v.y,.int .i64 i.v.n,.string ⟨i.v.t.toArray⟩,.pointer none] 251);have lb:=h.At;have HSz:=A0 (Pd (h.below hbW).1 u hv);rw[show Fh m u=_ from hs]at HSz;have HS:=A0 (fun(V:World) (hb:Below W.heap.size W V)=>(h.below (hbW.trans (hb.mono hbW.size))));have t0:(((p.k:Nat):Int) !=2)=true:=by rw[bne_iff_ne];omega
 clear hk;exact z0ha
theorem A1y(h:C.Ms D X β w m)(u p:PV)(i:Af)(hv:Bs m.arr.length u)(hs:Fh m u=.tuple #[.int .i64 0,.bool false]):Calls Tryz.prog 211 #[.pointer (some ⟨C.mb,0,none⟩),B3 β u,B3 β p,Ag i] w (MP C D X β w (m.fail 5 i) (.bool false)):=by
 obtain⟨W,hW,z0,z1,z2,hbW,hsW⟩:=Sm w (.cells #[.int .i64 (u.k:Nat),.bool u.y,.int .i64 u.n,.string ⟨u.t.toArray⟩,.pointer (B5 β u)] 225) (.cells #[.int .i64 (p.k:Nat),.bool p.y,.int .i64 p.n,.string ⟨p.t.toArray⟩,.pointer (B5 β p)] 225) (.cells #[.int .i64 (i.op:Nat),.int .i64 i.arg,.int .i64 (i.line:Nat),.int .i64 (i.v.k:Nat),.bool i.v.y,.int .i64 i.v.n,.string ⟨i.v.t.toArray⟩,.pointer none] 251);have lb:=h.At;have HSz:=A0 (Pd (h.below hbW).1 u hv);rw[show Fh m u=_ from hs]at HSz;have HS:=A0 (fun(V:World) (hb:Below W.heap.size W V)=>(h.below (hbW.trans (hb.mono hbW.size))));exact z0ha
theorem z07a {P:Prop} (h:P:=by
  obtain⟨W,hW,z0,z1,z2,hbW,hsW⟩:=Sm w (.cells #[.int .i64 (u.k:Nat),.bool u.y,.int .i64 u.n,.string ⟨u.t.toArray⟩,.pointer (B5 β u)] 225) (.cells #[.int .i64 (p.k:Nat),.bool p.y,.int .i64 p.n,.string ⟨p.t.toArray⟩,.pointer (B5 β p)] 225) (.cells #[.int .i64 (i.op:Nat),.int .i64 i.arg,.int .i64 (i.line:Nat),.int .i64 (i.v.k:Nat),.bool i.v.y,.int .i64 i.v.n,.string ⟨i.v.t.toArray⟩,.pointer none] 251);have lb:=h.At;have HSz:=A0 (Pd (h.below hbW).1 u hv);rw[show Fh m u=_ from hs]at HSz;have HS:=A0 (fun(V:World) (hb:Below W.heap.size W V)=>(h.below (hbW.trans (hb.mono hbW.size))));have t0:(((p.k:Nat):Int) !=2)=false:=by rw[hk];rfl
  clear hk;clear hv hs h;have HW:=A0 hW;have HbW:=A0 hbW;unfold B3 Ag at *;clear hW hbW;go_enter Tryz.func211,Tryz.ntmps211;go_wp2_with fail
  rw[←HW.o];obtain⟨y0,y1,y2,y3,y4,_⟩:=Jb z0;go_wp2_with fail
  refine HSz.o.mono ?_;rintro e w1 ⟨rfl,A1⟩;have q1:=(A1.block _ z4sa).trans z1;have q2:=(A1.block _ z4sa).trans z2;have ls1:=A1.size;obtain⟨s1,s2⟩:=HS.o w1 A1;have Bk:=s1.At;obtain⟨p0,p1,p2,p3,p4,lp⟩:=Jb q1;obtain⟨n0,n1,n2,n3,n4,n5,n6,n7,ln⟩:=Bj q2;have A8:=A0 s1;have A4:=A0 s2;clear y0 y1 y2 y3 y4 A1 s1 s2 q1 q2 z0 z1 z2 HSz HS;have HF:=A0 (fun(V:World) (hb:Below w1.heap.size w1 V)=>And.intro (I6 (A8.o.below hb).1 7 i) (A4.o.trans (A8.o.below hb).2));unfold Ag at HF;go_wp2_with fail
  refine((HF.o _ z4xa).1).mono ?_;rintro e w2 ⟨rfl,h2,k2⟩;have Ah:=A0 h2;have Aa:Hid (A2 (dx D X) w w2):=(HF.o _ z4xa).2.trans k2;clear h2 k2;go_wp2;go_ret;exact⟨rfl,Ah.o,Aa.o⟩):P:=h
theorem A1x(h:C.Ms D X β w m)(u p:PV)(i:Af)(hv:Bs m.arr.length u){n:Nat}(hs:Fh m u=.tuple #[.int .i64 (n:Nat),.bool true])(hk:p.k=2)(h1:p.n<0):Calls Tryz.prog 211 #[.pointer (some ⟨C.mb,0,none⟩),B3 β u,B3 β p,Ag i] w (MP C D X β w (m.fail 7 i) (.bool false)):=by
 exact z07a
theorem A1w(h:C.Ms D X β w m)(u p:PV)(i:Af)(hv:Bs m.arr.length u){n:Nat}(hs:Fh m u=.tuple #[.int .i64 (n:Nat),.bool true])(hk:p.k=2)(h0:¬p.n<0)(h1:((n:Nat):Int)<=p.n):Calls Tryz.prog 211 #[.pointer (some ⟨C.mb,0,none⟩),B3 β u,B3 β p,Ag i] w (MP C D X β w (m.fail 7 i) (.bool false)):=by
 exact z07a
theorem T3(h:C.Ms D X β w m)(i:Af){m':MS}(hp:∀W,C.Ms D (Cu X w) β W m.pop.pop->Calls Tryz.prog 211 #[.pointer (some ⟨C.mb,0,none⟩),B3 β m.pop.top,B3 β m.top,Ag i] W (MP C D (Cu X w) β W m' (.bool false))):Calls Tryz.prog 164 #[.pointer (some ⟨C.mb,0,none⟩),Ag i] w (MP C D X β w m' (.tuple #[])):=by
 obtain⟨w0,Ap,Aq,Ae,Ao,As,n0,n1,n2,n3,n4,n5,n6,n7,ln,lb,C9⟩:=h.Ca i;clear h;have HT:=A0 (Fe Aq.o);have HH:=A0 hp;clear hp;generalize m.pop.top=u at *;generalize m.top=p at *;unfold Ag;unfold Ag at HH;go_enter Tryz.func164,Tryz.ntmps164;go_wp2_with fail
 rw[←Ap.o];refine HT.o.mono ?_;rintro e w1 ⟨rfl,h1,k1⟩;unfold B3 at HH ⊢;have Bk:=h1.At;have A8:=A0 h1;have A4:Hid (A2 (dx D X) w w1):=Ae.o.trans (Ac k1);have Ad:=(k1.block _ Ao.o).trans As.o;clear n0 n1 n2 n3 n4 n5 n6 n7 ln;obtain⟨n0,n1,n2,n3,n4,n5,n6,n7,ln⟩:=Bj Ad;have C1:=A0 Ad;clear h1 k1 Ad HT;have HH2:=A0 (fun(W:World) (hb:Below w1.heap.size w1 W)=>And.intro (HH.o W (A8.o.below hb).1) (A4.o.trans (Ac (A8.o.below hb).2)));clear HH;go_wp2_with fail
 refine((HH2.o _ z4xa).1).mono ?_;rintro e w2 ⟨rfl,h2,k2⟩;have Ah:=A0 h2.back;have Aa:Hid (A2 (dx D X) w w2):=(HH2.o _ z4xa).2.trans (Ac k2);clear h2 k2;go_wp2;refine bodyPost_ret (v:=.tuple #[]) (by simp[results,Tryz.results164,go_sem]) rfl ?_;exact z4aa
theorem Zi(w:World)(a b:Obj):∃W,W=(w.alloc a).alloc b/\W.heap[w.heap.size]?=some a/\W.heap[w.heap.size+1]?=some b/\Below w.heap.size w W/\W.heap.size=w.heap.size+2:=by
 have z0:=alloc_old (o':=b) (heap_alloc_new w a);have z1:=heap_alloc_new (w.alloc a) b;have hs:∀(v:World) (o:Obj),(v.alloc o).heap.size=v.heap.size+1:=fun v o=>by simp
 simp only[hs]at z0 z1;exact⟨_,rfl,z0,z1,Below.alloc (Below.alloc (Below.refl _ _) (Nat.le_refl _) _) z4wa _,by simp⟩
theorem z25a {P:Prop} (h:P:=by
  unfold Fh sizeOf';rw[if_neg z4sa,if_pos Gs,hr];show Value.tuple #[.int .i64 (((some (((m.arr)[r]?).getD []).length).getD 0:Nat):Int),.bool true]=_;rw[List.getElem?_eq_getElem hra];rfl):P:=h
theorem A76(h:C.Ms D X β w m)(i:Af){r k:Nat}(hr:m.pop.top.r=some r)(hra:r<m.arr.length)(Gs:m.pop.top.k=4)(C7:m.top.k=2)(hkn:m.top.n=(k:Nat))(hki:k<m.arr[r].length)(hn:m.vals.length<=90000000000)(hvv:Bs m.arr.length m.arr[r][k]):Calls Tryz.prog 164 #[.pointer (some ⟨C.mb,0,none⟩),Ag i] w (MP C D X β w (m.pop.pop.push m.arr[r][k]) (.tuple #[])):=by
 obtain⟨w0,Ap,Aq,Ae,Ao,As,n0,n1,n2,n3,n4,n5,n6,n7,ln,lb,C9⟩:=h.Ca i;clear h;have HT:=A0 (Fe Aq.o);have hs:Fh m.pop.pop m.pop.top=.tuple #[.int .i64 (m.arr[r].length:Nat),.bool true]:=by
  exact z25a
 have hvu:Bs m.arr.length m.pop.top:=by unfold Bs;rw[hr];exact⟨Gs,hra⟩
 have HH:=A0 (fun(W:World) (hs':C.Ms D (Cu X w) β W m.pop.pop)=>Xz hs' m.pop.top m.top i hvu hs C7 z4sa z4sa);have HA:Hid (∀W:World,C.Ms D (Cu X w) β W m.pop.pop->∃a c,W.cell? ⟨β r,0,none⟩=some (.slice a m.arr[r].length c)/\β r<W.heap.size/\W.ownsRow 0 225 5 (.slice a m.arr[r].length c) m.arr[r].length (C5 (By β) m.arr[r])):=fun W hs'=>hs'.Vr hra;have hl:m.pop.pop.vals.length+1<=90000000000:=by simp only[MS.pop,List.length_dropLast];omega
 have HP:=A0 (fun(W:World) (hs':C.Ms D (Cu X w) β W m.pop.pop)=>hs'.push m.arr[r][k] hvv hl);have er:B5 β m.pop.top=some ⟨β r,0,none⟩:=by unfold B5;rw[hr]
 have t3:(((m.pop.top.k:Nat):Int)==3)=false:=by rw[Gs];rfl
 clear hr Gs C7 hs hvu hl hvv hn;generalize hx:m.arr[r][k]=x at *;generalize hL:m.arr[r]=L at *;have HX:=A0 hx;clear hx hL;generalize m.pop.top=u at *;generalize m.top=p at *;unfold Ag;unfold Ag at HH;unfold B3 at HH HP HT;rw[er]at HH HT;have t1:(0:Int)<=(k:Int):=by omega
 have t2:(k:Int)<(L.length:Int):=by omega
 rw[hkn]at HH HT;clear hkn er;go_enter Tryz.func164,Tryz.ntmps164;go_wp2_with fail
 rw[←Ap.o];refine HT.o.mono ?_;rintro e w1 ⟨rfl,h1,k1⟩;have Bk:=h1.At;have A8:=A0 h1;have A4:Hid (A2 (dx D X) w w1):=Ae.o.trans (Ac k1);have Ad:=(k1.block _ Ao.o).trans As.o;clear n0 n1 n2 n3 n4 n5 n6 n7 ln;obtain⟨n0,n1,n2,n3,n4,n5,n6,n7,ln⟩:=Bj Ad;obtain⟨W,hW,z0,z1,hbW,hsW⟩:=Zi w1 (.cells #[.int .i64 (u.k:Nat),.bool u.y,.int .i64 u.n,.string ⟨u.t.toArray⟩,.pointer (some ⟨β r,0,none⟩)] 225) (.cells #[.int .i64 (p.k:Nat),.bool p.y,.int .i64 (k:Nat),.string ⟨p.t.toArray⟩,.pointer (B5 β p)] 225);have HW:=A0 hW;have HH2:=A0 (HH.o W (A8.o.below hbW).1);have HBe:=A0 (fun(V:World) (hb:Below W.heap.size W V)=>A8.o.below (hbW.trans (hb.mono hbW.size)));clear hW hbW HH h1 k1 Ad HT;go_wp2_with fail
 rw[←HW.o];refine HH2.o.mono ?_;rintro e w2 ⟨rfl,A9⟩;have q0:=(A9.block _ z4sa).trans z0;have q1:=(A9.block _ z4sa).trans z1;obtain⟨s1,s2⟩:=HBe.o w2 A9;obtain⟨a,c,c0,lr,ho⟩:=HA.o w2 s1;obtain⟨g,ea,_,hcp,lg,hcell⟩:=Hg ho z4sa;subst ea;have hat:∀j v,(By β x)[j]?=some v->j<5->w2.cell? ⟨g,k*5+j,none⟩=some v:=fun j v hv hj=>hcell (k*5+j) v ((G5 (f:=By β) (sz:=5) (fun _=>rfl) L k j hki hj).trans (by rw[HX.o];exact hv));have e0:=hat 0 _ rfl z4sa;have e1:=hat 1 _ rfl z4sa;have e2:=hat 2 _ rfl z4sa;have e3:=hat 3 _ rfl z4sa;have e4:=hat 4 _ rfl z4sa;rw[Nat.add_zero]at e0;obtain⟨u0,u1,u2,u3,u4,lu⟩:=Jb q0;obtain⟨p0,p1,p2,p3,p4,lp⟩:=Jb q1;have Eb:=s1.At;have B4:=A0 (HP.o _ s1.Hy);have Aa:Hid (A2 (dx D X) w w2):=A4.o.trans (Ac s2);clear A9 q0 q1 s1 s2 ho hcell hat z0 z1 HP HA HBe HH2 HX;go_wp2;refine Jr 12 z4va z4va ?_;simp only[List.take_succ_cons,List.take_zero,List.drop_succ_cons,List.drop_zero];iterate 12 (refine F4 (fun K' hK'=>?_);go_simp;refine hK' _ ?_;clear hK' K')
 refine Jq ?_;go_wp2_with fail
 refine(B4.o).mono ?_;rintro e w3 ⟨rfl,h3,k3⟩;have Be:=A0 h3.back;have Ay:Hid (A2 (dx D X) w w3):=Aa.o.trans ((Dk _ w2 1).trans (Ac k3));clear h3 k3;go_wp2;go_end0;exact z4qa
end
section
open Go.RowKit
open Go.Deep (BT)
variable {C:MC} {D X:Nat->Prop} {w w':World} {m:MS} {ρ β:Nat->Nat} {s:O2} {x:Eo} {fv:List Eo} {ab:List AB} {lp:List (Option Addr×Fs)}
theorem MC.Mv.A3k(h:C.Mv D X w m ρ β s x fv ab lp){r:Nat}(hr:r<m.arr.length)(ho:w'.os=w.os)(ht:w'.tape=w.tape)(hu:w'.output=w.output)(hz:w.heap.size<=w'.heap.size)(hk:∀g,g<w.heap.size->ρ g≠7+2*r->ρ g≠8+2*r->w'.heap[g]?=w.heap[g]?){nb:AB}{l:List PV}
  (hh:w'.heap[β r]?=some (.cells #[Kx nb] 356 (0,0))) (hrow:w'.ownsRow 0 225 5 (Kx nb) l.length (C5 (By β) l)) (hro:∀g,(Kx nb).ownBlock=some g->(Kx (ab[r]'(by rw[h.arr.len];exact hr))).ownBlock=some g\/w.heap.size<=g) (hvv:∀v∈l,Bs m.arr.length v) :
  C.Mv D X w' { m with arr:=m.arr.set r l } (Et ρ w.heap.size (8+2*r)) β s x fv (ab.set r nb) lp/\A2 (dx D X) w w':=by
 have hl:=h.arr.len;have hrb:r<ab.length:=by omega
 have hlow:∀g,g<w.heap.size->ρ g<=6->w'.heap[g]?=w.heap[g]?:=fun g hg h6=>hk g hg z4sa z4sa;have hbd:A2 (dx D X) w w':=⟨ho,ht,hu,hz,fun g hg=>hlow g (h.prot g hg).1 (by rw[(h.prot g hg).2];omega)⟩;have hkD:∀g,D g->g<w.heap.size->w'.heap[g]?=w.heap[g]?/\D g:=fun g hg _=>⟨hbd.block g (.inl hg),hg⟩;have hmb:w'.heap[C.mb]?=w.heap[C.mb]?:=hlow _ h.lo.1 z5fa;have hlen:(m.arr.set r l).length=m.arr.length:=by simp
 have up:∀g,g<w.heap.size->Et ρ w.heap.size (8+2*r) g=ρ g:=fun g hg=>Bb hg;refine⟨⟨hmb.trans h.cell,h.prog.keep hkD,B2 h.lots (fun g hg hl'=>hlow g hl' z56a),fun g hg=>by rw[up g (Bg h.lots g hg)];exact h.loto g hg,h.lotm,fun q hq=>(h.forms q hq).keep hkD,
  B2 h.gl (fun g hg hl'=>hlow g hl' z58a),fun g hg=>by rw[up g (Bg h.gl g hg)];exact h.glo g hg,
  B2 h.vals (fun g hg hl'=>hlow g hl' z54a),fun g hg=>by rw[up g (Bg h.vals g hg)];exact h.valo g hg,
  B2 h.calls (fun g hg hl'=>hlow g hl' z53a),fun g hg=>by rw[up g (Bg h.calls g hg)];exact h.callo g hg,h.frs.keep hkD,h.now.keep hkD,
  B2 h.out (fun g hg hl'=>hlow g hl' z55a),fun g hg=>by rw[up g (Bg h.out g hg)];exact h.outo g hg,⟨by simp[hl],fun i hi hi'=>?_⟩,
  fun g hg=>⟨Nat.lt_of_lt_of_le (h.prot g hg).1 hz,by rw[up g (h.prot g hg).1];exact(h.prot g hg).2⟩,⟨by rw[up _ h.lo.1];exact h.one.1,fun g hg=>?_⟩,h.Bz,?_⟩,hbd⟩
 ·have Ad:i<ab.length:=by simpa using hi
  have Bl:i<m.arr.length:=by simpa using hi'
  obtain⟨a1,a2,a3,a4⟩:=h.arr.at' i Ad Bl;by_cases e:i=r
  ·subst e;have e1:(ab.set i nb)[i]'hi=nb:=by simp
   have e2:(m.arr.set i l)[i]'hi'=l:=by simp
   rw[e1,e2];refine⟨hh,hrow,by rw[up _ (A6 a1)];exact a3,fun g hg=>?_⟩;rcases hro g hg with q|q
   ·rw[up g (Bg a2 g q)];exact a4 g q
   ·exact Ho q
  ·have e1:(ab.set r nb)[i]'hi=ab[i]:=by rw[List.getElem_set_ne (fun q=>e q.symm)]
   have e2:(m.arr.set r l)[i]'hi'=m.arr[i]:=by rw[List.getElem_set_ne (fun q=>e q.symm)]
   rw[e1,e2];refine⟨(hk _ (A6 a1) (by rw[a3];omega) (by rw[a3];omega)).trans a1,B2 a2 (fun g hg hl'=>hk g hl' (by rw[a4 g hg];omega) (by rw[a4 g hg];omega)),by rw[up _ (A6 a1)];exact a3,fun g hg=>by rw[up g (Bg a2 g hg)];exact a4 g hg⟩
 ·by_cases hlt:g<w.heap.size
  ·rw[up g hlt]at hg;exact h.one.2 g hg
  ·rw[Ho z4sa]at hg;omega
 ·rw[hlen];refine⟨h.vv.1,h.vv.2.1,fun l' hl' v hv=>?_⟩;rcases List.mem_or_eq_of_mem_set hl' with q|q
  ·exact h.vv.2.2 l' q v hv
  ·rw[q]at hv;exact hvv v hv
end
section
open Go.RowKit
open Go.Deep (BT)
variable {C:MC} {D X:Nat->Prop} {w w':World} {m:MS} {β:Nat->Nat}
theorem MC.Ms.A7t(h:C.Ms D X β w m){r:Nat}(hr:r<m.arr.length){a:Option Addr}{c:Nat}(hc:w.cell? ⟨β r,0,none⟩=some (.slice a m.arr[r].length c)){w1:World}{g cap:Nat}(v:PV)(hv:Bs m.arr.length v)(ho:w1.ownsRow 0 225 5 (.slice (some ⟨g,0,none⟩) (m.arr[r].length+1) cap) (m.arr[r].length+1) (C5 (By β) m.arr[r]++By β v))(hg:w.grownBy w1 (Value.slice a m.arr[r].length c).ownBlock)(hat:(Value.slice a m.arr[r].length c).ownBlock=some g\/w.heap.size<=g) :
  C.Ms D X β (w1.setCell ⟨β r,0,none⟩ (.slice (some ⟨g,0,none⟩) (m.arr[r].length+1) cap)) { m with arr:=m.arr.set r (m.arr[r]++[v]) }/\A2 (dx D X) w (w1.setCell ⟨β r,0,none⟩ (.slice (some ⟨g,0,none⟩) (m.arr[r].length+1) cap)):=by
 obtain⟨ρ,s,x,fv,ab,lp,h⟩:=h;have hl:=h.arr.len;obtain⟨a1,a2,a3,a4⟩:=h.arr.at' r z4sa hr;have c0:=(A7 a1 0 _ rfl).symm.trans hc;have c1:Kx (ab[r]'z4sa)=.slice a m.arr[r].length c:=by injection c0
 have lr:=A6 a1;have hrow:∀q,(Value.slice a m.arr[r].length c).ownBlock=some q->ρ q=8+2*r:=fun q hq=>a4 q (by rw[c1];exact hq);have hnb:(Value.slice a m.arr[r].length c).ownBlock≠some (β r):=fun e=>by have:=hrow _ e;rw[a3]at this;omega
 have b1:=(hg.block (β r) lr (fun e=>hnb e.symm)).trans a1;have hgr:g≠β r:=by
  rcases hat with e|e
  ·exact fun q=>hnb (by rw[←q];exact e)
  ·omega
 have hq:=h.A3k (w':=w1.setCell ⟨β r,0,none⟩ (.slice (some ⟨g,0,none⟩) (m.arr[r].length+1) cap)) hr (by exact hg.os) (by exact hg.tape) (by exact hg.output) (by have:=hg.size;simp[World.setCell];omega) (fun q hq h7 h8=>(Below.heap_setCell _ _ _ _ (show q≠β r from fun e=>h7 (by rw[e];exact a3))).trans (hg.block q hq (fun e=>h8 (hrow q e.symm)))) (nb:=(some ⟨g,0,none⟩,m.arr[r].length+1,cap)) (l:=m.arr[r]++[v])
  (by rw[heap_set (j:=0) b1];rfl) (by
   have e:C5 (By β) (m.arr[r]++[v])=C5 (By β) m.arr[r]++By β v:=by rw[Sa];simp[C5]
   rw[e,List.length_append];exact B2 ho (fun k hk _=>Below.heap_setCell _ _ _ _ (show k≠β r from fun q=>hgr (by have:some g=some k:=hk;injection this with this;rw[this,q]))))
  (fun q hq=>by
   have e:g=q:=by have:some g=some q:=hq;injection this
   rw[c1,←e];exact hat) (fun u hu=>by
   rcases List.mem_append.1 hu with q|q
   ·exact h.vv.2.2 _ (List.getElem_mem hr) u q
   ·rw[List.mem_singleton.1 q];exact hv)
 exact⟨⟨_,s,x,fv,_,lp,hq.1⟩,hq.2⟩
end
end Go.Proofs.YtjdlndhfaaolaaaGreatDoor
