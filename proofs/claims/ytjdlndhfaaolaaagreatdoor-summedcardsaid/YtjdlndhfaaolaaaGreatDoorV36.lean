import Derived.Test.YtjdlndhfaaolaaaGreatDoorV34
set_option maxHeartbeats 20000000
namespace Go.Proofs.YtjdlndhfaaolaaaGreatDoor
section
set_option maxRecDepth 100000
open Go.RowKit
open Go.Deep (BT)
variable {C:MC} {D X:Nat->Prop} {w w':World} {m:MS} {β:Nat->Nat}
theorem z64a {P:Prop} (h:P:=by simp[results,Tryz.results216,go_sem]):P:=h
theorem A72(h:C.Ms D X β w m)(i:Ac)(ho:i.op=20)(hz:m.top.n=0):Calls Tryz.prog 216 #[.pointer (some ⟨C.mb,0,none⟩),Ab i] w (MP C D X β w (m.pop.pop.fail 6 i) (.tuple #[])):=by
 obtain⟨w0,Am,Ap,Af,Al,Aq,n0,n1,n2,n3,n4,n5,n6,n7,ln,lb,Bz⟩:=h.C1 i;clear h;have t19:((i.op:Int)==19)=false:=by rw[ho];rfl
 have t20:((i.op:Int)==20)=true:=by rw[ho];rfl
 have tz:(m.top.n==0)=true:=by rw[hz];rfl
 have HT:=A0 (Eh Ap.o);clear ho hz;unfold Ab;go_enter Tryz.func216,Tryz.ntmps216;go_wp2_with fail
 rw[←Am.o];refine HT.o.mono ?_;rintro e w1 ⟨rfl,h1,k1⟩;unfold Az;have Bj:=h1.Au;have A7:=A0 h1;have A4:Hid (A3 (dx D X) w w1):=Af.o.trans (Ae k1);have Ad:=(k1.block _ Al.o).trans Aq.o;have Bo:=A0 Ad;clear n0 n1 n2 n3 n4 n5 n6 n7 ln;obtain⟨n0,n1,n2,n3,n4,n5,n6,n7,ln⟩:=B1 Ad;clear h1 k1 Ad;have B2:=A0 (fun(W:World) (hb:Below w1.heap.size w1 W)=>And.intro ((fun hs=>Gw hs 6 i) (A7.o.below hb).1) (A4.o.trans (Ae (A7.o.below hb).2)));unfold Ab at B2;go_wp2_with fail
 refine((B2.o _ z4ua).1).mono ?_;rintro e w2 ⟨rfl,h2,k2⟩;have Ai:=A0 h2.back;have Aa:Hid (A3 (dx D X) w w2):=(B2.o _ z4ua).2.trans (Ae k2);clear h2 k2;go_wp2;refine bodyPost_ret (v:=.tuple #[]) z64a rfl ?_;exact z38a
theorem A71(h:C.Ms D X β w m)(i:Ac)(ho:i.op=20)(hz:m.top.n≠0)(hn:m.vals.length+1<=100000):Calls Tryz.prog 216 #[.pointer (some ⟨C.mb,0,none⟩),Ab i] w (MP C D X β w (m.pop.pop.push (ofInt (wr (m.pop.top.n.tdiv m.top.n)))) (.tuple #[])):=by
 obtain⟨w0,Am,Ap,Af,Al,Aq,n0,n1,n2,n3,n4,n5,n6,n7,ln,lb,Bz⟩:=h.C1 i;clear h;have t19:((i.op:Int)==19)=false:=by rw[ho];rfl
 have t20:((i.op:Int)==20)=true:=by rw[ho];rfl
 have tz:(m.top.n==0)=false:=by rw[beq_eq_false_iff_ne];exact hz
 have HT:=A0 (Eh Ap.o);clear ho;unfold Ab;go_enter Tryz.func216,Tryz.ntmps216;go_wp2_with fail
 rw[←Am.o];refine HT.o.mono ?_;rintro e w1 ⟨rfl,h1,k1⟩;unfold Az;have Bj:=h1.Au;have A7:=A0 h1;have A4:Hid (A3 (dx D X) w w1):=Af.o.trans (Ae k1);have Ad:=(k1.block _ Al.o).trans Aq.o;have Bo:=A0 Ad;clear n0 n1 n2 n3 n4 n5 n6 n7 ln;obtain⟨n0,n1,n2,n3,n4,n5,n6,n7,ln⟩:=B1 Ad;clear h1 k1 Ad;have B2:=A0 (fun(W:World) (hb:Below w1.heap.size w1 W)=>And.intro ((fun hs=>M7 hs (wr (m.pop.top.n.tdiv m.top.n)) z52a) (A7.o.below hb).1) (A4.o.trans (Ae (A7.o.below hb).2)));unfold Ab at B2;exact z01a
theorem z32a {P:Prop} (h:P:=by
  (try unfold Ab at Bi);go_wp2_with fail
  refine((Bi.o _ z4ua).1).mono ?_;rintro e w3 ⟨rfl,h3,k3⟩;have Bc:=A0 h3.back;have Av:Hid (A3 (dx D X) w w3):=(Bi.o _ z4ua).2.trans (Ae k3);clear h3 k3;go_wp2;go_end0;exact⟨rfl,Bc.o,Av.o⟩):P:=h
theorem A70(h:C.Ms D X β w m)(i:Ac)(ho:i.op=19)(hn:m.vals.length+1<=100000):Calls Tryz.prog 216 #[.pointer (some ⟨C.mb,0,none⟩),Ab i] w (MP C D X β w (m.ints i (fun a b m'=>if b=0 then m'.fail 6 i else m'.push (ofInt (wr (a.tdiv b))))) (.tuple #[])):=by
 obtain⟨w0,Am,Ap,Af,Al,Aq,n0,n1,n2,n3,n4,n5,n6,n7,ln,lb,Bz⟩:=h.C1 i;clear h;have t0:((i.op:Int)==19)=true:=by rw[ho];rfl
 unfold MS.ints;clear ho;cases hb:m.both 2
 ·rw[if_neg z50a];have HA:=A0 (Sm Ap.o i hb);unfold Ab at HA;clear hb;unfold Ab;go_enter Tryz.func216,Tryz.ntmps216;go_wp2_with fail
  rw[←Am.o];refine HA.o.mono ?_;rintro e w1 ⟨rfl,h1,k1⟩;have A7:=A0 h1.back;have A4:Hid (A3 (dx D X) w w1):=Af.o.trans (Ae k1);clear h1 k1;go_wp2;refine bodyPost_ret (v:=.tuple #[]) z64a rfl ?_;exact z3ja
 ·rw[if_pos rfl];have HA:=A0 (Sn Ap.o i hb);unfold Ab at HA;clear hb;unfold MS.two;dsimp only;by_cases hz:m.top.n=0
  ·rw[if_pos hz];have tz:(m.top.n==0)=true:=by rw[hz];rfl
   clear hz;unfold Ab;go_enter Tryz.func216,Tryz.ntmps216;go_wp2_with fail
   rw[←Am.o];refine HA.o.mono ?_;rintro e w1 ⟨rfl,h1,k1⟩;have Bj:=h1.Au;have A7:=A0 h1;have A4:Hid (A3 (dx D X) w w1):=Af.o.trans (Ae k1);have Ad:=(k1.block _ Al.o).trans Aq.o;have Bo:=A0 Ad;clear n0 n1 n2 n3 n4 n5 n6 n7 ln;obtain⟨n0,n1,n2,n3,n4,n5,n6,n7,ln⟩:=B1 Ad;clear h1 k1 Ad;have HT:=A0 (Eh A7.o);go_wp2_with fail
   refine HT.o.mono ?_;rintro e w2 ⟨rfl,h2,k2⟩;unfold Az;have E2:=h2.Au;have Ai:=A0 h2;have Aa:Hid (A3 (dx D X) w w2):=A4.o.trans (Ae k2);have Aw:=(k2.block _ Al.o).trans Bo.o;have Ee:=A0 Aw;clear n0 n1 n2 n3 n4 n5 n6 n7 ln;obtain⟨n0,n1,n2,n3,n4,n5,n6,n7,ln⟩:=B1 Aw;clear h2 k2 Aw;have Bi:=A0 (fun(W:World) (hb:Below w2.heap.size w2 W)=>And.intro ((fun hs=>Gw hs 6 i) (Ai.o.below hb).1) (Aa.o.trans (Ae (Ai.o.below hb).2)));unfold Ab at Bi;go_wp2_with fail
   refine((Bi.o _ z4ua).1).mono ?_;rintro e w3 ⟨rfl,h3,k3⟩;have Bc:=A0 h3.back;have Av:Hid (A3 (dx D X) w w3):=(Bi.o _ z4ua).2.trans (Ae k3);clear h3 k3;go_wp2;refine bodyPost_ret (v:=.tuple #[]) z64a rfl ?_;exact z4ra
  ·rw[if_neg hz];have tz:(m.top.n==0)=false:=by rw[beq_eq_false_iff_ne];exact hz
   unfold Ab;go_enter Tryz.func216,Tryz.ntmps216;go_wp2_with fail
   rw[←Am.o];refine HA.o.mono ?_;rintro e w1 ⟨rfl,h1,k1⟩;have Bj:=h1.Au;have A7:=A0 h1;have A4:Hid (A3 (dx D X) w w1):=Af.o.trans (Ae k1);have Ad:=(k1.block _ Al.o).trans Aq.o;have Bo:=A0 Ad;clear n0 n1 n2 n3 n4 n5 n6 n7 ln;obtain⟨n0,n1,n2,n3,n4,n5,n6,n7,ln⟩:=B1 Ad;clear h1 k1 Ad;have HT:=A0 (Eh A7.o);go_wp2_with fail
   refine HT.o.mono ?_;rintro e w2 ⟨rfl,h2,k2⟩;unfold Az;have E2:=h2.Au;have Ai:=A0 h2;have Aa:Hid (A3 (dx D X) w w2):=A4.o.trans (Ae k2);have Aw:=(k2.block _ Al.o).trans Bo.o;have Ee:=A0 Aw;clear n0 n1 n2 n3 n4 n5 n6 n7 ln;obtain⟨n0,n1,n2,n3,n4,n5,n6,n7,ln⟩:=B1 Aw;clear h2 k2 Aw;have Bi:=A0 (fun(W:World) (hb:Below w2.heap.size w2 W)=>And.intro ((fun hs=>M7 hs (wr (m.pop.top.n.tdiv m.top.n)) z52a) (Ai.o.below hb).1) (Aa.o.trans (Ae (Ai.o.below hb).2)));exact z32a
theorem z63a {P:Prop} (h:P:=by simp[results,Tryz.results217,go_sem]):P:=h
theorem A86(h:C.Ms D X β w m)(i:Ac)(ho:i.op=22)(hz:m.top.n=0):Calls Tryz.prog 217 #[.pointer (some ⟨C.mb,0,none⟩),Ab i] w (MP C D X β w (m.pop.pop.fail 6 i) (.tuple #[])):=by
 obtain⟨w0,Am,Ap,Af,Al,Aq,n0,n1,n2,n3,n4,n5,n6,n7,ln,lb,Bz⟩:=h.C1 i;clear h;have t21:((i.op:Int)==21)=false:=by rw[ho];rfl
 have t22:((i.op:Int)==22)=true:=by rw[ho];rfl
 have tz:(m.top.n==0)=true:=by rw[hz];rfl
 have HT:=A0 (Eh Ap.o);clear ho hz;unfold Ab;go_enter Tryz.func217,Tryz.ntmps217;go_wp2_with fail
 rw[←Am.o];refine HT.o.mono ?_;rintro e w1 ⟨rfl,h1,k1⟩;unfold Az;have Bj:=h1.Au;have A7:=A0 h1;have A4:Hid (A3 (dx D X) w w1):=Af.o.trans (Ae k1);have Ad:=(k1.block _ Al.o).trans Aq.o;have Bo:=A0 Ad;clear n0 n1 n2 n3 n4 n5 n6 n7 ln;obtain⟨n0,n1,n2,n3,n4,n5,n6,n7,ln⟩:=B1 Ad;clear h1 k1 Ad;have B2:=A0 (fun(W:World) (hb:Below w1.heap.size w1 W)=>And.intro ((fun hs=>Gw hs 6 i) (A7.o.below hb).1) (A4.o.trans (Ae (A7.o.below hb).2)));unfold Ab at B2;go_wp2_with fail
 refine((B2.o _ z4ua).1).mono ?_;rintro e w2 ⟨rfl,h2,k2⟩;have Ai:=A0 h2.back;have Aa:Hid (A3 (dx D X) w w2):=(B2.o _ z4ua).2.trans (Ae k2);clear h2 k2;go_wp2;refine bodyPost_ret (v:=.tuple #[]) z63a rfl ?_;exact z38a
theorem A85(h:C.Ms D X β w m)(i:Ac)(ho:i.op=22)(hz:m.top.n≠0)(hn:m.vals.length+1<=100000):Calls Tryz.prog 217 #[.pointer (some ⟨C.mb,0,none⟩),Ab i] w (MP C D X β w (m.pop.pop.push (ofInt ( (m.pop.top.n.tmod m.top.n)))) (.tuple #[])):=by
 obtain⟨w0,Am,Ap,Af,Al,Aq,n0,n1,n2,n3,n4,n5,n6,n7,ln,lb,Bz⟩:=h.C1 i;clear h;have t21:((i.op:Int)==21)=false:=by rw[ho];rfl
 have t22:((i.op:Int)==22)=true:=by rw[ho];rfl
 have tz:(m.top.n==0)=false:=by rw[beq_eq_false_iff_ne];exact hz
 have HT:=A0 (Eh Ap.o);clear ho;unfold Ab;go_enter Tryz.func217,Tryz.ntmps217;go_wp2_with fail
 rw[←Am.o];refine HT.o.mono ?_;rintro e w1 ⟨rfl,h1,k1⟩;unfold Az;have Bj:=h1.Au;have A7:=A0 h1;have A4:Hid (A3 (dx D X) w w1):=Af.o.trans (Ae k1);have Ad:=(k1.block _ Al.o).trans Aq.o;have Bo:=A0 Ad;clear n0 n1 n2 n3 n4 n5 n6 n7 ln;obtain⟨n0,n1,n2,n3,n4,n5,n6,n7,ln⟩:=B1 Ad;clear h1 k1 Ad;have B2:=A0 (fun(W:World) (hb:Below w1.heap.size w1 W)=>And.intro ((fun hs=>M7 hs ( (m.pop.top.n.tmod m.top.n)) z52a) (A7.o.below hb).1) (A4.o.trans (Ae (A7.o.below hb).2)));unfold Ab at B2;exact z01a
theorem A84(h:C.Ms D X β w m)(i:Ac)(ho:i.op=21)(hn:m.vals.length+1<=100000):Calls Tryz.prog 217 #[.pointer (some ⟨C.mb,0,none⟩),Ab i] w (MP C D X β w (m.ints i (fun a b m'=>if b=0 then m'.fail 6 i else m'.push (ofInt ( (a.tmod b))))) (.tuple #[])):=by
 obtain⟨w0,Am,Ap,Af,Al,Aq,n0,n1,n2,n3,n4,n5,n6,n7,ln,lb,Bz⟩:=h.C1 i;clear h;have t0:((i.op:Int)==21)=true:=by rw[ho];rfl
 unfold MS.ints;clear ho;cases hb:m.both 2
 ·rw[if_neg z50a];have HA:=A0 (Sm Ap.o i hb);unfold Ab at HA;clear hb;unfold Ab;go_enter Tryz.func217,Tryz.ntmps217;go_wp2_with fail
  rw[←Am.o];refine HA.o.mono ?_;rintro e w1 ⟨rfl,h1,k1⟩;have A7:=A0 h1.back;have A4:Hid (A3 (dx D X) w w1):=Af.o.trans (Ae k1);clear h1 k1;go_wp2;refine bodyPost_ret (v:=.tuple #[]) z63a rfl ?_;exact z3ja
 ·rw[if_pos rfl];have HA:=A0 (Sn Ap.o i hb);unfold Ab at HA;clear hb;unfold MS.two;dsimp only;by_cases hz:m.top.n=0
  ·rw[if_pos hz];have tz:(m.top.n==0)=true:=by rw[hz];rfl
   clear hz;unfold Ab;go_enter Tryz.func217,Tryz.ntmps217;go_wp2_with fail
   rw[←Am.o];refine HA.o.mono ?_;rintro e w1 ⟨rfl,h1,k1⟩;have Bj:=h1.Au;have A7:=A0 h1;have A4:Hid (A3 (dx D X) w w1):=Af.o.trans (Ae k1);have Ad:=(k1.block _ Al.o).trans Aq.o;have Bo:=A0 Ad;clear n0 n1 n2 n3 n4 n5 n6 n7 ln;obtain⟨n0,n1,n2,n3,n4,n5,n6,n7,ln⟩:=B1 Ad;clear h1 k1 Ad;have HT:=A0 (Eh A7.o);go_wp2_with fail
   refine HT.o.mono ?_;rintro e w2 ⟨rfl,h2,k2⟩;unfold Az;have E2:=h2.Au;have Ai:=A0 h2;have Aa:Hid (A3 (dx D X) w w2):=A4.o.trans (Ae k2);have Aw:=(k2.block _ Al.o).trans Bo.o;have Ee:=A0 Aw;clear n0 n1 n2 n3 n4 n5 n6 n7 ln;obtain⟨n0,n1,n2,n3,n4,n5,n6,n7,ln⟩:=B1 Aw;clear h2 k2 Aw;have Bi:=A0 (fun(W:World) (hb:Below w2.heap.size w2 W)=>And.intro ((fun hs=>Gw hs 6 i) (Ai.o.below hb).1) (Aa.o.trans (Ae (Ai.o.below hb).2)));unfold Ab at Bi;go_wp2_with fail
   refine((Bi.o _ z4ua).1).mono ?_;rintro e w3 ⟨rfl,h3,k3⟩;have Bc:=A0 h3.back;have Av:Hid (A3 (dx D X) w w3):=(Bi.o _ z4ua).2.trans (Ae k3);clear h3 k3;go_wp2;refine bodyPost_ret (v:=.tuple #[]) z63a rfl ?_;exact z4ra
  ·rw[if_neg hz];have tz:(m.top.n==0)=false:=by rw[beq_eq_false_iff_ne];exact hz
   unfold Ab;go_enter Tryz.func217,Tryz.ntmps217;go_wp2_with fail
   rw[←Am.o];refine HA.o.mono ?_;rintro e w1 ⟨rfl,h1,k1⟩;have Bj:=h1.Au;have A7:=A0 h1;have A4:Hid (A3 (dx D X) w w1):=Af.o.trans (Ae k1);have Ad:=(k1.block _ Al.o).trans Aq.o;have Bo:=A0 Ad;clear n0 n1 n2 n3 n4 n5 n6 n7 ln;obtain⟨n0,n1,n2,n3,n4,n5,n6,n7,ln⟩:=B1 Ad;clear h1 k1 Ad;have HT:=A0 (Eh A7.o);go_wp2_with fail
   refine HT.o.mono ?_;rintro e w2 ⟨rfl,h2,k2⟩;unfold Az;have E2:=h2.Au;have Ai:=A0 h2;have Aa:Hid (A3 (dx D X) w w2):=A4.o.trans (Ae k2);have Aw:=(k2.block _ Al.o).trans Bo.o;have Ee:=A0 Aw;clear n0 n1 n2 n3 n4 n5 n6 n7 ln;obtain⟨n0,n1,n2,n3,n4,n5,n6,n7,ln⟩:=B1 Aw;clear h2 k2 Aw;have Bi:=A0 (fun(W:World) (hb:Below w2.heap.size w2 W)=>And.intro ((fun hs=>M7 hs ( (m.pop.top.n.tmod m.top.n)) z52a) (Ai.o.below hb).1) (Aa.o.trans (Ae (Ai.o.below hb).2)));exact z32a
theorem A7r(h:C.Ms D X β w m)(i:Ac)(ho:i.op=23)(hk:m.top.k≠2):Calls Tryz.prog 218 #[.pointer (some ⟨C.mb,0,none⟩),Ab i] w (MP C D X β w (m.fail 5 i) (.tuple #[])):=by
 obtain⟨w0,Am,Ap,Af,Al,Aq,n0,n1,n2,n3,n4,n5,n6,n7,ln,lb,Bz⟩:=h.C1 i;clear h;have t23:((i.op:Int)==23)=true:=by rw[ho];rfl
 have tk:(((m.top.k:Nat):Int) !=2)=true:=by rw[bne_iff_ne];omega
 have vf0:=Rm;have HT:=A0 Ap.o.top;clear ho hk;unfold Ab;go_enter Tryz.func218,Tryz.ntmps218;go_wp2_with fail
 rw[←Am.o];refine HT.o.mono ?_;rintro e w1 ⟨rfl,h1,k1⟩;unfold Az;have Bj:=h1.Au;have A7:=A0 h1;have A4:Hid (A3 (dx D X) w w1):=Af.o.trans (Ae k1);have Ad:=(k1.block _ Al.o).trans Aq.o;have Bo:=A0 Ad;clear n0 n1 n2 n3 n4 n5 n6 n7 ln;obtain⟨n0,n1,n2,n3,n4,n5,n6,n7,ln⟩:=B1 Ad;clear h1 k1 Ad;have B2:=A0 (fun(W:World) (hb:Below w1.heap.size w1 W)=>And.intro ((fun hs=>Gw hs 5 i) (A7.o.below hb).1) (A4.o.trans (Ae (A7.o.below hb).2)));unfold Ab at B2;go_wp2_with fail
 refine((B2.o _ z4ua).1).mono ?_;rintro e w2 ⟨rfl,h2,k2⟩;have Ai:=A0 h2.back;have Aa:Hid (A3 (dx D X) w w2):=(B2.o _ z4ua).2.trans (Ae k2);clear h2 k2;go_wp2;refine bodyPost_ret (v:=.tuple #[]) (by simp[results,Tryz.results218,go_sem]) rfl ?_;exact z38a
theorem A7t(h:C.Ms D X β w m)(i:Ac)(ho:i.op=23)(hk:m.top.k=2)(hn:m.vals.length+1<=100000):Calls Tryz.prog 218 #[.pointer (some ⟨C.mb,0,none⟩),Ab i] w (MP C D X β w (m.pop.push (ofInt (wr (-m.top.n)))) (.tuple #[])):=by
 obtain⟨w0,Am,Ap,Af,Al,Aq,n0,n1,n2,n3,n4,n5,n6,n7,ln,lb,Bz⟩:=h.C1 i;clear h;have t23:((i.op:Int)==23)=true:=by rw[ho];rfl
 have tk:(((m.top.k:Nat):Int) !=2)=false:=by rw[hk];rfl
 have vf0:=Rm;have vf2:=A4n;have HT:=A0 Ap.o.top;clear ho hk;unfold Ab;go_enter Tryz.func218,Tryz.ntmps218;go_wp2_with fail
 rw[←Am.o];refine HT.o.mono ?_;rintro e w1 ⟨rfl,h1,k1⟩;unfold Az;have Bj:=h1.Au;have A7:=A0 h1;have A4:Hid (A3 (dx D X) w w1):=Af.o.trans (Ae k1);have Ad:=(k1.block _ Al.o).trans Aq.o;have Bo:=A0 Ad;clear n0 n1 n2 n3 n4 n5 n6 n7 ln;obtain⟨n0,n1,n2,n3,n4,n5,n6,n7,ln⟩:=B1 Ad;clear h1 k1 Ad;have HQ:=A0 A7.o.pop;go_wp2_with fail
 refine HQ.o.mono ?_;rintro e w2 ⟨rfl,h2,k2⟩;unfold Az;have E2:=h2.Au;have Ai:=A0 h2;have Aa:Hid (A3 (dx D X) w w2):=A4.o.trans (Ae k2);have Aw:=(k2.block _ Al.o).trans Bo.o;have Ee:=A0 Aw;clear n0 n1 n2 n3 n4 n5 n6 n7 ln;obtain⟨n0,n1,n2,n3,n4,n5,n6,n7,ln⟩:=B1 Aw;clear h2 k2 Aw;have Bi:=A0 (fun(W:World) (hb:Below w2.heap.size w2 W)=>And.intro ((fun hs=>M7 hs (wr (-m.top.n)) z52a) (Ai.o.below hb).1) (Aa.o.trans (Ae (Ai.o.below hb).2)));exact z32a
theorem MC.Ms.Vy(h:C.Ms D X β w m){i:Nat}(hi:i<m.arr.length):∃a c,w.cell? ⟨β i,0,none⟩=some (.slice a m.arr[i].length c)/\β i<w.heap.size/\w.ownsRow 0 225 5 (.slice a m.arr[i].length c) m.arr[i].length (Bw (C7 β) m.arr[i]):=by
 obtain⟨ρ,s,x,fv,ab,lp,hv⟩:=h;have hl:=hv.arr.len;obtain⟨h1,h2,_⟩:=hv.arr.at' i z4va hi;have hn:(ab[i]'z4va).2.1=m.arr[i].length:=(C9 h2).1;have c0:=A2 h1 0 _ rfl;unfold Lh at c0 h2;rw[hn]at c0 h2;exact⟨_,_,c0,A5 h1,h2⟩
def G0(m:MS)(v:PV):Value:=.tuple #[.int .i64 (((sizeOf' m v).getD 0:Nat):Int),.bool (sizeOf' m v).isSome]
theorem z65a {P:Prop} (h:P:=by simp[results,Tryz.results209,go_sem]):P:=h
theorem Pv(h:C.Ms D X β w m)(v:PV)(hv:C8 m.arr.length v):Calls Tryz.prog 209 #[Az β v] w fun e w'=>e=.returned (G0 m v)/\Below w.heap.size w w':=by
 have hbl:Below w.heap.size w (w.alloc (.cells #[.int .i64 (v.k:Nat),.bool v.y,.int .i64 v.n,.string ⟨v.t.toArray⟩,.pointer (Bk β v)] 225)):=Below.alloc (Below.refl _ _) (Nat.le_refl _) _;have HB:=A0 hbl;unfold Az;by_cases h3:v.k=3
 ·have e:G0 m v=.tuple #[.int .i64 (v.t.length:Nat),.bool true]:=by unfold G0 sizeOf';rw[if_pos h3];rfl
  rw[e];have t3:((v.k:Int)==3)=true:=by rw[h3];rfl
  clear h3 e hbl;go_enter Tryz.func209,Tryz.ntmps209;go_wp2;exact bodyPost_ret (v:=.tuple #[.int .i64 (v.t.length:Nat),.bool true]) z65a rfl ⟨rfl,HB.o⟩
 ·have t3:((v.k:Int)==3)=false:=by simp;omega
  by_cases h4:v.k=4
  ·have t4:((v.k:Int)==4)=true:=by rw[h4];rfl
   obtain⟨i,hr,hi⟩:∃i,v.r=some i/\i<m.arr.length:=by
    unfold C8 at hv;split at hv
    ·exact absurd h4 hv
    ·rename_i i hr;exact⟨i,hr,hv.2⟩
   have e:G0 m v=.tuple #[.int .i64 (m.arr[i].length:Nat),.bool true]:=by unfold G0 sizeOf';rw[if_neg h3,if_pos h4,hr];simp[List.getElem?_eq_getElem hi]
   have er:Bk β v=some ⟨β i,0,none⟩:=by unfold Bk;rw[hr]
   rw[e,er];rw[er]at HB hbl;obtain⟨a,c,c0,lb,_⟩:=h.Vy hi;have c1:=(World.cell?_of_block (hbl.block _ lb)).trans c0;generalize m.arr[i].length=n at *;clear h3 h4 e hbl hr er hv h c0;go_enter Tryz.func209,Tryz.ntmps209;go_wp2;exact bodyPost_ret (v:=.tuple #[.int .i64 (n:Nat),.bool true]) z65a rfl ⟨rfl,HB.o⟩
  ·have t4:((v.k:Int)==4)=false:=by simp;omega
   have e:G0 m v=.tuple #[.int .i64 0,.bool false]:=by unfold G0 sizeOf';rw[if_neg h3,if_neg h4];rfl
   rw[e];clear h3 h4 e hbl;go_enter Tryz.func209,Tryz.ntmps209;go_wp2;exact bodyPost_ret (v:=.tuple #[.int .i64 0,.bool false]) z65a rfl ⟨rfl,HB.o⟩
theorem A7i(h:C.Ms D X β w m)(i:Ac)(hv:C8 m.arr.length m.top)(hs:G0 m.pop m.top=.tuple #[.int .i64 0,.bool false]):Calls Tryz.prog 162 #[.pointer (some ⟨C.mb,0,none⟩),Ab i] w (MP C D X β w (m.pop.fail 5 i) (.tuple #[])):=by
 obtain⟨w0,Am,Ap,Af,Al,Aq,n0,n1,n2,n3,n4,n5,n6,n7,ln,lb,Bz⟩:=h.C1 i;clear h;have HP:=A0 Ap.o.pop;have vf0:=Rm;unfold Ab;go_enter Tryz.func162,Tryz.ntmps162;go_wp2_with fail
 rw[←Am.o];refine HP.o.mono ?_;rintro e w1 ⟨rfl,h1,k1⟩;have Bj:=h1.Au;have A7:=A0 h1;have A4:Hid (A3 (dx D X) w w1):=Af.o.trans (Ae k1);have Ad:=(k1.block _ Al.o).trans Aq.o;clear n0 n1 n2 n3 n4 n5 n6 n7 ln;obtain⟨n0,n1,n2,n3,n4,n5,n6,n7,ln⟩:=B1 Ad;have Bo:=A0 Ad;clear h1 k1 Ad HP;have HSz:=A0 (fun(W:World) (hb:Below w1.heap.size w1 W)=>Pv (A7.o.below hb).1 m.top hv);rw[show G0 m.pop m.top=_ from hs]at HSz;unfold Az at HSz ⊢;clear hv hs;generalize m.top=u at *;go_wp2_with fail
 refine(HSz.o _ z4ua).mono ?_;rintro e w2 ⟨rfl,A8⟩;have Aj:Below w1.heap.size w1 w2:=Below.trans z4ua (A8.mono z50a);have Aw:=(Aj.block _ ln).trans Bo.o;clear n0 n1 n2 n3 n4 n5 n6 n7;have lw:=Aj.size;obtain⟨n0,n1,n2,n3,n4,n5,n6,n7,Gc⟩:=B1 Aw;have E2:C.mb<w2.heap.size:=by omega
 have Bi:=A0 (fun(W:World) (hb:Below w2.heap.size w2 W)=>And.intro (Gw (A7.o.below (Aj.trans (hb.mono lw))).1 5 i) (A4.o.trans (Ae (A7.o.below (Aj.trans (hb.mono lw))).2)));unfold Ab at Bi;clear A8 Aj Aw HSz;go_wp2_with fail
 refine((Bi.o _ z4ua).1).mono ?_;rintro e w3 ⟨rfl,h3,k3⟩;have Bc:=A0 h3.back;have Av:Hid (A3 (dx D X) w w3):=(Bi.o _ z4ua).2.trans (Ae k3);clear h3 k3;go_wp2;refine bodyPost_ret (v:=.tuple #[]) (by simp[results,Tryz.results162,go_sem]) rfl ?_;exact z4ra
theorem A7j(h:C.Ms D X β w m)(i:Ac)(hv:C8 m.arr.length m.top){n:Nat}(hs:G0 m.pop m.top=.tuple #[.int .i64 (n:Nat),.bool true])(hn:m.vals.length<=100000):Calls Tryz.prog 162 #[.pointer (some ⟨C.mb,0,none⟩),Ab i] w (MP C D X β w (m.pop.push (ofInt n)) (.tuple #[])):=by
 obtain⟨w0,Am,Ap,Af,Al,Aq,n0,n1,n2,n3,n4,n5,n6,n7,ln,lb,Bz⟩:=h.C1 i;clear h;have HP:=A0 Ap.o.pop;have vf0:=Rm;unfold Ab;go_enter Tryz.func162,Tryz.ntmps162;go_wp2_with fail
 rw[←Am.o];refine HP.o.mono ?_;rintro e w1 ⟨rfl,h1,k1⟩;have Bj:=h1.Au;have A7:=A0 h1;have A4:Hid (A3 (dx D X) w w1):=Af.o.trans (Ae k1);have Ad:=(k1.block _ Al.o).trans Aq.o;clear n0 n1 n2 n3 n4 n5 n6 n7 ln;obtain⟨n0,n1,n2,n3,n4,n5,n6,n7,ln⟩:=B1 Ad;have Bo:=A0 Ad;clear h1 k1 Ad HP;have HSz:=A0 (fun(W:World) (hb:Below w1.heap.size w1 W)=>Pv (A7.o.below hb).1 m.top hv);rw[show G0 m.pop m.top=_ from hs]at HSz;unfold Az at HSz ⊢;clear hv hs;generalize m.top=u at *;go_wp2_with fail
 refine(HSz.o _ z4ua).mono ?_;rintro e w2 ⟨rfl,A8⟩;have Aj:Below w1.heap.size w1 w2:=Below.trans z4ua (A8.mono z50a);have Aw:=(Aj.block _ ln).trans Bo.o;clear n0 n1 n2 n3 n4 n5 n6 n7;have lw:=Aj.size;obtain⟨n0,n1,n2,n3,n4,n5,n6,n7,Gc⟩:=B1 Aw;have E2:C.mb<w2.heap.size:=by omega
 have hl:m.pop.vals.length+1<=100000\/m.vals.length=0:=by simp only[MS.pop,List.length_dropLast];omega
 have hl1:m.pop.vals.length+1<=100000:=by simp only[MS.pop,List.length_dropLast]at hl ⊢;omega
 have Bi:=A0 (fun(W:World) (hb:Below w2.heap.size w2 W)=>And.intro ((A7.o.below (Aj.trans (hb.mono lw))).1.push (ofInt n) (by simp[C8,ofInt]) hl1) (A4.o.trans (Ae (A7.o.below (Aj.trans (hb.mono lw))).2)));clear A8 Aj Aw HSz hl hl1;go_wp2;go_region_law (first
  | (refine Eo rfl 99 _ _ rfl #[.pointer (some ⟨C.mb,4,none⟩),.agg #[.int .i64 2,.bool false,.int .i64 n,.string ⟨#[]⟩,.pointer none]] z4xa Cq.o.1 ?_;rintro e w4 ⟨rfl,h4,k4⟩;refine⟨_,rfl,?_⟩;have Er:=A0 h4.back;have Cn:Hid (A3 (dx D X) w w4):=Cq.o.2.trans (Ae k4);clear h4 k4)
  | (refine Eo rfl 85 _ _ rfl #[.int .i64 n] z4xa (Un n _) ?_;rintro e w3 ⟨rfl,hb3'⟩;refine⟨_,rfl,?_⟩;have B8:=Rv hb3';have Cq:=A0 (Bi.o w3 B8);have lb3:=B8.size;clear B8 hb3'))
 all_goals go_wp2
 all_goals go_end0
 all_goals exact⟨rfl,Er.o,Cn.o⟩
theorem A21(h:C.Ms D X β w m)(n:Nat)(i:Ac)(hc:m.cells+n<=500):Calls Tryz.prog 207 #[.pointer (some ⟨C.mb,0,none⟩),.int .i64 (n:Nat),Ab i] w (MP C D X β w { m with cells:=m.cells+n } (.bool true)):=by
 obtain⟨ρ,s,x,fv,ab,lp,h⟩:=h;obtain⟨c0,c1,c2,c3,c4,c5,c6,c7,c8,c9,c10,c11,c12,c13,fz,lb⟩:=Qj (show w.heap[C.mb]?=some (.cells #[_,_,_,_,_,_,_,_,_,_,_,_,_,_] _ (0,0)) from h.cell);have HH:=A0 h;have t0:¬(500:Int)-(m.cells:Int)<(n:Int):=by omega
 have HFu:Hid (((m.cells+n:Nat):Int)=(m.cells:Int)+n):=by show _=_;omega
 clear h c0 c1 c2 c3 c4 c5 c6 c7 c8 c9 c11 c12 c13;unfold Ab;go_enter Tryz.func207,Tryz.ntmps207;go_wp2;go_ret;rw[←HFu.o];have hcl:((w.setCell ⟨C.mb,10,none⟩ (.int .i64 ((m.cells+n:Nat):Nat))).alloc (.cells #[.int .i64 (i.op:Nat),.int .i64 i.arg,.int .i64 (i.line:Nat),.int .i64 (i.v.k:Nat),.bool i.v.y,.int .i64 i.v.n,.string ⟨i.v.t.toArray⟩,.pointer none] 251)).heap[C.mb]?=some (.cells (C.cells s x m.fuel (m.cells+n) m.code m.line) 167 (0,0)):=by
  rw[Below.heap_alloc _ _ _ z4za,(heap_set (j:=10) HH.o.cell (.int .i64 ((m.cells+n:Nat):Nat)))];simp[MC.cells]
 have hkk:∀g,g<w.heap.size->g≠C.mb->((w.setCell ⟨C.mb,10,none⟩ (.int .i64 ((m.cells+n:Nat):Nat))).alloc (.cells #[.int .i64 (i.op:Nat),.int .i64 i.arg,.int .i64 (i.line:Nat),.int .i64 (i.v.k:Nat),.bool i.v.y,.int .i64 i.v.n,.string ⟨i.v.t.toArray⟩,.pointer none] 251)).heap[g]?=w.heap[g]?:=by
  exact z22a
 have hpl:=HH.o.plain (now:=m.now) (fuel:=m.fuel) (cells:=m.cells+n) (code:=m.code) (line:=m.line) (x':=x) HH.o.now hcl hkk z58a rfl rfl rfl;exact⟨rfl,hpl⟩
theorem A20(h:C.Ms D X β w m)(n:Nat)(i:Ac)(hc:500<m.cells+n)(h5:m.cells<=500):Calls Tryz.prog 207 #[.pointer (some ⟨C.mb,0,none⟩),.int .i64 (n:Nat),Ab i] w (MP C D X β w (m.fail 10 i) (.bool false)):=by
 have Bf:Below w.heap.size w (w.alloc (.cells #[.int .i64 (i.op:Nat),.int .i64 i.arg,.int .i64 (i.line:Nat),.int .i64 (i.v.k:Nat),.bool i.v.y,.int .i64 i.v.n,.string ⟨i.v.t.toArray⟩,.pointer none] 251)):=Below.alloc (Below.refl _ _) (Nat.le_refl _) _;obtain⟨h0,hd0⟩:=h.below Bf;have HF:=A0 (Gw h0 10 i);have Af:=A0 hd0;obtain⟨ρ,s,x,fv,ab,lp,h⟩:=h;obtain⟨c0,c1,c2,c3,c4,c5,c6,c7,c8,c9,c10,c11,c12,c13,fz,lb⟩:=Qj (show w.heap[C.mb]?=some (.cells #[_,_,_,_,_,_,_,_,_,_,_,_,_,_] _ (0,0)) from h.cell);have t0:(500:Int)-(m.cells:Int)<(n:Int):=by omega
 have lx:=heap_alloc_new w (.cells #[.int .i64 (i.op:Nat),.int .i64 i.arg,.int .i64 (i.line:Nat),.int .i64 (i.v.k:Nat),.bool i.v.y,.int .i64 i.v.n,.string ⟨i.v.t.toArray⟩,.pointer none] 251);clear h c0 c1 c2 c3 c4 c5 c6 c7 c8 c9 c11 c12 c13 h0 hd0 Bf hc;unfold Ab at *;go_enter Tryz.func207,Tryz.ntmps207;exact z2ia
theorem Ta(w:World)(a b c:Obj):∃W,W=((w.alloc a).alloc b).alloc c/\W.heap[w.heap.size]?=some a/\W.heap[w.heap.size+1]?=some b/\W.heap[w.heap.size+1+1]?=some c/\Below w.heap.size w W/\W.heap.size=w.heap.size+3:=by
 have z0:=alloc_old (o':=c) (alloc_old (o':=b) (heap_alloc_new w a));have z1:=alloc_old (o':=c) (heap_alloc_new (w.alloc a) b);have z2:=heap_alloc_new ((w.alloc a).alloc b) c;have hs:∀(v:World) (o:Obj),(v.alloc o).heap.size=v.heap.size+1:=fun v o=>by simp
 simp only[hs]at z0 z1 z2;exact⟨_,rfl,z0,z1,z2,Below.alloc (Below.alloc (Below.alloc (Below.refl _ _) (Nat.le_refl _) _) z50a _) z4ya _,by simp⟩
theorem Jn{w:World}{b:Nat}{a0 a1 a2 a3 a4:Value}{t:TypeId}(h:w.heap[b]?=some (.cells #[a0,a1,a2,a3,a4] t (0,0))):w.cell? ⟨b,0,none⟩=some a0/\w.cell? ⟨b,1,none⟩=some a1/\w.cell? ⟨b,2,none⟩=some a2/\w.cell? ⟨b,3,none⟩=some a3/\w.cell? ⟨b,4,none⟩=some a4/\b<w.heap.size:=
 ⟨A2 h 0 _ rfl,A2 h 1 _ rfl,A2 h 2 _ rfl,A2 h 3 _ rfl,A2 h 4 _ rfl,A5 h⟩
theorem A1y(h:C.Ms D X β w m)(u p:PV)(i:Ac)(hv:C8 m.arr.length u){n:Nat}(hs:G0 m u=.tuple #[.int .i64 (n:Nat),.bool true])(hk:p.k=2)(h0:0<=p.n)(h1:p.n<(n:Nat)):Calls Tryz.prog 211 #[.pointer (some ⟨C.mb,0,none⟩),Az β u,Az β p,Ab i] w fun e w'=>e=.returned (.bool true)/\Below w.heap.size w w':=by
 obtain⟨W,hW,z0,z1,z2,hbW,hsW⟩:=Ta w (.cells #[.int .i64 (u.k:Nat),.bool u.y,.int .i64 u.n,.string ⟨u.t.toArray⟩,.pointer (Bk β u)] 225) (.cells #[.int .i64 (p.k:Nat),.bool p.y,.int .i64 p.n,.string ⟨p.t.toArray⟩,.pointer (Bk β p)] 225) (.cells #[.int .i64 (i.op:Nat),.int .i64 i.arg,.int .i64 (i.line:Nat),.int .i64 (i.v.k:Nat),.bool i.v.y,.int .i64 i.v.n,.string ⟨i.v.t.toArray⟩,.pointer none] 251);have lb:=h.Au;have HSz:=A0 (Pv (h.below hbW).1 u hv);rw[show G0 m u=_ from hs]at HSz;have HS:=A0 (fun(V:World) (hb:Below W.heap.size W V)=>(h.below (hbW.trans (hb.mono hbW.size))));have t0:(((p.k:Nat):Int) !=2)=false:=by rw[hk];rfl
 have t1:¬p.n<0:=by omega
 have t2:¬((n:Nat):Int)<=p.n:=by omega
 clear hk;clear hv hs h;have HW:=A0 hW;have HbW:=A0 hbW;unfold Az Ab at *;clear hW hbW;go_enter Tryz.func211,Tryz.ntmps211;go_wp2_with fail
 rw[←HW.o];obtain⟨y0,y1,y2,y3,y4,_⟩:=Jn z0;go_wp2_with fail
 refine HSz.o.mono ?_;rintro e w1 ⟨rfl,A1⟩;have q1:=(A1.block _ z4va).trans z1;have q2:=(A1.block _ z4va).trans z2;have E6:=A1.size;obtain⟨s1,s2⟩:=HS.o w1 A1;have Bj:=s1.Au;obtain⟨p0,p1,p2,p3,p4,lp⟩:=Jn q1;obtain⟨n0,n1,n2,n3,n4,n5,n6,n7,ln⟩:=B1 q2;have A7:=A0 s1;have A4:=A0 s2;have HBl:Hid (Below w.heap.size w w1):=HbW.o.trans (A1.mono HbW.o.size);clear y0 y1 y2 y3 y4 A1 s1 s2 q1 q2 z0 z1 z2 HSz HS;go_wp2;go_ret;exact⟨rfl,HBl.o⟩
theorem z0ka {P:Prop} (h:P:=by
  clear hv hs h;have HW:=A0 hW;have HbW:=A0 hbW;unfold Az Ab at *;clear hW hbW;go_enter Tryz.func211,Tryz.ntmps211;go_wp2_with fail
  rw[←HW.o];obtain⟨y0,y1,y2,y3,y4,_⟩:=Jn z0;go_wp2_with fail
  refine HSz.o.mono ?_;rintro e w1 ⟨rfl,A1⟩;have q1:=(A1.block _ z4va).trans z1;have q2:=(A1.block _ z4va).trans z2;have E6:=A1.size;obtain⟨s1,s2⟩:=HS.o w1 A1;have Bj:=s1.Au;obtain⟨p0,p1,p2,p3,p4,lp⟩:=Jn q1;obtain⟨n0,n1,n2,n3,n4,n5,n6,n7,ln⟩:=B1 q2;have A7:=A0 s1;have A4:=A0 s2;clear y0 y1 y2 y3 y4 A1 s1 s2 q1 q2 z0 z1 z2 HSz HS;have HF:=A0 (fun(V:World) (hb:Below w1.heap.size w1 V)=>And.intro (Gw (A7.o.below hb).1 5 i) (A4.o.trans (A7.o.below hb).2));unfold Ab at HF;go_wp2_with fail
  refine((HF.o _ z4ua).1).mono ?_;rintro e w2 ⟨rfl,h2,k2⟩;have Ai:=A0 h2;have Aa:Hid (A3 (dx D X) w w2):=(HF.o _ z4ua).2.trans k2;clear h2 k2;go_wp2;go_ret;exact⟨rfl,Ai.o,Aa.o⟩):P:=h
theorem A1z(h:C.Ms D X β w m)(u p:PV)(i:Ac)(hv:C8 m.arr.length u){n:Nat}(hs:G0 m u=.tuple #[.int .i64 (n:Nat),.bool true])(hk:p.k≠2):Calls Tryz.prog 211 #[.pointer (some ⟨C.mb,0,none⟩),Az β u,Az β p,Ab i] w (MP C D X β w (m.fail 5 i) (.bool false)):=by
 obtain⟨W,hW,z0,z1,z2,hbW,hsW⟩:=Ta w (.cells #[.int .i64 (u.k:Nat),.bool u.y,.int .i64 u.n,.string ⟨u.t.toArray⟩,.pointer (Bk β u)] 225) (.cells #[.int .i64 (p.k:Nat),.bool p.y,.int .i64 p.n,.string ⟨p.t.toArray⟩,.pointer (Bk β p)] 225) (.cells #[.int .i64 (i.op:Nat),.int .i64 i.arg,.int .i64 (i.line:Nat),.int .i64 (i.v.k:Nat),.bool i.v.y,.int .i64 i.v.n,.string ⟨i.v.t.toArray⟩,.pointer none] 251);have lb:=h.Au;have HSz:=A0 (Pv (h.below hbW).1 u hv);rw[show G0 m u=_ from hs]at HSz;have HS:=A0 (fun(V:World) (hb:Below W.heap.size W V)=>(h.below (hbW.trans (hb.mono hbW.size))));have t0:(((p.k:Nat):Int) !=2)=true:=by rw[bne_iff_ne];omega
 clear hk;exact z0ka
theorem A1x(h:C.Ms D X β w m)(u p:PV)(i:Ac)(hv:C8 m.arr.length u)(hs:G0 m u=.tuple #[.int .i64 0,.bool false]):Calls Tryz.prog 211 #[.pointer (some ⟨C.mb,0,none⟩),Az β u,Az β p,Ab i] w (MP C D X β w (m.fail 5 i) (.bool false)):=by
 obtain⟨W,hW,z0,z1,z2,hbW,hsW⟩:=Ta w (.cells #[.int .i64 (u.k:Nat),.bool u.y,.int .i64 u.n,.string ⟨u.t.toArray⟩,.pointer (Bk β u)] 225) (.cells #[.int .i64 (p.k:Nat),.bool p.y,.int .i64 p.n,.string ⟨p.t.toArray⟩,.pointer (Bk β p)] 225) (.cells #[.int .i64 (i.op:Nat),.int .i64 i.arg,.int .i64 (i.line:Nat),.int .i64 (i.v.k:Nat),.bool i.v.y,.int .i64 i.v.n,.string ⟨i.v.t.toArray⟩,.pointer none] 251);have lb:=h.Au;have HSz:=A0 (Pv (h.below hbW).1 u hv);rw[show G0 m u=_ from hs]at HSz;have HS:=A0 (fun(V:World) (hb:Below W.heap.size W V)=>(h.below (hbW.trans (hb.mono hbW.size))));exact z0ka
theorem z0ba {P:Prop} (h:P:=by
  obtain⟨W,hW,z0,z1,z2,hbW,hsW⟩:=Ta w (.cells #[.int .i64 (u.k:Nat),.bool u.y,.int .i64 u.n,.string ⟨u.t.toArray⟩,.pointer (Bk β u)] 225) (.cells #[.int .i64 (p.k:Nat),.bool p.y,.int .i64 p.n,.string ⟨p.t.toArray⟩,.pointer (Bk β p)] 225) (.cells #[.int .i64 (i.op:Nat),.int .i64 i.arg,.int .i64 (i.line:Nat),.int .i64 (i.v.k:Nat),.bool i.v.y,.int .i64 i.v.n,.string ⟨i.v.t.toArray⟩,.pointer none] 251);have lb:=h.Au;have HSz:=A0 (Pv (h.below hbW).1 u hv);rw[show G0 m u=_ from hs]at HSz;have HS:=A0 (fun(V:World) (hb:Below W.heap.size W V)=>(h.below (hbW.trans (hb.mono hbW.size))));have t0:(((p.k:Nat):Int) !=2)=false:=by rw[hk];rfl
  clear hk;clear hv hs h;have HW:=A0 hW;have HbW:=A0 hbW;unfold Az Ab at *;clear hW hbW;go_enter Tryz.func211,Tryz.ntmps211;go_wp2_with fail
  rw[←HW.o];obtain⟨y0,y1,y2,y3,y4,_⟩:=Jn z0;go_wp2_with fail
  refine HSz.o.mono ?_;rintro e w1 ⟨rfl,A1⟩;have q1:=(A1.block _ z4va).trans z1;have q2:=(A1.block _ z4va).trans z2;have E6:=A1.size;obtain⟨s1,s2⟩:=HS.o w1 A1;have Bj:=s1.Au;obtain⟨p0,p1,p2,p3,p4,lp⟩:=Jn q1;obtain⟨n0,n1,n2,n3,n4,n5,n6,n7,ln⟩:=B1 q2;have A7:=A0 s1;have A4:=A0 s2;clear y0 y1 y2 y3 y4 A1 s1 s2 q1 q2 z0 z1 z2 HSz HS;have HF:=A0 (fun(V:World) (hb:Below w1.heap.size w1 V)=>And.intro (Gw (A7.o.below hb).1 7 i) (A4.o.trans (A7.o.below hb).2));unfold Ab at HF;go_wp2_with fail
  refine((HF.o _ z4ua).1).mono ?_;rintro e w2 ⟨rfl,h2,k2⟩;have Ai:=A0 h2;have Aa:Hid (A3 (dx D X) w w2):=(HF.o _ z4ua).2.trans k2;clear h2 k2;go_wp2;go_ret;exact⟨rfl,Ai.o,Aa.o⟩):P:=h
theorem A1w(h:C.Ms D X β w m)(u p:PV)(i:Ac)(hv:C8 m.arr.length u){n:Nat}(hs:G0 m u=.tuple #[.int .i64 (n:Nat),.bool true])(hk:p.k=2)(h1:p.n<0):Calls Tryz.prog 211 #[.pointer (some ⟨C.mb,0,none⟩),Az β u,Az β p,Ab i] w (MP C D X β w (m.fail 7 i) (.bool false)):=by
 exact z0ba
theorem A1v(h:C.Ms D X β w m)(u p:PV)(i:Ac)(hv:C8 m.arr.length u){n:Nat}(hs:G0 m u=.tuple #[.int .i64 (n:Nat),.bool true])(hk:p.k=2)(h0:¬p.n<0)(h1:((n:Nat):Int)<=p.n):Calls Tryz.prog 211 #[.pointer (some ⟨C.mb,0,none⟩),Az β u,Az β p,Ab i] w (MP C D X β w (m.fail 7 i) (.bool false)):=by
 exact z0ba
theorem Tq(h:C.Ms D X β w m)(i:Ac){m':MS}(hp:∀W,C.Ms D (Cp X w) β W m.pop.pop->Calls Tryz.prog 211 #[.pointer (some ⟨C.mb,0,none⟩),Az β m.pop.top,Az β m.top,Ab i] W (MP C D (Cp X w) β W m' (.bool false))):Calls Tryz.prog 164 #[.pointer (some ⟨C.mb,0,none⟩),Ab i] w (MP C D X β w m' (.tuple #[])):=by
 obtain⟨w0,Am,Ap,Af,Al,Aq,n0,n1,n2,n3,n4,n5,n6,n7,ln,lb,Bz⟩:=h.C1 i;clear h;have HT:=A0 (Eh Ap.o);have HH:=A0 hp;clear hp;generalize m.pop.top=u at *;generalize m.top=p at *;unfold Ab;unfold Ab at HH;go_enter Tryz.func164,Tryz.ntmps164;go_wp2_with fail
 rw[←Am.o];refine HT.o.mono ?_;rintro e w1 ⟨rfl,h1,k1⟩;unfold Az at HH ⊢;have Bj:=h1.Au;have A7:=A0 h1;have A4:Hid (A3 (dx D X) w w1):=Af.o.trans (Ae k1);have Ad:=(k1.block _ Al.o).trans Aq.o;clear n0 n1 n2 n3 n4 n5 n6 n7 ln;obtain⟨n0,n1,n2,n3,n4,n5,n6,n7,ln⟩:=B1 Ad;have Bo:=A0 Ad;clear h1 k1 Ad HT;have HH2:=A0 (fun(W:World) (hb:Below w1.heap.size w1 W)=>And.intro (HH.o W (A7.o.below hb).1) (A4.o.trans (Ae (A7.o.below hb).2)));clear HH;go_wp2_with fail
 refine((HH2.o _ z4ua).1).mono ?_;rintro e w2 ⟨rfl,h2,k2⟩;have Ai:=A0 h2.back;have Aa:Hid (A3 (dx D X) w w2):=(HH2.o _ z4ua).2.trans (Ae k2);clear h2 k2;go_wp2;refine bodyPost_ret (v:=.tuple #[]) (by simp[results,Tryz.results164,go_sem]) rfl ?_;exact z38a
theorem A4m(w:World)(a b:Obj):∃W,W=(w.alloc a).alloc b/\W.heap[w.heap.size]?=some a/\W.heap[w.heap.size+1]?=some b/\Below w.heap.size w W/\W.heap.size=w.heap.size+2:=by
 have z0:=alloc_old (o':=b) (heap_alloc_new w a);have z1:=heap_alloc_new (w.alloc a) b;have hs:∀(v:World) (o:Obj),(v.alloc o).heap.size=v.heap.size+1:=fun v o=>by simp
 simp only[hs]at z0 z1;exact⟨_,rfl,z0,z1,Below.alloc (Below.alloc (Below.refl _ _) (Nat.le_refl _) _) z50a _,by simp⟩
theorem z2ea {P:Prop} (h:P:=by
  unfold G0 sizeOf';rw[if_neg z4va,if_pos Gr,hr];show Value.tuple #[.int .i64 (((some (((m.arr)[r]?).getD []).length).getD 0:Nat):Int),.bool true]=_;rw[List.getElem?_eq_getElem hra];rfl):P:=h
theorem A7c(h:C.Ms D X β w m)(i:Ac){r k:Nat}(hr:m.pop.top.r=some r)(hra:r<m.arr.length)(Gr:m.pop.top.k=4)(Ci:m.top.k=2)(hkn:m.top.n=(k:Nat))(hki:k<m.arr[r].length)(hn:m.vals.length<=100000)(hvv:C8 m.arr.length m.arr[r][k]):Calls Tryz.prog 164 #[.pointer (some ⟨C.mb,0,none⟩),Ab i] w (MP C D X β w (m.pop.pop.push m.arr[r][k]) (.tuple #[])):=by
 obtain⟨w0,Am,Ap,Af,Al,Aq,n0,n1,n2,n3,n4,n5,n6,n7,ln,lb,Bz⟩:=h.C1 i;clear h;have HT:=A0 (Eh Ap.o);have hs:G0 m.pop.pop m.pop.top=.tuple #[.int .i64 (m.arr[r].length:Nat),.bool true]:=by
  exact z2ea
 have hvu:C8 m.arr.length m.pop.top:=by unfold C8;rw[hr];exact⟨Gr,hra⟩
 have HH:=A0 (fun(W:World) (hs':C.Ms D (Cp X w) β W m.pop.pop)=>A1y hs' m.pop.top m.top i hvu hs Ci z4va z4va);have HA:Hid (∀W:World,C.Ms D (Cp X w) β W m.pop.pop->∃a c,W.cell? ⟨β r,0,none⟩=some (.slice a m.arr[r].length c)/\β r<W.heap.size/\W.ownsRow 0 225 5 (.slice a m.arr[r].length c) m.arr[r].length (Bw (C7 β) m.arr[r])):=fun W hs'=>hs'.Vy hra;have hl:m.pop.pop.vals.length+1<=100000:=by simp only[MS.pop,List.length_dropLast];omega
 have HP:=A0 (fun(W:World) (hs':C.Ms D (Cp X w) β W m.pop.pop)=>hs'.push m.arr[r][k] hvv hl);have er:Bk β m.pop.top=some ⟨β r,0,none⟩:=by unfold Bk;rw[hr]
 have t3:(((m.pop.top.k:Nat):Int)==3)=false:=by rw[Gr];rfl
 clear hr Gr Ci hs hvu hl hvv hn;generalize hx:m.arr[r][k]=x at *;generalize hL:m.arr[r]=L at *;have HX:=A0 hx;clear hx hL;generalize m.pop.top=u at *;generalize m.top=p at *;unfold Ab;unfold Ab at HH;unfold Az at HH HP HT;rw[er]at HH HT;have t1:(0:Int)<=(k:Int):=by omega
 have t2:(k:Int)<(L.length:Int):=by omega
 rw[hkn]at HH HT;clear hkn er;go_enter Tryz.func164,Tryz.ntmps164;go_wp2_with fail
 rw[←Am.o];refine HT.o.mono ?_;rintro e w1 ⟨rfl,h1,k1⟩;have Bj:=h1.Au;have A7:=A0 h1;have A4:Hid (A3 (dx D X) w w1):=Af.o.trans (Ae k1);have Ad:=(k1.block _ Al.o).trans Aq.o;clear n0 n1 n2 n3 n4 n5 n6 n7 ln;obtain⟨n0,n1,n2,n3,n4,n5,n6,n7,ln⟩:=B1 Ad;obtain⟨W,hW,z0,z1,hbW,hsW⟩:=A4m w1 (.cells #[.int .i64 (u.k:Nat),.bool u.y,.int .i64 u.n,.string ⟨u.t.toArray⟩,.pointer (some ⟨β r,0,none⟩)] 225) (.cells #[.int .i64 (p.k:Nat),.bool p.y,.int .i64 (k:Nat),.string ⟨p.t.toArray⟩,.pointer (Bk β p)] 225);have HW:=A0 hW;have HH2:=A0 (HH.o W (A7.o.below hbW).1);have HBe:=A0 (fun(V:World) (hb:Below W.heap.size W V)=>A7.o.below (hbW.trans (hb.mono hbW.size)));clear hW hbW HH h1 k1 Ad HT;go_wp2_with fail
 rw[←HW.o];refine HH2.o.mono ?_;rintro e w2 ⟨rfl,A8⟩;have q0:=(A8.block _ z4va).trans z0;have q1:=(A8.block _ z4va).trans z1;obtain⟨s1,s2⟩:=HBe.o w2 A8;obtain⟨a,c,c0,lr,ho⟩:=HA.o w2 s1;obtain⟨g,ea,_,hcp,lg,hcell⟩:=Fo ho z4va;subst ea;have hat:∀j v,(C7 β x)[j]?=some v->j<5->w2.cell? ⟨g,k*5+j,none⟩=some v:=fun j v hv hj=>hcell (k*5+j) v ((D1 (f:=C7 β) (sz:=5) (fun _=>rfl) L k j hki hj).trans (by rw[HX.o];exact hv));have e0:=hat 0 _ rfl z4va;have e1:=hat 1 _ rfl z4va;have e2:=hat 2 _ rfl z4va;have e3:=hat 3 _ rfl z4va;have e4:=hat 4 _ rfl z4va;rw[Nat.add_zero]at e0;obtain⟨u0,u1,u2,u3,u4,lu⟩:=Jn q0;obtain⟨p0,p1,p2,p3,p4,lp⟩:=Jn q1;have E2:=s1.Au;have B2:=A0 (HP.o _ s1.Hs);have Aa:Hid (A3 (dx D X) w w2):=A4.o.trans (Ae s2);clear A8 q0 q1 s1 s2 ho hcell hat z0 z1 HP HA HBe HH2 HX;go_wp2;refine Ih 12 z4xa z4xa ?_;simp only[List.take_succ_cons,List.take_zero,List.drop_succ_cons,List.drop_zero];iterate 12 (refine Ez (fun K' hK'=>?_);go_simp;refine hK' _ ?_;clear hK' K')
 refine Ig ?_;go_wp2_with fail
 refine(B2.o).mono ?_;rintro e w3 ⟨rfl,h3,k3⟩;have Bc:=A0 h3.back;have Av:Hid (A3 (dx D X) w w3):=Aa.o.trans ((Dw _ w2 1).trans (Ae k3));clear h3 k3;go_wp2;go_end0;exact z4ra
end
section
open Go.RowKit
open Go.Deep (BT)
variable {C:MC} {D X:Nat->Prop} {w w':World} {m:MS} {ρ β:Nat->Nat} {s:Oe} {x:Eu} {fv:List Eu} {ab:List AB} {lp:List (Option Addr×Dv)}
theorem MC.Mv.A3s(h:C.Mv D X w m ρ β s x fv ab lp){r:Nat}(hr:r<m.arr.length)(ho:w'.os=w.os)(ht:w'.tape=w.tape)(hu:w'.output=w.output)(hz:w.heap.size<=w'.heap.size)(hk:∀g,g<w.heap.size->ρ g≠7+2*r->ρ g≠8+2*r->w'.heap[g]?=w.heap[g]?){nb:AB}{l:List PV}
  (hh:w'.heap[β r]?=some (.cells #[Lh nb] 356 (0,0))) (hrow:w'.ownsRow 0 225 5 (Lh nb) l.length (Bw (C7 β) l)) (hro:∀g,(Lh nb).ownBlock=some g->(Lh (ab[r]'(by rw[h.arr.len];exact hr))).ownBlock=some g\/w.heap.size<=g) (hvv:∀v∈l,C8 m.arr.length v) :
  C.Mv D X w' { m with arr:=m.arr.set r l } (F2 ρ w.heap.size (8+2*r)) β s x fv (ab.set r nb) lp/\A3 (dx D X) w w':=by
 have hl:=h.arr.len;have hrb:r<ab.length:=by omega
 have hlow:∀g,g<w.heap.size->ρ g<=6->w'.heap[g]?=w.heap[g]?:=fun g hg h6=>hk g hg z4va z4va;have hbd:A3 (dx D X) w w':=⟨ho,ht,hu,hz,fun g hg=>hlow g (h.prot g hg).1 (by rw[(h.prot g hg).2];omega)⟩;have hkD:∀g,D g->g<w.heap.size->w'.heap[g]?=w.heap[g]?/\D g:=fun g hg _=>⟨hbd.block g (.inl hg),hg⟩;have hmb:w'.heap[C.mb]?=w.heap[C.mb]?:=hlow _ h.lo.1 z5ia;have hlen:(m.arr.set r l).length=m.arr.length:=by simp
 have up:∀g,g<w.heap.size->F2 ρ w.heap.size (8+2*r) g=ρ g:=fun g hg=>Bm hg;refine⟨⟨hmb.trans h.cell,h.prog.keep hkD,B4 h.lots (fun g hg hl'=>hlow g hl' z57a),fun g hg=>by rw[up g (Bn h.lots g hg)];exact h.loto g hg,h.lotm,fun q hq=>(h.forms q hq).keep hkD,
  B4 h.gl (fun g hg hl'=>hlow g hl' z59a),fun g hg=>by rw[up g (Bn h.gl g hg)];exact h.glo g hg,
  B4 h.vals (fun g hg hl'=>hlow g hl' z55a),fun g hg=>by rw[up g (Bn h.vals g hg)];exact h.valo g hg,
  B4 h.calls (fun g hg hl'=>hlow g hl' z54a),fun g hg=>by rw[up g (Bn h.calls g hg)];exact h.callo g hg,h.frs.keep hkD,h.now.keep hkD,
  B4 h.out (fun g hg hl'=>hlow g hl' z56a),fun g hg=>by rw[up g (Bn h.out g hg)];exact h.outo g hg,⟨by simp[hl],fun i hi hi'=>?_⟩,
  fun g hg=>⟨Nat.lt_of_lt_of_le (h.prot g hg).1 hz,by rw[up g (h.prot g hg).1];exact(h.prot g hg).2⟩,⟨by rw[up _ h.lo.1];exact h.one.1,fun g hg=>?_⟩,h.Br,?_⟩,hbd⟩
 ·have Ad:i<ab.length:=by simpa using hi
  have Aw:i<m.arr.length:=by simpa using hi'
  obtain⟨a1,a2,a3,a4⟩:=h.arr.at' i Ad Aw;by_cases e:i=r
  ·subst e;have e1:(ab.set i nb)[i]'hi=nb:=by simp
   have e2:(m.arr.set i l)[i]'hi'=l:=by simp
   rw[e1,e2];refine⟨hh,hrow,by rw[up _ (A5 a1)];exact a3,fun g hg=>?_⟩;rcases hro g hg with q|q
   ·rw[up g (Bn a2 g q)];exact a4 g q
   ·exact Hj q
  ·have e1:(ab.set r nb)[i]'hi=ab[i]:=by rw[List.getElem_set_ne (fun q=>e q.symm)]
   have e2:(m.arr.set r l)[i]'hi'=m.arr[i]:=by rw[List.getElem_set_ne (fun q=>e q.symm)]
   rw[e1,e2];refine⟨(hk _ (A5 a1) (by rw[a3];omega) (by rw[a3];omega)).trans a1,B4 a2 (fun g hg hl'=>hk g hl' (by rw[a4 g hg];omega) (by rw[a4 g hg];omega)),by rw[up _ (A5 a1)];exact a3,fun g hg=>by rw[up g (Bn a2 g hg)];exact a4 g hg⟩
 ·by_cases hlt:g<w.heap.size
  ·rw[up g hlt]at hg;exact h.one.2 g hg
  ·rw[Hj z4va]at hg;omega
 ·rw[hlen];refine⟨h.vv.1,h.vv.2.1,fun l' hl' v hv=>?_⟩;rcases List.mem_or_eq_of_mem_set hl' with q|q
  ·exact h.vv.2.2 l' q v hv
  ·rw[q]at hv;exact hvv v hv
end
section
open Go.RowKit
open Go.Deep (BT)
variable {C:MC} {D X:Nat->Prop} {w w':World} {m:MS} {β:Nat->Nat}
theorem MC.Ms.A80(h:C.Ms D X β w m){r:Nat}(hr:r<m.arr.length){a:Option Addr}{c:Nat}(hc:w.cell? ⟨β r,0,none⟩=some (.slice a m.arr[r].length c)){w1:World}{g cap:Nat}(v:PV)(hv:C8 m.arr.length v)(ho:w1.ownsRow 0 225 5 (.slice (some ⟨g,0,none⟩) (m.arr[r].length+1) cap) (m.arr[r].length+1) (Bw (C7 β) m.arr[r]++C7 β v))(hg:w.grownBy w1 (Value.slice a m.arr[r].length c).ownBlock)(hat:(Value.slice a m.arr[r].length c).ownBlock=some g\/w.heap.size<=g) :
  C.Ms D X β (w1.setCell ⟨β r,0,none⟩ (.slice (some ⟨g,0,none⟩) (m.arr[r].length+1) cap)) { m with arr:=m.arr.set r (m.arr[r]++[v]) }/\A3 (dx D X) w (w1.setCell ⟨β r,0,none⟩ (.slice (some ⟨g,0,none⟩) (m.arr[r].length+1) cap)):=by
 obtain⟨ρ,s,x,fv,ab,lp,h⟩:=h;have hl:=h.arr.len;obtain⟨a1,a2,a3,a4⟩:=h.arr.at' r z4va hr;have c0:=(A2 a1 0 _ rfl).symm.trans hc;have c1:Lh (ab[r]'z4va)=.slice a m.arr[r].length c:=by injection c0
 have lr:=A5 a1;have hrow:∀q,(Value.slice a m.arr[r].length c).ownBlock=some q->ρ q=8+2*r:=fun q hq=>a4 q (by rw[c1];exact hq);have hnb:(Value.slice a m.arr[r].length c).ownBlock≠some (β r):=fun e=>by have:=hrow _ e;rw[a3]at this;omega
 have b1:=(hg.block (β r) lr (fun e=>hnb e.symm)).trans a1;have hgr:g≠β r:=by
  rcases hat with e|e
  ·exact fun q=>hnb (by rw[←q];exact e)
  ·omega
 have hq:=h.A3s (w':=w1.setCell ⟨β r,0,none⟩ (.slice (some ⟨g,0,none⟩) (m.arr[r].length+1) cap)) hr (by exact hg.os) (by exact hg.tape) (by exact hg.output) (by have:=hg.size;simp[World.setCell];omega) (fun q hq h7 h8=>(Below.heap_setCell _ _ _ _ (show q≠β r from fun e=>h7 (by rw[e];exact a3))).trans (hg.block q hq (fun e=>h8 (hrow q e.symm)))) (nb:=(some ⟨g,0,none⟩,m.arr[r].length+1,cap)) (l:=m.arr[r]++[v])
  (by rw[heap_set (j:=0) b1];rfl) (by
   have e:Bw (C7 β) (m.arr[r]++[v])=Bw (C7 β) m.arr[r]++C7 β v:=by rw[R7];simp[Bw]
   rw[e,List.length_append];exact B4 ho (fun k hk _=>Below.heap_setCell _ _ _ _ (show k≠β r from fun q=>hgr (by have:some g=some k:=hk;injection this with this;rw[this,q]))))
  (fun q hq=>by
   have e:g=q:=by have:some g=some q:=hq;injection this
   rw[c1,←e];exact hat) (fun u hu=>by
   rcases List.mem_append.1 hu with q|q
   ·exact h.vv.2.2 _ (List.getElem_mem hr) u q
   ·rw[List.mem_singleton.1 q];exact hv)
 exact⟨⟨_,s,x,fv,_,lp,hq.1⟩,hq.2⟩
end
end Go.Proofs.YtjdlndhfaaolaaaGreatDoor
