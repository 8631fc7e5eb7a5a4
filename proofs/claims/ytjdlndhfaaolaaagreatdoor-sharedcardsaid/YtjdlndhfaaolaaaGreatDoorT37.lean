import Derived.Test.YtjdlndhfaaolaaaGreatDoorT36
set_option maxHeartbeats 20000000
namespace Go.Proofs.YtjdlndhfaaolaaaGreatDoor
section
set_option maxRecDepth 100000
open Go.RowKit
open Go.Deep (BT)
variable {C:MC} {D X:Nat->Prop} {w w':World} {m:MS} {β:Nat->Nat}
theorem A84(h:C.Ms D X β w m)(i:Af)(ho:i.op=7)(hy:m.top.y=true)(hf:m.fuel=0):Calls Tryz.prog 155 #[.pointer (some ⟨C.mb,0,none⟩),Ac i] w (MP C D X β w (m.pop.fail 8 i) (.tuple #[])):=by
 obtain⟨w0,An,Aq,Ah,Am,Ar,n0,n1,n2,n3,n4,n5,n6,n7,ln,lb,C2⟩:=h.C6 i;clear h;have HT:=A0 Aq.o.pop;have t7:((i.op:Int)==7)=true:=by rw[ho];rfl
 unfold B0 at HT;clear ho;unfold Ac;go_enter Tryz.func155,Tryz.ntmps155;go_wp2_with fail
 rw[<-An.o];refine HT.o.mono ?_;rintro e w1 ⟨rfl,h1,k1⟩;have Bp:=h1.Aw;have A7:=A0 h1;have A4:Hid (A3 (dx D X) w w1):=Ah.o.trans (Ag k1);have Ad:=(k1.block _ Am.o).trans Ar.o;have Bt:=A0 Ad;clear n0 n1 n2 n3 n4 n5 n6 n7 ln;obtain⟨n0,n1,n2,n3,n4,n5,n6,n7,ln⟩:=B3 Ad;clear h1 k1 Ad;have HSp:=A0 (fun(W:World) (hb:Below w1.heap.size w1 W)=>And.intro (A1t (A7.o.below hb).1 i hf) (A4.o.trans (Ag (A7.o.below hb).2)));unfold Ac at HSp;have hbi2:∀(W:World) (hb:Below w1.heap.size w1 W),W.heap[w.heap.size]?=w1.heap[w.heap.size]?:=fun W hb=>hb.block _ (A5 Bt.o);have HBI:=A0 hbi2;clear hbi2;go_wp2_with fail
 refine((HSp.o _ z50a).1).mono ?_;rintro e w2 ⟨rfl,h2,k2⟩;have E2:=h2.Aw;have Aj:=A0 h2;have Aa:Hid (A3 (dx D X) w w2):=(HSp.o _ z50a).2.trans (Ag k2);have Ax:=(k2.block _ Am.o).trans ((HBI.o _ z50a).trans Bt.o);have Ef:=A0 Ax;clear h2 k2 Ax;have HSb:=A0 Aj.o.back;go_wp2;refine bodyPost_ret (v:=.tuple #[]) (by simp[results,Tryz.results155,go_sem]) rfl ?_;exact⟨rfl,HSb.o,Aa.o⟩
theorem z0ga {P:Prop} (h:P:=by
  go_wp2_with fail
  rw[<-An.o];refine HT.o.mono ?_;rintro e w1 ⟨rfl,h1,k1⟩;have Bp:=h1.Aw;have A7:=A0 h1;have A4:Hid (A3 (dx D X) w w1):=Ah.o.trans (Ag k1);have Ad:=(k1.block _ Am.o).trans Ar.o;have Bt:=A0 Ad;clear n0 n1 n2 n3 n4 n5 n6 n7 ln;obtain⟨n0,n1,n2,n3,n4,n5,n6,n7,ln⟩:=B3 Ad;clear h1 k1 Ad;obtain⟨⟨v7,c7⟩,f7⟩:=A7.o.Ua;obtain⟨s1,s2⟩:=A7.o.Sf i.arg ha;have HQ:=A0 (fun(W:World) (hb:Below (w1.setCell ⟨C.mb,7,none⟩ (.int .i64 i.arg)).heap.size (w1.setCell ⟨C.mb,7,none⟩ (.int .i64 i.arg)) W)=>And.intro (s1.below hb).1.back (A4.o.trans ((Ag s2).trans (Ag (s1.below hb).2))));clear s1 s2;go_wp2;go_end0;exact⟨rfl,HQ.o _ (Below.alloc (Below.refl _ _) (Nat.le_refl _) _)⟩):P:=h
theorem A83(h:C.Ms D X β w m)(i:Af)(ho:i.op=7)(hk:m.top.k=1)(hy:m.top.y=false)(ha:0<=i.arg):Calls Tryz.prog 155 #[.pointer (some ⟨C.mb,0,none⟩),Ac i] w (MP C D X β w (m.pop.jump i.arg) (.tuple #[])):=by
 obtain⟨w0,An,Aq,Ah,Am,Ar,n0,n1,n2,n3,n4,n5,n6,n7,ln,lb,C2⟩:=h.C6 i;clear h;have HT:=A0 Aq.o.pop;have t7:((i.op:Int)==7)=true:=by rw[ho];rfl
 have tk:(((m.top.k:Nat):Int) !=1)=false:=by rw[hk];rfl
 unfold B0 at HT;clear ho hk;unfold Ac;go_enter Tryz.func155,Tryz.ntmps155;exact z0ga
theorem z1da {P:Prop} (h:P:=by
  go_wp2_with fail
  rw[<-An.o];refine HT.o.mono ?_;rintro e w1 ⟨rfl,h1,k1⟩;have Bp:=h1.Aw;have A7:=A0 h1;have A4:Hid (A3 (dx D X) w w1):=Ah.o.trans (Ag k1);have Ad:=(k1.block _ Am.o).trans Ar.o;have Bt:=A0 Ad;clear n0 n1 n2 n3 n4 n5 n6 n7 ln;obtain⟨n0,n1,n2,n3,n4,n5,n6,n7,ln⟩:=B3 Ad;clear h1 k1 Ad;have B4:=A0 (fun(W:World) (hb:Below w1.heap.size w1 W)=>And.intro ((fun hs=>Gw hs 5 i) (A7.o.below hb).1) (A4.o.trans (Ag (A7.o.below hb).2)));unfold Ac at B4;exact z01a):P:=h
theorem A81(h:C.Ms D X β w m)(i:Af)(ho:i.op=7)(hk:m.top.k≠1)(hy:m.top.y=false):Calls Tryz.prog 155 #[.pointer (some ⟨C.mb,0,none⟩),Ac i] w (MP C D X β w (m.pop.fail 5 i) (.tuple #[])):=by
 obtain⟨w0,An,Aq,Ah,Am,Ar,n0,n1,n2,n3,n4,n5,n6,n7,ln,lb,C2⟩:=h.C6 i;clear h;have HT:=A0 Aq.o.pop;have t7:((i.op:Int)==7)=true:=by rw[ho];rfl
 have tk:(((m.top.k:Nat):Int) !=1)=true:=by rw[bne_iff_ne];omega
 unfold B0 at HT;clear ho hk;unfold Ac;go_enter Tryz.func155,Tryz.ntmps155;exact z1da
theorem MC.Ms.A12(h:C.Ms D (Cs X w) β w' m)(o:Obj):C.Ms D (fun g=>Cs X w g\/(w'.heap.size<=g/\g<w'.heap.size+1)) β (w'.alloc o) m:=by
 have hb:Below w'.heap.size w' (w'.alloc o):=Below.alloc (Below.refl _ _) (Nat.le_refl _) _;have:=h.more hb;rw[World.size_alloc]at this;exact this
theorem A85(h:C.Ms D X β w m)(i:Af)(ho:i.op=7)(hk:m.top.k=1)(hy:m.top.y=true)(hf:m.fuel≠0)(hf2:m.fuel<=100000):Calls Tryz.prog 155 #[.pointer (some ⟨C.mb,0,none⟩),Ac i] w (MP C D X β w ({ m.pop with fuel:=m.fuel-1 }) (.tuple #[])):=by
 obtain⟨w0,An,Aq,Ah,Am,Ar,n0,n1,n2,n3,n4,n5,n6,n7,ln,lb,C2⟩:=h.C6 i;clear h;have HT:=A0 Aq.o.pop;have t7:((i.op:Int)==7)=true:=by rw[ho];rfl
 have tk:(((m.top.k:Nat):Int) !=1)=false:=by rw[hk];rfl
 unfold B0 at HT;clear ho hk;unfold Ac;go_enter Tryz.func155,Tryz.ntmps155;go_wp2_with fail
 rw[<-An.o];refine HT.o.mono ?_;rintro e w1 ⟨rfl,h1,k1⟩;have Bp:=h1.Aw;have A7:=A0 h1;have A4:Hid (A3 (dx D X) w w1):=Ah.o.trans (Ag k1);have Ad:=(k1.block _ Am.o).trans Ar.o;have Bt:=A0 Ad;clear n0 n1 n2 n3 n4 n5 n6 n7 ln;obtain⟨n0,n1,n2,n3,n4,n5,n6,n7,ln⟩:=B3 Ad;clear h1 k1 Ad;have Hz:=A0 (A7.o.A12 (.cells #[.int .i64 (m.top.k:Nat),.bool true,.int .i64 m.top.n,.string ⟨m.top.t.toArray⟩,.pointer (Bq β m.top)] 225));have hbz:Below w1.heap.size w1 (w1.alloc (.cells #[.int .i64 (m.top.k:Nat),.bool true,.int .i64 m.top.n,.string ⟨m.top.t.toArray⟩,.pointer (Bq β m.top)] 225)):=Below.alloc (Below.refl _ _) (Nat.le_refl _) _;have HB1a:Hid (A3 (dx D X) w (w1.alloc (.cells #[.int .i64 (m.top.k:Nat),.bool true,.int .i64 m.top.n,.string ⟨m.top.t.toArray⟩,.pointer (Bq β m.top)] 225))):=A4.o.trans (Ag (A7.o.below hbz).2);have HI1a:=A0 ((hbz.block _ (A5 Bt.o)).trans Bt.o);have HV1:=A0 (heap_alloc_new w1 (.cells #[.int .i64 (m.top.k:Nat),.bool true,.int .i64 m.top.n,.string ⟨m.top.t.toArray⟩,.pointer (Bq β m.top)] 225));clear hbz;have HSp:=A0 (U3 Hz.o i hf hf2);unfold Ac at HSp;go_wp2_with fail
 refine HSp.o.mono ?_;rintro e w2 ⟨rfl,h2,k2⟩;have E2:=h2.Aw;have Aj:Hid (C.Ms D (Cs X w) β w2 { m.pop with fuel:=m.fuel-1 }):=h2.less (fun _ h=>.inl h) (fun _ _ _=>rfl) rfl;have Aa:Hid (A3 (dx D X) w w2):=HB1a.o.trans (k2.weak (fun _ hg=>hg.imp id (fun q=>.inl (.inl q))));have Ax:=(k2.block w.heap.size (.inr (.inl (.inr ⟨Nat.le_refl _,by omega⟩)))).trans HI1a.o;have Fw:=(k2.block w1.heap.size (.inr (.inr ⟨Nat.le_refl _,by omega⟩))).trans HV1.o;clear n0 n1 n2 n3 n4 n5 n6 n7 ln;obtain⟨n0,n1,n2,n3,n4,n5,n6,n7,ln⟩:=B3 Ax;obtain⟨p0,p1,p2,p3,p4,fp,lp⟩:=Mr Fw;clear h2 k2 Ax Fw;have HSb:=A0 Aj.o.back;go_wp2;go_end0;exact⟨rfl,HSb.o,Aa.o⟩
theorem z0aa {P:Prop} (h:P:=by
  try unfold Ac at Bn
  go_wp2_with fail
  refine((Bn.o _ z50a).1).mono ?_;rintro e w3 ⟨rfl,h3,k3⟩;have Bg:=A0 h3.back;have Ay:Hid (A3 (dx D X) w w3):=(Bn.o _ z50a).2.trans (Ag k3);clear h3 k3;go_wp2;go_end0;exact⟨rfl,Bg.o,Ay.o⟩):P:=h
theorem A82(h:C.Ms D X β w m)(i:Af)(ho:i.op=7)(hk:m.top.k≠1)(hy:m.top.y=true)(hf:m.fuel≠0)(hf2:m.fuel<=100000):Calls Tryz.prog 155 #[.pointer (some ⟨C.mb,0,none⟩),Ac i] w (MP C D X β w ({ m.pop with fuel:=m.fuel-1 }.fail 5 i) (.tuple #[])):=by
 obtain⟨w0,An,Aq,Ah,Am,Ar,n0,n1,n2,n3,n4,n5,n6,n7,ln,lb,C2⟩:=h.C6 i;clear h;have HT:=A0 Aq.o.pop;have t7:((i.op:Int)==7)=true:=by rw[ho];rfl
 have tk:(((m.top.k:Nat):Int) !=1)=true:=by rw[bne_iff_ne];omega
 unfold B0 at HT;clear ho hk;unfold Ac;go_enter Tryz.func155,Tryz.ntmps155;go_wp2_with fail
 rw[<-An.o];refine HT.o.mono ?_;rintro e w1 ⟨rfl,h1,k1⟩;have Bp:=h1.Aw;have A7:=A0 h1;have A4:Hid (A3 (dx D X) w w1):=Ah.o.trans (Ag k1);have Ad:=(k1.block _ Am.o).trans Ar.o;have Bt:=A0 Ad;clear n0 n1 n2 n3 n4 n5 n6 n7 ln;obtain⟨n0,n1,n2,n3,n4,n5,n6,n7,ln⟩:=B3 Ad;clear h1 k1 Ad;have Hz:=A0 (A7.o.A12 (.cells #[.int .i64 (m.top.k:Nat),.bool true,.int .i64 m.top.n,.string ⟨m.top.t.toArray⟩,.pointer (Bq β m.top)] 225));have hbz:Below w1.heap.size w1 (w1.alloc (.cells #[.int .i64 (m.top.k:Nat),.bool true,.int .i64 m.top.n,.string ⟨m.top.t.toArray⟩,.pointer (Bq β m.top)] 225)):=Below.alloc (Below.refl _ _) (Nat.le_refl _) _;have HB1a:Hid (A3 (dx D X) w (w1.alloc (.cells #[.int .i64 (m.top.k:Nat),.bool true,.int .i64 m.top.n,.string ⟨m.top.t.toArray⟩,.pointer (Bq β m.top)] 225))):=A4.o.trans (Ag (A7.o.below hbz).2);have HI1a:=A0 ((hbz.block _ (A5 Bt.o)).trans Bt.o);have HV1:=A0 (heap_alloc_new w1 (.cells #[.int .i64 (m.top.k:Nat),.bool true,.int .i64 m.top.n,.string ⟨m.top.t.toArray⟩,.pointer (Bq β m.top)] 225));clear hbz;have HSp:=A0 (U3 Hz.o i hf hf2);unfold Ac at HSp;go_wp2_with fail
 refine HSp.o.mono ?_;rintro e w2 ⟨rfl,h2,k2⟩;have E2:=h2.Aw;have Aj:Hid (C.Ms D (Cs X w) β w2 { m.pop with fuel:=m.fuel-1 }):=h2.less (fun _ h=>.inl h) (fun _ _ _=>rfl) rfl;have Aa:Hid (A3 (dx D X) w w2):=HB1a.o.trans (k2.weak (fun _ hg=>hg.imp id (fun q=>.inl (.inl q))));have Ax:=(k2.block w.heap.size (.inr (.inl (.inr ⟨Nat.le_refl _,by omega⟩)))).trans HI1a.o;have Fw:=(k2.block w1.heap.size (.inr (.inr ⟨Nat.le_refl _,by omega⟩))).trans HV1.o;clear n0 n1 n2 n3 n4 n5 n6 n7 ln;obtain⟨n0,n1,n2,n3,n4,n5,n6,n7,ln⟩:=B3 Ax;obtain⟨p0,p1,p2,p3,p4,fp,lp⟩:=Mr Fw;clear h2 k2 Ax Fw;have Bn:=A0 (fun(W:World) (hb:Below w2.heap.size w2 W)=>And.intro ((fun hs=>Gw hs 5 i) (Aj.o.below hb).1) (Aa.o.trans (Ag (Aj.o.below hb).2)));exact z0aa
theorem Z6(h:C.Ms D X β w m)(i:Af)(hk:m.top.k≠1):Calls Tryz.prog 156 #[.pointer (some ⟨C.mb,0,none⟩),Ac i] w (MP C D X β w (m.fail 5 i) (.tuple #[])):=by
 obtain⟨w0,An,Aq,Ah,Am,Ar,n0,n1,n2,n3,n4,n5,n6,n7,ln,lb,C2⟩:=h.C6 i;clear h;have HT:=A0 Aq.o.top;have tk:(((m.top.k:Nat):Int) !=1)=true:=by rw[bne_iff_ne];omega
 unfold B0 at HT;clear hk;unfold Ac;go_enter Tryz.func156,Tryz.ntmps156;exact z1da
theorem z0oa {P:Prop} (h:P:=by
  unfold B0 at HT;clear ho hk;unfold Ac;go_enter Tryz.func156,Tryz.ntmps156;go_wp2_with fail
  rw[<-An.o];refine HT.o.mono ?_;rintro e w1 ⟨rfl,h1,k1⟩;have Bp:=h1.Aw;have A7:=A0 h1;have A4:Hid (A3 (dx D X) w w1):=Ah.o.trans (Ag k1);have Ad:=(k1.block _ Am.o).trans Ar.o;have Bt:=A0 Ad;clear n0 n1 n2 n3 n4 n5 n6 n7 ln;obtain⟨n0,n1,n2,n3,n4,n5,n6,n7,ln⟩:=B3 Ad;clear h1 k1 Ad;have B4:=A0 (fun(W:World) (hb:Below w1.heap.size w1 W)=>And.intro ((fun hs=>MC.Ms.pop hs) (A7.o.below hb).1) (A4.o.trans (Ag (A7.o.below hb).2)));unfold Ac at B4;go_wp2_with fail
  refine((B4.o _ z50a).1).mono ?_;rintro e w2 ⟨rfl,h2,k2⟩;have Aj:=A0 h2.back;have Aa:Hid (A3 (dx D X) w w2):=(B4.o _ z50a).2.trans (Ag k2);clear h2 k2;unfold B0;go_wp2;go_end0;exact⟨rfl,Aj.o,Aa.o⟩):P:=h
theorem A6s(h:C.Ms D X β w m)(i:Af)(ho:i.op=9)(hk:m.top.k=1)(hy:m.top.y=true):Calls Tryz.prog 156 #[.pointer (some ⟨C.mb,0,none⟩),Ac i] w (MP C D X β w (m.pop) (.tuple #[])):=by
 obtain⟨w0,An,Aq,Ah,Am,Ar,n0,n1,n2,n3,n4,n5,n6,n7,ln,lb,C2⟩:=h.C6 i;clear h;have HT:=A0 Aq.o.top;have tk:(((m.top.k:Nat):Int) !=1)=false:=by rw[hk];rfl
 have t10:((i.op:Int)==10)=false:=by rw[ho];rfl
 exact z0oa
theorem z4ha {P:Prop} (h:P:=by
  unfold B0 at HT;clear ho hk;unfold Ac;go_enter Tryz.func156,Tryz.ntmps156;exact z0ga):P:=h
theorem A6r(h:C.Ms D X β w m)(i:Af)(ho:i.op=9)(hk:m.top.k=1)(hy:m.top.y=false)(ha:0<=i.arg):Calls Tryz.prog 156 #[.pointer (some ⟨C.mb,0,none⟩),Ac i] w (MP C D X β w (m.jump i.arg) (.tuple #[])):=by
 obtain⟨w0,An,Aq,Ah,Am,Ar,n0,n1,n2,n3,n4,n5,n6,n7,ln,lb,C2⟩:=h.C6 i;clear h;have HT:=A0 Aq.o.top;have tk:(((m.top.k:Nat):Int) !=1)=false:=by rw[hk];rfl
 have t10:((i.op:Int)==10)=false:=by rw[ho];rfl
 exact z4ha
theorem A6q(h:C.Ms D X β w m)(i:Af)(ho:i.op=10)(hk:m.top.k=1)(hy:m.top.y=true)(ha:0<=i.arg):Calls Tryz.prog 156 #[.pointer (some ⟨C.mb,0,none⟩),Ac i] w (MP C D X β w (m.jump i.arg) (.tuple #[])):=by
 obtain⟨w0,An,Aq,Ah,Am,Ar,n0,n1,n2,n3,n4,n5,n6,n7,ln,lb,C2⟩:=h.C6 i;clear h;have HT:=A0 Aq.o.top;have tk:(((m.top.k:Nat):Int) !=1)=false:=by rw[hk];rfl
 have t10:((i.op:Int)==10)=true:=by rw[ho];rfl
 exact z4ha
theorem A6p(h:C.Ms D X β w m)(i:Af)(ho:i.op=10)(hk:m.top.k=1)(hy:m.top.y=false):Calls Tryz.prog 156 #[.pointer (some ⟨C.mb,0,none⟩),Ac i] w (MP C D X β w (m.pop) (.tuple #[])):=by
 obtain⟨w0,An,Aq,Ah,Am,Ar,n0,n1,n2,n3,n4,n5,n6,n7,ln,lb,C2⟩:=h.C6 i;clear h;have HT:=A0 Aq.o.top;have tk:(((m.top.k:Nat):Int) !=1)=false:=by rw[hk];rfl
 have t10:((i.op:Int)==10)=true:=by rw[ho];rfl
 exact z0oa
theorem Z7(h:C.Ms D X β w m)(i:Af)(hva:Cc m.arr.length m.pop.top)(hvb:Cc m.arr.length m.top)(hn:m.vals.length+1<=100000):Calls Tryz.prog 219 #[.pointer (some ⟨C.mb,0,none⟩),Ac i] w (MP C D X β w (m.pop.pop.push (ofBool (m.pop.top.same m.top))) (.tuple #[])):=by
 cases hk:(m.pop.top.k==m.top.k)
 ·have e:m.pop.top.same m.top=false:=by unfold PV.same;rw[hk];rfl
  rw[e];exact A6x h i hva hvb hn hk
 cases hy:(m.pop.top.y==m.top.y)
 ·have e:m.pop.top.same m.top=false:=by unfold PV.same;rw[hk,hy];rfl
  rw[e];exact A72 h i hva hvb hn hk hy
 cases hnn:(m.pop.top.n==m.top.n)
 ·have e:m.pop.top.same m.top=false:=by unfold PV.same;rw[hk,hy,hnn];rfl
  rw[e];exact A6y h i hva hvb hn hk hy hnn
 cases ht:(m.pop.top.t==m.top.t)
 ·have e:m.pop.top.same m.top=false:=by unfold PV.same;rw[hk,hy,hnn,ht];rfl
  rw[e];exact A71 h i hva hvb hn hk hy hnn ht
 cases hr:(m.pop.top.r==m.top.r)
 ·have e:m.pop.top.same m.top=false:=by unfold PV.same;rw[hk,hy,hnn,ht,hr];rfl
  rw[e];exact A6z h i hva hvb hn hk hy hnn ht hr
 have e:m.pop.top.same m.top=true:=by unfold PV.same;rw[hk,hy,hnn,ht,hr];rfl
 rw[e];refine A70 h i hva hvb hn ?_;rw[beq_iff_eq]at hk hy hnn ht hr;generalize m.pop.top=u at *;generalize m.top=v at *;cases u;cases v;simp only at hk hy hnn ht hr;rw[hk,hy,hnn,ht,hr]
theorem A7p(h:C.Ms D X β w m)(i:Af)(ho:i.op=26)(hva:Cc m.arr.length m.pop.top)(hvb:Cc m.arr.length m.top)(hn:m.vals.length+1<=100000):Calls Tryz.prog 220 #[.pointer (some ⟨C.mb,0,none⟩),Ac i] w (MP C D X β w (m.pop.pop.push (ofBool (!m.pop.top.same m.top))) (.tuple #[])):=by
 obtain⟨w0,An,Aq,Ah,Am,Ar,n0,n1,n2,n3,n4,n5,n6,n7,ln,lb,C2⟩:=h.C6 i;clear h;have t26:((i.op:Int)==26)=true:=by rw[ho];rfl
 clear ho;have tpush:(m.pop.pop.push (ofBool (m.pop.top.same m.top))).top=ofBool (m.pop.top.same m.top):=by simp[MS.push,MS.top]
 have tpop:(m.pop.pop.push (ofBool (m.pop.top.same m.top))).pop=m.pop.pop:=by simp[MS.push,MS.pop]
 have HE:=A0 (Z7 Aq.o i hva hvb hn);unfold Ac at HE;generalize m.pop.top.same m.top=q at *;have HTu:=A0 tpush;have HTo:=A0 tpop;clear tpush tpop;unfold Ac;go_enter Tryz.func220,Tryz.ntmps220;go_wp2_with fail
 rw[<-An.o];refine HE.o.mono ?_;rintro e w1 ⟨rfl,h1,k1⟩;have Bp:=h1.Aw;have A7:=A0 h1;have A4:Hid (A3 (dx D X) w w1):=Ah.o.trans (Ag k1);have Ad:=(k1.block _ Am.o).trans Ar.o;have Bt:=A0 Ad;clear n0 n1 n2 n3 n4 n5 n6 n7 ln;obtain⟨n0,n1,n2,n3,n4,n5,n6,n7,ln⟩:=B3 Ad;clear h1 k1 Ad;have HQ:=A0 A7.o.pop;rw[HTu.o,HTo.o]at HQ;unfold B0 ofBool at HQ;go_wp2_with fail
 refine HQ.o.mono ?_;rintro e w2 ⟨rfl,h2,k2⟩;have E2:=h2.Aw;have Aj:=A0 h2;have Aa:Hid (A3 (dx D X) w w2):=A4.o.trans (Ag k2);have Ax:=(k2.block _ Am.o).trans Bt.o;have Ef:=A0 Ax;clear n0 n1 n2 n3 n4 n5 n6 n7 ln;obtain⟨n0,n1,n2,n3,n4,n5,n6,n7,ln⟩:=B3 Ax;clear h2 k2 Ax;have Bn:=A0 (fun(W:World) (hb:Below w2.heap.size w2 W)=>And.intro ((fun hs=>Jf hs (!q) z58a) (Aj.o.below hb).1) (Aa.o.trans (Ag (Aj.o.below hb).2)));exact z0aa
theorem z0da {P:Prop} (h:P:=by
  go_wp2_with fail
  refine(HBf.o _).mono ?_;rintro e w3 ⟨rfl,hb3'⟩;have Ak:Below w2.heap.size w2 w3:=Below.trans z50a (Below.mono hb3' z54a);have C8:=A0 (Bn.o _ Ak);have lb3:=Ak.size;clear Ak hb3';go_wp2_with fail
  refine C8.o.1.mono ?_;rintro e w4 ⟨rfl,h4,k4⟩;have Er:=A0 h4.back;have Cn:Hid (A3 (dx D X) w w4):=C8.o.2.trans (Ag k4);clear h4 k4;go_wp2;go_end0;exact⟨rfl,Er.o,Cn.o⟩):P:=h
theorem Aa4(h:C.Ms D X β w m)(i:Af)(ho:i.op=28)(h2:m.both 2=true)(hn:m.vals.length+1<=100000):Calls Tryz.prog 221 #[.pointer (some ⟨C.mb,0,none⟩),Ac i] w (MP C D X β w (m.pop.pop.push (ofBool (before m.top m.pop.top))) (.tuple #[])):=by
 obtain⟨w0,An,Aq,Ah,Am,Ar,n0,n1,n2,n3,n4,n5,n6,n7,ln,lb,C2⟩:=h.C6 i;clear h;have HBo:=A0 (Je Aq.o 2);rw[h2]at HBo;have t28:((i.op:Int)==28)=true:=by rw[ho];rfl
 clear ho h2;unfold Ac;go_enter Tryz.func221,Tryz.ntmps221;go_wp2_with fail
 rw[<-An.o];refine HBo.o.mono ?_;rintro e w1 ⟨rfl,h1,k1⟩;have Bp:=h1.Aw;have A7:=A0 h1;have A4:Hid (A3 (dx D X) w w1):=Ah.o.trans (Ag k1);have Ad:=(k1.block _ Am.o).trans Ar.o;have Bt:=A0 Ad;clear n0 n1 n2 n3 n4 n5 n6 n7 ln;obtain⟨n0,n1,n2,n3,n4,n5,n6,n7,ln⟩:=B3 Ad;clear h1 k1 Ad;have HT:=A0 (Ei A7.o);go_wp2_with fail
 refine HT.o.mono ?_;rintro e w2 ⟨rfl,h2,k2⟩;unfold B0;have E2:=h2.Aw;have Aj:=A0 h2;have Aa:Hid (A3 (dx D X) w w2):=A4.o.trans (Ag k2);have Ax:=(k2.block _ Am.o).trans Bt.o;have Ef:=A0 Ax;clear n0 n1 n2 n3 n4 n5 n6 n7 ln;obtain⟨n0,n1,n2,n3,n4,n5,n6,n7,ln⟩:=B3 Ax;clear h2 k2 Ax;have HBf:=A0 (fun(W:World)=>O7 m.top m.pop.top β W);unfold B0 at HBf;have Bn:=A0 (fun(W:World) (hb:Below w2.heap.size w2 W)=>And.intro (Jf (Aj.o.below hb).1 (before m.top m.pop.top) z58a) (Aa.o.trans (Ag (Aj.o.below hb).2)));generalize before m.top m.pop.top=q at *;exact z0da
theorem z0ea {P:Prop} (h:P:=by
  go_wp2_with fail
  refine(HBf.o _).mono ?_;rintro e w4 ⟨rfl,hb4'⟩;have Ba:Below w3.heap.size w3 w4:=Below.trans z50a (Below.mono hb4' z54a);have Cx:=A0 (Ct.o _ Ba);have lb4:=Ba.size;clear Ba hb4';go_wp2_with fail
  refine Cx.o.1.mono ?_;rintro e w5 ⟨rfl,h5,k5⟩;have Gp:=A0 h5.back;have E7:Hid (A3 (dx D X) w w5):=Cx.o.2.trans (Ag k5);clear h5 k5;go_wp2;go_end0;exact⟨rfl,Gp.o,E7.o⟩):P:=h
theorem Aa5(h:C.Ms D X β w m)(i:Af)(ho:i.op=28)(h2:m.both 2=false)(h3:m.both 3=true)(hn:m.vals.length+1<=100000):Calls Tryz.prog 221 #[.pointer (some ⟨C.mb,0,none⟩),Ac i] w (MP C D X β w (m.pop.pop.push (ofBool (before m.top m.pop.top))) (.tuple #[])):=by
 obtain⟨w0,An,Aq,Ah,Am,Ar,n0,n1,n2,n3,n4,n5,n6,n7,ln,lb,C2⟩:=h.C6 i;clear h;have HBo:=A0 (Je Aq.o 2);rw[h2]at HBo;have t28:((i.op:Int)==28)=true:=by rw[ho];rfl
 clear ho h2;unfold Ac;go_enter Tryz.func221,Tryz.ntmps221;go_wp2_with fail
 rw[<-An.o];refine HBo.o.mono ?_;rintro e w1 ⟨rfl,h1,k1⟩;have Bp:=h1.Aw;have A7:=A0 h1;have A4:Hid (A3 (dx D X) w w1):=Ah.o.trans (Ag k1);have Ad:=(k1.block _ Am.o).trans Ar.o;have Bt:=A0 Ad;clear n0 n1 n2 n3 n4 n5 n6 n7 ln;obtain⟨n0,n1,n2,n3,n4,n5,n6,n7,ln⟩:=B3 Ad;clear h1 k1 Ad;have HBo2:=A0 (Je A7.o 3);rw[h3]at HBo2;clear h3;go_wp2_with fail
 refine HBo2.o.mono ?_;rintro e w2 ⟨rfl,h2,k2⟩;have E2:=h2.Aw;have Aj:=A0 h2;have Aa:Hid (A3 (dx D X) w w2):=A4.o.trans (Ag k2);have Ax:=(k2.block _ Am.o).trans Bt.o;have Ef:=A0 Ax;clear n0 n1 n2 n3 n4 n5 n6 n7 ln;obtain⟨n0,n1,n2,n3,n4,n5,n6,n7,ln⟩:=B3 Ax;clear h2 k2 Ax;have HT:=A0 (Ei Aj.o);go_wp2_with fail
 refine HT.o.mono ?_;rintro e w3 ⟨rfl,h3,k3⟩;unfold B0;have lb3:=h3.Aw;have Bg:=A0 h3;have Ay:Hid (A3 (dx D X) w w3):=Aa.o.trans (Ag k3);have D4:=(k3.block _ Am.o).trans Ef.o;have HI3:=A0 D4;clear n0 n1 n2 n3 n4 n5 n6 n7 ln;obtain⟨n0,n1,n2,n3,n4,n5,n6,n7,ln⟩:=B3 D4;clear h3 k3 D4;have HBf:=A0 (fun(W:World)=>O7 m.top m.pop.top β W);unfold B0 at HBf;have Ct:=A0 (fun(W:World) (hb:Below w3.heap.size w3 W)=>And.intro (Jf (Bg.o.below hb).1 (before m.top m.pop.top) z58a) (Ay.o.trans (Ag (Bg.o.below hb).2)));generalize before m.top m.pop.top=q at *;exact z0ea
theorem Aaa(h:C.Ms D X β w m)(i:Af)(ho:i.op=29)(h2:m.both 2=true)(hn:m.vals.length+1<=100000):Calls Tryz.prog 221 #[.pointer (some ⟨C.mb,0,none⟩),Ac i] w (MP C D X β w (m.pop.pop.push (ofBool (before m.pop.top m.top))) (.tuple #[])):=by
 obtain⟨w0,An,Aq,Ah,Am,Ar,n0,n1,n2,n3,n4,n5,n6,n7,ln,lb,C2⟩:=h.C6 i;clear h;have HBo:=A0 (Je Aq.o 2);rw[h2]at HBo;have t28:((i.op:Int)==28)=false:=by rw[ho];rfl
 have t29:((i.op:Int)==29)=true:=by rw[ho];rfl
 clear ho h2;unfold Ac;go_enter Tryz.func221,Tryz.ntmps221;go_wp2_with fail
 rw[<-An.o];refine HBo.o.mono ?_;rintro e w1 ⟨rfl,h1,k1⟩;have Bp:=h1.Aw;have A7:=A0 h1;have A4:Hid (A3 (dx D X) w w1):=Ah.o.trans (Ag k1);have Ad:=(k1.block _ Am.o).trans Ar.o;have Bt:=A0 Ad;clear n0 n1 n2 n3 n4 n5 n6 n7 ln;obtain⟨n0,n1,n2,n3,n4,n5,n6,n7,ln⟩:=B3 Ad;clear h1 k1 Ad;have HT:=A0 (Ei A7.o);go_wp2_with fail
 refine HT.o.mono ?_;rintro e w2 ⟨rfl,h2,k2⟩;unfold B0;have E2:=h2.Aw;have Aj:=A0 h2;have Aa:Hid (A3 (dx D X) w w2):=A4.o.trans (Ag k2);have Ax:=(k2.block _ Am.o).trans Bt.o;have Ef:=A0 Ax;clear n0 n1 n2 n3 n4 n5 n6 n7 ln;obtain⟨n0,n1,n2,n3,n4,n5,n6,n7,ln⟩:=B3 Ax;clear h2 k2 Ax;have HBf:=A0 (fun(W:World)=>O7 m.pop.top m.top β W);unfold B0 at HBf;have Bn:=A0 (fun(W:World) (hb:Below w2.heap.size w2 W)=>And.intro (Jf (Aj.o.below hb).1 (before m.pop.top m.top) z58a) (Aa.o.trans (Ag (Aj.o.below hb).2)));generalize before m.pop.top m.top=q at *;exact z0da
theorem Aab(h:C.Ms D X β w m)(i:Af)(ho:i.op=29)(h2:m.both 2=false)(h3:m.both 3=true)(hn:m.vals.length+1<=100000):Calls Tryz.prog 221 #[.pointer (some ⟨C.mb,0,none⟩),Ac i] w (MP C D X β w (m.pop.pop.push (ofBool (before m.pop.top m.top))) (.tuple #[])):=by
 obtain⟨w0,An,Aq,Ah,Am,Ar,n0,n1,n2,n3,n4,n5,n6,n7,ln,lb,C2⟩:=h.C6 i;clear h;have HBo:=A0 (Je Aq.o 2);rw[h2]at HBo;have t28:((i.op:Int)==28)=false:=by rw[ho];rfl
 have t29:((i.op:Int)==29)=true:=by rw[ho];rfl
 clear ho h2;unfold Ac;go_enter Tryz.func221,Tryz.ntmps221;go_wp2_with fail
 rw[<-An.o];refine HBo.o.mono ?_;rintro e w1 ⟨rfl,h1,k1⟩;have Bp:=h1.Aw;have A7:=A0 h1;have A4:Hid (A3 (dx D X) w w1):=Ah.o.trans (Ag k1);have Ad:=(k1.block _ Am.o).trans Ar.o;have Bt:=A0 Ad;clear n0 n1 n2 n3 n4 n5 n6 n7 ln;obtain⟨n0,n1,n2,n3,n4,n5,n6,n7,ln⟩:=B3 Ad;clear h1 k1 Ad;have HBo2:=A0 (Je A7.o 3);rw[h3]at HBo2;clear h3;go_wp2_with fail
 refine HBo2.o.mono ?_;rintro e w2 ⟨rfl,h2,k2⟩;have E2:=h2.Aw;have Aj:=A0 h2;have Aa:Hid (A3 (dx D X) w w2):=A4.o.trans (Ag k2);have Ax:=(k2.block _ Am.o).trans Bt.o;have Ef:=A0 Ax;clear n0 n1 n2 n3 n4 n5 n6 n7 ln;obtain⟨n0,n1,n2,n3,n4,n5,n6,n7,ln⟩:=B3 Ax;clear h2 k2 Ax;have HT:=A0 (Ei Aj.o);go_wp2_with fail
 refine HT.o.mono ?_;rintro e w3 ⟨rfl,h3,k3⟩;unfold B0;have lb3:=h3.Aw;have Bg:=A0 h3;have Ay:Hid (A3 (dx D X) w w3):=Aa.o.trans (Ag k3);have D4:=(k3.block _ Am.o).trans Ef.o;have HI3:=A0 D4;clear n0 n1 n2 n3 n4 n5 n6 n7 ln;obtain⟨n0,n1,n2,n3,n4,n5,n6,n7,ln⟩:=B3 D4;clear h3 k3 D4;have HBf:=A0 (fun(W:World)=>O7 m.pop.top m.top β W);unfold B0 at HBf;have Ct:=A0 (fun(W:World) (hb:Below w3.heap.size w3 W)=>And.intro (Jf (Bg.o.below hb).1 (before m.pop.top m.top) z58a) (Ay.o.trans (Ag (Bg.o.below hb).2)));generalize before m.pop.top m.top=q at *;exact z0ea
theorem Aa2(h:C.Ms D X β w m)(i:Af)(ho:i.op=30)(h2:m.both 2=true)(hn:m.vals.length+1<=100000):Calls Tryz.prog 221 #[.pointer (some ⟨C.mb,0,none⟩),Ac i] w (MP C D X β w (m.pop.pop.push (ofBool (!before m.pop.top m.top))) (.tuple #[])):=by
 obtain⟨w0,An,Aq,Ah,Am,Ar,n0,n1,n2,n3,n4,n5,n6,n7,ln,lb,C2⟩:=h.C6 i;clear h;have HBo:=A0 (Je Aq.o 2);rw[h2]at HBo;have t28:((i.op:Int)==28)=false:=by rw[ho];rfl
 have t29:((i.op:Int)==29)=false:=by rw[ho];rfl
 have t30:((i.op:Int)==30)=true:=by rw[ho];rfl
 clear ho h2;unfold Ac;go_enter Tryz.func221,Tryz.ntmps221;go_wp2_with fail
 rw[<-An.o];refine HBo.o.mono ?_;rintro e w1 ⟨rfl,h1,k1⟩;have Bp:=h1.Aw;have A7:=A0 h1;have A4:Hid (A3 (dx D X) w w1):=Ah.o.trans (Ag k1);have Ad:=(k1.block _ Am.o).trans Ar.o;have Bt:=A0 Ad;clear n0 n1 n2 n3 n4 n5 n6 n7 ln;obtain⟨n0,n1,n2,n3,n4,n5,n6,n7,ln⟩:=B3 Ad;clear h1 k1 Ad;have HT:=A0 (Ei A7.o);go_wp2_with fail
 refine HT.o.mono ?_;rintro e w2 ⟨rfl,h2,k2⟩;unfold B0;have E2:=h2.Aw;have Aj:=A0 h2;have Aa:Hid (A3 (dx D X) w w2):=A4.o.trans (Ag k2);have Ax:=(k2.block _ Am.o).trans Bt.o;have Ef:=A0 Ax;clear n0 n1 n2 n3 n4 n5 n6 n7 ln;obtain⟨n0,n1,n2,n3,n4,n5,n6,n7,ln⟩:=B3 Ax;clear h2 k2 Ax;have HBf:=A0 (fun(W:World)=>O7 m.pop.top m.top β W);unfold B0 at HBf;have Bn:=A0 (fun(W:World) (hb:Below w2.heap.size w2 W)=>And.intro (Jf (Aj.o.below hb).1 (!before m.pop.top m.top) z58a) (Aa.o.trans (Ag (Aj.o.below hb).2)));generalize before m.pop.top m.top=q at *;exact z0da
theorem Aa3(h:C.Ms D X β w m)(i:Af)(ho:i.op=30)(h2:m.both 2=false)(h3:m.both 3=true)(hn:m.vals.length+1<=100000):Calls Tryz.prog 221 #[.pointer (some ⟨C.mb,0,none⟩),Ac i] w (MP C D X β w (m.pop.pop.push (ofBool (!before m.pop.top m.top))) (.tuple #[])):=by
 obtain⟨w0,An,Aq,Ah,Am,Ar,n0,n1,n2,n3,n4,n5,n6,n7,ln,lb,C2⟩:=h.C6 i;clear h;have HBo:=A0 (Je Aq.o 2);rw[h2]at HBo;have t28:((i.op:Int)==28)=false:=by rw[ho];rfl
 have t29:((i.op:Int)==29)=false:=by rw[ho];rfl
 have t30:((i.op:Int)==30)=true:=by rw[ho];rfl
 clear ho h2;unfold Ac;go_enter Tryz.func221,Tryz.ntmps221;go_wp2_with fail
 rw[<-An.o];refine HBo.o.mono ?_;rintro e w1 ⟨rfl,h1,k1⟩;have Bp:=h1.Aw;have A7:=A0 h1;have A4:Hid (A3 (dx D X) w w1):=Ah.o.trans (Ag k1);have Ad:=(k1.block _ Am.o).trans Ar.o;have Bt:=A0 Ad;clear n0 n1 n2 n3 n4 n5 n6 n7 ln;obtain⟨n0,n1,n2,n3,n4,n5,n6,n7,ln⟩:=B3 Ad;clear h1 k1 Ad;have HBo2:=A0 (Je A7.o 3);rw[h3]at HBo2;clear h3;go_wp2_with fail
 refine HBo2.o.mono ?_;rintro e w2 ⟨rfl,h2,k2⟩;have E2:=h2.Aw;have Aj:=A0 h2;have Aa:Hid (A3 (dx D X) w w2):=A4.o.trans (Ag k2);have Ax:=(k2.block _ Am.o).trans Bt.o;have Ef:=A0 Ax;clear n0 n1 n2 n3 n4 n5 n6 n7 ln;obtain⟨n0,n1,n2,n3,n4,n5,n6,n7,ln⟩:=B3 Ax;clear h2 k2 Ax;have HT:=A0 (Ei Aj.o);go_wp2_with fail
 refine HT.o.mono ?_;rintro e w3 ⟨rfl,h3,k3⟩;unfold B0;have lb3:=h3.Aw;have Bg:=A0 h3;have Ay:Hid (A3 (dx D X) w w3):=Aa.o.trans (Ag k3);have D4:=(k3.block _ Am.o).trans Ef.o;have HI3:=A0 D4;clear n0 n1 n2 n3 n4 n5 n6 n7 ln;obtain⟨n0,n1,n2,n3,n4,n5,n6,n7,ln⟩:=B3 D4;clear h3 k3 D4;have HBf:=A0 (fun(W:World)=>O7 m.pop.top m.top β W);unfold B0 at HBf;have Ct:=A0 (fun(W:World) (hb:Below w3.heap.size w3 W)=>And.intro (Jf (Bg.o.below hb).1 (!before m.pop.top m.top) z58a) (Ay.o.trans (Ag (Bg.o.below hb).2)));generalize before m.pop.top m.top=q at *;exact z0ea
theorem Aa7(h:C.Ms D X β w m)(i:Af)(ho:i.op=31)(h2:m.both 2=true)(hn:m.vals.length+1<=100000):Calls Tryz.prog 221 #[.pointer (some ⟨C.mb,0,none⟩),Ac i] w (MP C D X β w (m.pop.pop.push (ofBool (!before m.top m.pop.top))) (.tuple #[])):=by
 obtain⟨w0,An,Aq,Ah,Am,Ar,n0,n1,n2,n3,n4,n5,n6,n7,ln,lb,C2⟩:=h.C6 i;clear h;have HBo:=A0 (Je Aq.o 2);rw[h2]at HBo;have t28:((i.op:Int)==28)=false:=by rw[ho];rfl
 have t29:((i.op:Int)==29)=false:=by rw[ho];rfl
 have t30:((i.op:Int)==30)=false:=by rw[ho];rfl
 have t31:((i.op:Int)==31)=true:=by rw[ho];rfl
 clear ho h2;unfold Ac;go_enter Tryz.func221,Tryz.ntmps221;go_wp2_with fail
 rw[<-An.o];refine HBo.o.mono ?_;rintro e w1 ⟨rfl,h1,k1⟩;have Bp:=h1.Aw;have A7:=A0 h1;have A4:Hid (A3 (dx D X) w w1):=Ah.o.trans (Ag k1);have Ad:=(k1.block _ Am.o).trans Ar.o;have Bt:=A0 Ad;clear n0 n1 n2 n3 n4 n5 n6 n7 ln;obtain⟨n0,n1,n2,n3,n4,n5,n6,n7,ln⟩:=B3 Ad;clear h1 k1 Ad;have HT:=A0 (Ei A7.o);go_wp2_with fail
 refine HT.o.mono ?_;rintro e w2 ⟨rfl,h2,k2⟩;unfold B0;have E2:=h2.Aw;have Aj:=A0 h2;have Aa:Hid (A3 (dx D X) w w2):=A4.o.trans (Ag k2);have Ax:=(k2.block _ Am.o).trans Bt.o;have Ef:=A0 Ax;clear n0 n1 n2 n3 n4 n5 n6 n7 ln;obtain⟨n0,n1,n2,n3,n4,n5,n6,n7,ln⟩:=B3 Ax;clear h2 k2 Ax;have HBf:=A0 (fun(W:World)=>O7 m.top m.pop.top β W);unfold B0 at HBf;have Bn:=A0 (fun(W:World) (hb:Below w2.heap.size w2 W)=>And.intro (Jf (Aj.o.below hb).1 (!before m.top m.pop.top) z58a) (Aa.o.trans (Ag (Aj.o.below hb).2)));generalize before m.top m.pop.top=q at *;exact z0da
theorem Aa8(h:C.Ms D X β w m)(i:Af)(ho:i.op=31)(h2:m.both 2=false)(h3:m.both 3=true)(hn:m.vals.length+1<=100000):Calls Tryz.prog 221 #[.pointer (some ⟨C.mb,0,none⟩),Ac i] w (MP C D X β w (m.pop.pop.push (ofBool (!before m.top m.pop.top))) (.tuple #[])):=by
 obtain⟨w0,An,Aq,Ah,Am,Ar,n0,n1,n2,n3,n4,n5,n6,n7,ln,lb,C2⟩:=h.C6 i;clear h;have HBo:=A0 (Je Aq.o 2);rw[h2]at HBo;have t28:((i.op:Int)==28)=false:=by rw[ho];rfl
 have t29:((i.op:Int)==29)=false:=by rw[ho];rfl
 have t30:((i.op:Int)==30)=false:=by rw[ho];rfl
 have t31:((i.op:Int)==31)=true:=by rw[ho];rfl
 clear ho h2;unfold Ac;go_enter Tryz.func221,Tryz.ntmps221;go_wp2_with fail
 rw[<-An.o];refine HBo.o.mono ?_;rintro e w1 ⟨rfl,h1,k1⟩;have Bp:=h1.Aw;have A7:=A0 h1;have A4:Hid (A3 (dx D X) w w1):=Ah.o.trans (Ag k1);have Ad:=(k1.block _ Am.o).trans Ar.o;have Bt:=A0 Ad;clear n0 n1 n2 n3 n4 n5 n6 n7 ln;obtain⟨n0,n1,n2,n3,n4,n5,n6,n7,ln⟩:=B3 Ad;clear h1 k1 Ad;have HBo2:=A0 (Je A7.o 3);rw[h3]at HBo2;clear h3;go_wp2_with fail
 refine HBo2.o.mono ?_;rintro e w2 ⟨rfl,h2,k2⟩;have E2:=h2.Aw;have Aj:=A0 h2;have Aa:Hid (A3 (dx D X) w w2):=A4.o.trans (Ag k2);have Ax:=(k2.block _ Am.o).trans Bt.o;have Ef:=A0 Ax;clear n0 n1 n2 n3 n4 n5 n6 n7 ln;obtain⟨n0,n1,n2,n3,n4,n5,n6,n7,ln⟩:=B3 Ax;clear h2 k2 Ax;have HT:=A0 (Ei Aj.o);go_wp2_with fail
 refine HT.o.mono ?_;rintro e w3 ⟨rfl,h3,k3⟩;unfold B0;have lb3:=h3.Aw;have Bg:=A0 h3;have Ay:Hid (A3 (dx D X) w w3):=Aa.o.trans (Ag k3);have D4:=(k3.block _ Am.o).trans Ef.o;have HI3:=A0 D4;clear n0 n1 n2 n3 n4 n5 n6 n7 ln;obtain⟨n0,n1,n2,n3,n4,n5,n6,n7,ln⟩:=B3 D4;clear h3 k3 D4;have HBf:=A0 (fun(W:World)=>O7 m.top m.pop.top β W);unfold B0 at HBf;have Ct:=A0 (fun(W:World) (hb:Below w3.heap.size w3 W)=>And.intro (Jf (Bg.o.below hb).1 (!before m.top m.pop.top) z58a) (Ay.o.trans (Ag (Bg.o.below hb).2)));generalize before m.top m.pop.top=q at *;exact z0ea
theorem Ti(h:C.Ms D X β w m)(i:Af)(h2:m.both 2=false)(h3:m.both 3=false):Calls Tryz.prog 221 #[.pointer (some ⟨C.mb,0,none⟩),Ac i] w (MP C D X β w (m.fail 5 i) (.tuple #[])):=by
 obtain⟨w0,An,Aq,Ah,Am,Ar,n0,n1,n2,n3,n4,n5,n6,n7,ln,lb,C2⟩:=h.C6 i;clear h;have HBo:=A0 (Je Aq.o 2);rw[h2]at HBo;clear h2;unfold Ac;go_enter Tryz.func221,Tryz.ntmps221;go_wp2_with fail
 rw[<-An.o];refine HBo.o.mono ?_;rintro e w1 ⟨rfl,h1,k1⟩;have Bp:=h1.Aw;have A7:=A0 h1;have A4:Hid (A3 (dx D X) w w1):=Ah.o.trans (Ag k1);have Ad:=(k1.block _ Am.o).trans Ar.o;have Bt:=A0 Ad;clear n0 n1 n2 n3 n4 n5 n6 n7 ln;obtain⟨n0,n1,n2,n3,n4,n5,n6,n7,ln⟩:=B3 Ad;clear h1 k1 Ad;have HBo2:=A0 (Je A7.o 3);rw[h3]at HBo2;clear h3;go_wp2_with fail
 refine HBo2.o.mono ?_;rintro e w2 ⟨rfl,h2,k2⟩;have E2:=h2.Aw;have Aj:=A0 h2;have Aa:Hid (A3 (dx D X) w w2):=A4.o.trans (Ag k2);have Ax:=(k2.block _ Am.o).trans Bt.o;have Ef:=A0 Ax;clear n0 n1 n2 n3 n4 n5 n6 n7 ln;obtain⟨n0,n1,n2,n3,n4,n5,n6,n7,ln⟩:=B3 Ax;clear h2 k2 Ax;have Bn:=A0 (fun(W:World) (hb:Below w2.heap.size w2 W)=>And.intro ((fun hs=>Gw hs 5 i) (Aj.o.below hb).1) (Aa.o.trans (Ag (Aj.o.below hb).2)));unfold Ac at Bn;go_wp2_with fail
 refine((Bn.o _ z50a).1).mono ?_;rintro e w3 ⟨rfl,h3,k3⟩;have Bg:=A0 h3.back;have Ay:Hid (A3 (dx D X) w w3):=(Bn.o _ z50a).2.trans (Ag k3);clear h3 k3;go_wp2;refine bodyPost_ret (v:=.tuple #[]) (by simp[results,Tryz.results221,go_sem]) rfl ?_;exact z4aa
theorem Anv(a b:List UInt8)(ha:a.length<=100)(hb:b.length<=100)(w:World):(Op.stringOp .add ⟨a.toArray⟩ ⟨b.toArray⟩).run Tryz.prog w=.ok (.string ⟨(a++b).toArray⟩) w:=run_string_add_lists w a b z51a z51a
theorem Z8(h:C.Ms D X β w m)(i:Af)(hl1:m.pop.top.t.length<=100000)(Gs:m.top.t.length<=100000)(hz:100<m.pop.top.t.length+m.top.t.length):Calls Tryz.prog 213 #[.pointer (some ⟨C.mb,0,none⟩),Ac i] w (MP C D X β w (m.pop.pop.fail 10 i) (.tuple #[])):=by
 obtain⟨w0,An,Aq,Ah,Am,Ar,n0,n1,n2,n3,n4,n5,n6,n7,ln,lb,C2⟩:=h.C6 i;clear h;have tz:decide ((100:Int)<(m.pop.top.t.length:Int)+(m.top.t.length:Int))=true:=by rw[decide_eq_true_iff];omega
 have HT:=A0 (Ei Aq.o);clear hz;unfold Ac;go_enter Tryz.func213,Tryz.ntmps213;go_wp2_with fail
 rw[<-An.o];refine HT.o.mono ?_;rintro e w1 ⟨rfl,h1,k1⟩;unfold B0;have Bp:=h1.Aw;have A7:=A0 h1;have A4:Hid (A3 (dx D X) w w1):=Ah.o.trans (Ag k1);have Ad:=(k1.block _ Am.o).trans Ar.o;have Bt:=A0 Ad;clear n0 n1 n2 n3 n4 n5 n6 n7 ln;obtain⟨n0,n1,n2,n3,n4,n5,n6,n7,ln⟩:=B3 Ad;clear h1 k1 Ad;have B4:=A0 (fun(W:World) (hb:Below w1.heap.size w1 W)=>And.intro ((fun hs=>Gw hs 10 i) (A7.o.below hb).1) (A4.o.trans (Ag (A7.o.below hb).2)));unfold Ac at B4;go_wp2_with fail
 refine((B4.o _ z50a).1).mono ?_;rintro e w2 ⟨rfl,h2,k2⟩;have Aj:=A0 h2.back;have Aa:Hid (A3 (dx D X) w w2):=(B4.o _ z50a).2.trans (Ag k2);clear h2 k2;go_wp2;refine bodyPost_ret (v:=.tuple #[]) (by simp[results,Tryz.results213,go_sem]) rfl ?_;exact z3ba
theorem Z9(h:C.Ms D X β w m)(i:Af)(hz:m.pop.top.t.length+m.top.t.length<=100)(hn:m.vals.length+1<=100000):Calls Tryz.prog 213 #[.pointer (some ⟨C.mb,0,none⟩),Ac i] w (MP C D X β w (m.pop.pop.push (ofStr (m.pop.top.t++m.top.t))) (.tuple #[])):=by
 obtain⟨w0,An,Aq,Ah,Am,Ar,n0,n1,n2,n3,n4,n5,n6,n7,ln,lb,C2⟩:=h.C6 i;clear h;have tz:decide ((100:Int)<(m.pop.top.t.length:Int)+(m.top.t.length:Int))=false:=by rw[decide_eq_false_iff_not];omega
 have hl1:m.pop.top.t.length<=100:=by omega
 have Gs:m.top.t.length<=100:=by omega
 have HT:=A0 (Ei Aq.o);clear hz;unfold Ac;go_enter Tryz.func213,Tryz.ntmps213;go_wp2_with fail
 rw[<-An.o];refine HT.o.mono ?_;rintro e w1 ⟨rfl,h1,k1⟩;unfold B0;have Bp:=h1.Aw;have A7:=A0 h1;have A4:Hid (A3 (dx D X) w w1):=Ah.o.trans (Ag k1);have Ad:=(k1.block _ Am.o).trans Ar.o;have Bt:=A0 Ad;clear n0 n1 n2 n3 n4 n5 n6 n7 ln;obtain⟨n0,n1,n2,n3,n4,n5,n6,n7,ln⟩:=B3 Ad;clear h1 k1 Ad;have HPs:=A0 (fun(W:World) (hb:Below w1.heap.size w1 W)=>And.intro ((A7.o.below hb).1.push (ofStr (m.pop.top.t++m.top.t)) (by simp[Cc,ofStr]) z58a) (A4.o.trans (Ag (A7.o.below hb).2)));unfold B0 ofStr at HPs;dsimp only[Bq]at HPs;go_wp2;have sa:=Anv m.pop.top.t m.top.t hl1 Gs;generalize hu:m.pop.top.t++m.top.t=u at *;have HU:=A0 hu;clear hu;go_region_law (first
  | (refine F2 rfl 99 _ _ rfl #[.pointer (some ⟨C.mb,4,none⟩),.agg #[.int .i64 3,.bool false,.int .i64 0,.string ⟨u.toArray⟩,.pointer none]] z53a HQ.o.1 ?_;rintro e w3 ⟨rfl,h3,k3⟩;refine⟨_,rfl,?_⟩;have Bg:=A0 h3.back;have Ay:Hid (A3 (dx D X) w w3):=HQ.o.2.trans (Ag k3);clear h3 k3)
  | (refine F2 rfl 86 _ _ rfl #[.string ⟨u.toArray⟩] z53a (A1w _ _) ?_;rintro e w2 ⟨rfl,hb2'⟩;refine⟨_,rfl,?_⟩;have A8:Below w1.heap.size w1 w2:=Below.trans z50a (Below.mono (R9 hb2') z54a);have HQ:=A0 (HPs.o w2 A8);have E2:=A8.size;clear A8 hb2'))
 all_goals go_wp2
 all_goals go_end0
 all_goals exact⟨rfl,Bg.o,Ay.o⟩
theorem A5r(h:C.Ms D X β w m)(i:Af)(ho:i.op=13)(hn:m.vals.length+1<=100000):Calls Tryz.prog 212 #[.pointer (some ⟨C.mb,0,none⟩),Ac i] w (MP C D X β w (m.two fun a b m'=>m'.push (ofInt (wr (a.n+b.n)))) (.tuple #[])):=by
 obtain⟨w0,An,Aq,Ah,Am,Ar,n0,n1,n2,n3,n4,n5,n6,n7,ln,lb,C2⟩:=h.C6 i;clear h;have t12:((i.op:Int)==12)=false:=by rw[ho];rfl
 have t13:((i.op:Int)==13)=true:=by rw[ho];rfl
 have HT:=A0 (Ei Aq.o);clear ho;unfold Ac;go_enter Tryz.func212,Tryz.ntmps212;go_wp2_with fail
 rw[<-An.o];refine HT.o.mono ?_;rintro e w1 ⟨rfl,h1,k1⟩;unfold B0;have Bp:=h1.Aw;have A7:=A0 h1;have A4:Hid (A3 (dx D X) w w1):=Ah.o.trans (Ag k1);have Ad:=(k1.block _ Am.o).trans Ar.o;have Bt:=A0 Ad;clear n0 n1 n2 n3 n4 n5 n6 n7 ln;obtain⟨n0,n1,n2,n3,n4,n5,n6,n7,ln⟩:=B3 Ad;clear h1 k1 Ad;have B4:=A0 (fun(W:World) (hb:Below w1.heap.size w1 W)=>And.intro ((fun hs=>Lz hs (wr (m.pop.top.n+m.top.n)) z58a) (A7.o.below hb).1) (A4.o.trans (Ag (A7.o.below hb).2)));unfold Ac at B4;exact z01a
theorem z0ma {P:Prop} (h:P:=by
  unfold Ac at B4;go_wp2_with fail
  refine((B4.o _ z50a).1).mono ?_;rintro e w2 ⟨rfl,h2,k2⟩;have Aj:=A0 h2.back;have Aa:Hid (A3 (dx D X) w w2):=(B4.o _ z50a).2.trans (Ag k2);clear h2 k2;go_wp2;refine bodyPost_ret (v:=.tuple #[]) (by simp[results,Tryz.results212,go_sem]) rfl ?_;exact⟨rfl,Aj.o,Aa.o⟩):P:=h
theorem A5t(h:C.Ms D X β w m)(i:Af)(ho:i.op=12)(h3:m.both 3=true)(hz:m.pop.top.t.length+m.top.t.length<=100)(hn:m.vals.length+1<=100000):Calls Tryz.prog 212 #[.pointer (some ⟨C.mb,0,none⟩),Ac i] w (MP C D X β w (m.pop.pop.push (ofStr (m.pop.top.t++m.top.t))) (.tuple #[])):=by
 obtain⟨w0,An,Aq,Ah,Am,Ar,n0,n1,n2,n3,n4,n5,n6,n7,ln,lb,C2⟩:=h.C6 i;clear h;have HBo:=A0 (Je Aq.o 3);rw[h3]at HBo;have t0:((i.op:Int)==12)=true:=by rw[ho];rfl
 clear ho h3;unfold Ac;go_enter Tryz.func212,Tryz.ntmps212;go_wp2_with fail
 rw[<-An.o];refine HBo.o.mono ?_;rintro e w1 ⟨rfl,h1,k1⟩;have Bp:=h1.Aw;have A7:=A0 h1;have A4:Hid (A3 (dx D X) w w1):=Ah.o.trans (Ag k1);have Ad:=(k1.block _ Am.o).trans Ar.o;have Bt:=A0 Ad;clear n0 n1 n2 n3 n4 n5 n6 n7 ln;obtain⟨n0,n1,n2,n3,n4,n5,n6,n7,ln⟩:=B3 Ad;clear h1 k1 Ad;have B4:=A0 (fun(W:World) (hb:Below w1.heap.size w1 W)=>And.intro ((fun hs=>Z9 hs i hz hn) (A7.o.below hb).1) (A4.o.trans (Ag (A7.o.below hb).2)));exact z0ma
theorem A5s(h:C.Ms D X β w m)(i:Af)(ho:i.op=12)(h3:m.both 3=true)(hl1:m.pop.top.t.length<=100000)(Gs:m.top.t.length<=100000)(hz:100<m.pop.top.t.length+m.top.t.length):Calls Tryz.prog 212 #[.pointer (some ⟨C.mb,0,none⟩),Ac i] w (MP C D X β w (m.pop.pop.fail 10 i) (.tuple #[])):=by
 obtain⟨w0,An,Aq,Ah,Am,Ar,n0,n1,n2,n3,n4,n5,n6,n7,ln,lb,C2⟩:=h.C6 i;clear h;have HBo:=A0 (Je Aq.o 3);rw[h3]at HBo;have t0:((i.op:Int)==12)=true:=by rw[ho];rfl
 clear ho h3;unfold Ac;go_enter Tryz.func212,Tryz.ntmps212;go_wp2_with fail
 rw[<-An.o];refine HBo.o.mono ?_;rintro e w1 ⟨rfl,h1,k1⟩;have Bp:=h1.Aw;have A7:=A0 h1;have A4:Hid (A3 (dx D X) w w1):=Ah.o.trans (Ag k1);have Ad:=(k1.block _ Am.o).trans Ar.o;have Bt:=A0 Ad;clear n0 n1 n2 n3 n4 n5 n6 n7 ln;obtain⟨n0,n1,n2,n3,n4,n5,n6,n7,ln⟩:=B3 Ad;clear h1 k1 Ad;have B4:=A0 (fun(W:World) (hb:Below w1.heap.size w1 W)=>And.intro ((fun hs=>Z8 hs i hl1 Gs hz) (A7.o.below hb).1) (A4.o.trans (Ag (A7.o.below hb).2)));exact z0ma
theorem A5q(h:C.Ms D X β w m)(i:Af)(ho:i.op=12)(h3:m.both 3=false)(h2:m.both 2=false):Calls Tryz.prog 212 #[.pointer (some ⟨C.mb,0,none⟩),Ac i] w (MP C D X β w (m.fail 5 i) (.tuple #[])):=by
 obtain⟨w0,An,Aq,Ah,Am,Ar,n0,n1,n2,n3,n4,n5,n6,n7,ln,lb,C2⟩:=h.C6 i;clear h;have HBo:=A0 (Je Aq.o 3);rw[h3]at HBo;have t0:((i.op:Int)==12)=true:=by rw[ho];rfl
 clear ho h3;unfold Ac;go_enter Tryz.func212,Tryz.ntmps212;go_wp2_with fail
 rw[<-An.o];refine HBo.o.mono ?_;rintro e w1 ⟨rfl,h1,k1⟩;have Bp:=h1.Aw;have A7:=A0 h1;have A4:Hid (A3 (dx D X) w w1):=Ah.o.trans (Ag k1);have Ad:=(k1.block _ Am.o).trans Ar.o;have Bt:=A0 Ad;clear n0 n1 n2 n3 n4 n5 n6 n7 ln;obtain⟨n0,n1,n2,n3,n4,n5,n6,n7,ln⟩:=B3 Ad;clear h1 k1 Ad;have B4:=A0 (fun(W:World) (hb:Below w1.heap.size w1 W)=>And.intro ((fun hs=>Rv hs i h2) (A7.o.below hb).1) (A4.o.trans (Ag (A7.o.below hb).2)));exact z0ma
theorem A5u(h:C.Ms D X β w m)(i:Af)(ho:i.op=12)(h3:m.both 3=false)(h2:m.both 2=true)(hn:m.vals.length+1<=100000):Calls Tryz.prog 212 #[.pointer (some ⟨C.mb,0,none⟩),Ac i] w (MP C D X β w (m.pop.pop.push (ofInt (wr (m.pop.top.n+m.top.n)))) (.tuple #[])):=by
 obtain⟨w0,An,Aq,Ah,Am,Ar,n0,n1,n2,n3,n4,n5,n6,n7,ln,lb,C2⟩:=h.C6 i;clear h;have HBo:=A0 (Je Aq.o 3);rw[h3]at HBo;have t0:((i.op:Int)==12)=true:=by rw[ho];rfl
 clear ho h3;unfold Ac;go_enter Tryz.func212,Tryz.ntmps212;go_wp2_with fail
 rw[<-An.o];refine HBo.o.mono ?_;rintro e w1 ⟨rfl,h1,k1⟩;have Bp:=h1.Aw;have A7:=A0 h1;have A4:Hid (A3 (dx D X) w w1):=Ah.o.trans (Ag k1);have Ad:=(k1.block _ Am.o).trans Ar.o;have Bt:=A0 Ad;clear n0 n1 n2 n3 n4 n5 n6 n7 ln;obtain⟨n0,n1,n2,n3,n4,n5,n6,n7,ln⟩:=B3 Ad;clear h1 k1 Ad;have HA:=A0 (Rw A7.o i h2);unfold Ac at HA;go_wp2_with fail
 refine HA.o.mono ?_;rintro e w2 ⟨rfl,h2,k2⟩;have E2:=h2.Aw;have Aj:=A0 h2;have Aa:Hid (A3 (dx D X) w w2):=A4.o.trans (Ag k2);have Ax:=(k2.block _ Am.o).trans Bt.o;have Ef:=A0 Ax;clear n0 n1 n2 n3 n4 n5 n6 n7 ln;obtain⟨n0,n1,n2,n3,n4,n5,n6,n7,ln⟩:=B3 Ax;clear h2 k2 Ax;have HT:=A0 (Ei Aj.o);go_wp2_with fail
 refine HT.o.mono ?_;rintro e w3 ⟨rfl,h3,k3⟩;unfold B0;have lb3:=h3.Aw;have Bg:=A0 h3;have Ay:Hid (A3 (dx D X) w w3):=Aa.o.trans (Ag k3);have D4:=(k3.block _ Am.o).trans Ef.o;have HI3:=A0 D4;clear n0 n1 n2 n3 n4 n5 n6 n7 ln;obtain⟨n0,n1,n2,n3,n4,n5,n6,n7,ln⟩:=B3 D4;clear h3 k3 D4;have Ct:=A0 (fun(W:World) (hb:Below w3.heap.size w3 W)=>And.intro ((fun hs=>Lz hs (wr (m.pop.top.n+m.top.n)) z58a) (Bg.o.below hb).1) (Ay.o.trans (Ag (Bg.o.below hb).2)));unfold Ac at Ct;go_wp2_with fail
 refine((Ct.o _ z50a).1).mono ?_;rintro e w4 ⟨rfl,h4,k4⟩;have Er:=A0 h4.back;have Cn:Hid (A3 (dx D X) w w4):=(Ct.o _ z50a).2.trans (Ag k4);clear h4 k4;exact z3ca
theorem z6ca {P:Prop} (h:P:=by simp[results,Tryz.results216,go_sem]):P:=h
theorem A6v(h:C.Ms D X β w m)(i:Af)(ho:i.op=20)(hz:m.top.n=0):Calls Tryz.prog 216 #[.pointer (some ⟨C.mb,0,none⟩),Ac i] w (MP C D X β w (m.pop.pop.fail 6 i) (.tuple #[])):=by
 obtain⟨w0,An,Aq,Ah,Am,Ar,n0,n1,n2,n3,n4,n5,n6,n7,ln,lb,C2⟩:=h.C6 i;clear h;have t19:((i.op:Int)==19)=false:=by rw[ho];rfl
 have t20:((i.op:Int)==20)=true:=by rw[ho];rfl
 have tz:(m.top.n==0)=true:=by rw[hz];rfl
 have HT:=A0 (Ei Aq.o);clear ho hz;unfold Ac;go_enter Tryz.func216,Tryz.ntmps216;go_wp2_with fail
 rw[<-An.o];refine HT.o.mono ?_;rintro e w1 ⟨rfl,h1,k1⟩;unfold B0;have Bp:=h1.Aw;have A7:=A0 h1;have A4:Hid (A3 (dx D X) w w1):=Ah.o.trans (Ag k1);have Ad:=(k1.block _ Am.o).trans Ar.o;have Bt:=A0 Ad;clear n0 n1 n2 n3 n4 n5 n6 n7 ln;obtain⟨n0,n1,n2,n3,n4,n5,n6,n7,ln⟩:=B3 Ad;clear h1 k1 Ad;have B4:=A0 (fun(W:World) (hb:Below w1.heap.size w1 W)=>And.intro ((fun hs=>Gw hs 6 i) (A7.o.below hb).1) (A4.o.trans (Ag (A7.o.below hb).2)));unfold Ac at B4;go_wp2_with fail
 refine((B4.o _ z50a).1).mono ?_;rintro e w2 ⟨rfl,h2,k2⟩;have Aj:=A0 h2.back;have Aa:Hid (A3 (dx D X) w w2):=(B4.o _ z50a).2.trans (Ag k2);clear h2 k2;go_wp2;refine bodyPost_ret (v:=.tuple #[]) z6ca rfl ?_;exact z3ba
theorem A6u(h:C.Ms D X β w m)(i:Af)(ho:i.op=20)(hz:m.top.n≠0)(hn:m.vals.length+1<=100000):Calls Tryz.prog 216 #[.pointer (some ⟨C.mb,0,none⟩),Ac i] w (MP C D X β w (m.pop.pop.push (ofInt (wr (m.pop.top.n.tdiv m.top.n)))) (.tuple #[])):=by
 obtain⟨w0,An,Aq,Ah,Am,Ar,n0,n1,n2,n3,n4,n5,n6,n7,ln,lb,C2⟩:=h.C6 i;clear h;have t19:((i.op:Int)==19)=false:=by rw[ho];rfl
 have t20:((i.op:Int)==20)=true:=by rw[ho];rfl
 have tz:(m.top.n==0)=false:=by rw[beq_eq_false_iff_ne];exact hz
 have HT:=A0 (Ei Aq.o);clear ho;unfold Ac;go_enter Tryz.func216,Tryz.ntmps216;go_wp2_with fail
 rw[<-An.o];refine HT.o.mono ?_;rintro e w1 ⟨rfl,h1,k1⟩;unfold B0;have Bp:=h1.Aw;have A7:=A0 h1;have A4:Hid (A3 (dx D X) w w1):=Ah.o.trans (Ag k1);have Ad:=(k1.block _ Am.o).trans Ar.o;have Bt:=A0 Ad;clear n0 n1 n2 n3 n4 n5 n6 n7 ln;obtain⟨n0,n1,n2,n3,n4,n5,n6,n7,ln⟩:=B3 Ad;clear h1 k1 Ad;have B4:=A0 (fun(W:World) (hb:Below w1.heap.size w1 W)=>And.intro ((fun hs=>Lz hs (wr (m.pop.top.n.tdiv m.top.n)) z58a) (A7.o.below hb).1) (A4.o.trans (Ag (A7.o.below hb).2)));unfold Ac at B4;exact z01a
theorem A6t(h:C.Ms D X β w m)(i:Af)(ho:i.op=19)(hn:m.vals.length+1<=100000):Calls Tryz.prog 216 #[.pointer (some ⟨C.mb,0,none⟩),Ac i] w (MP C D X β w (m.ints i (fun a b m'=>if b=0 then m'.fail 6 i else m'.push (ofInt (wr (a.tdiv b))))) (.tuple #[])):=by
 obtain⟨w0,An,Aq,Ah,Am,Ar,n0,n1,n2,n3,n4,n5,n6,n7,ln,lb,C2⟩:=h.C6 i;clear h;have t0:((i.op:Int)==19)=true:=by rw[ho];rfl
 unfold MS.ints;clear ho;cases hb:m.both 2
 ·rw[if_neg z56a];have HA:=A0 (Rv Aq.o i hb);unfold Ac at HA;clear hb;unfold Ac;go_enter Tryz.func216,Tryz.ntmps216;go_wp2_with fail
  rw[<-An.o];refine HA.o.mono ?_;rintro e w1 ⟨rfl,h1,k1⟩;have A7:=A0 h1.back;have A4:Hid (A3 (dx D X) w w1):=Ah.o.trans (Ag k1);clear h1 k1;go_wp2;refine bodyPost_ret (v:=.tuple #[]) z6ca rfl ?_;exact z3va
 ·rw[if_pos rfl];have HA:=A0 (Rw Aq.o i hb);unfold Ac at HA;clear hb;unfold MS.two;dsimp only;by_cases hz:m.top.n=0
  ·rw[if_pos hz];have tz:(m.top.n==0)=true:=by rw[hz];rfl
   clear hz;unfold Ac;go_enter Tryz.func216,Tryz.ntmps216;go_wp2_with fail
   rw[<-An.o];refine HA.o.mono ?_;rintro e w1 ⟨rfl,h1,k1⟩;have Bp:=h1.Aw;have A7:=A0 h1;have A4:Hid (A3 (dx D X) w w1):=Ah.o.trans (Ag k1);have Ad:=(k1.block _ Am.o).trans Ar.o;have Bt:=A0 Ad;clear n0 n1 n2 n3 n4 n5 n6 n7 ln;obtain⟨n0,n1,n2,n3,n4,n5,n6,n7,ln⟩:=B3 Ad;clear h1 k1 Ad;have HT:=A0 (Ei A7.o);go_wp2_with fail
   refine HT.o.mono ?_;rintro e w2 ⟨rfl,h2,k2⟩;unfold B0;have E2:=h2.Aw;have Aj:=A0 h2;have Aa:Hid (A3 (dx D X) w w2):=A4.o.trans (Ag k2);have Ax:=(k2.block _ Am.o).trans Bt.o;have Ef:=A0 Ax;clear n0 n1 n2 n3 n4 n5 n6 n7 ln;obtain⟨n0,n1,n2,n3,n4,n5,n6,n7,ln⟩:=B3 Ax;clear h2 k2 Ax;have Bn:=A0 (fun(W:World) (hb:Below w2.heap.size w2 W)=>And.intro ((fun hs=>Gw hs 6 i) (Aj.o.below hb).1) (Aa.o.trans (Ag (Aj.o.below hb).2)));unfold Ac at Bn;go_wp2_with fail
   refine((Bn.o _ z50a).1).mono ?_;rintro e w3 ⟨rfl,h3,k3⟩;have Bg:=A0 h3.back;have Ay:Hid (A3 (dx D X) w w3):=(Bn.o _ z50a).2.trans (Ag k3);clear h3 k3;go_wp2;refine bodyPost_ret (v:=.tuple #[]) z6ca rfl ?_;exact z4aa
  ·rw[if_neg hz];have tz:(m.top.n==0)=false:=by rw[beq_eq_false_iff_ne];exact hz
   unfold Ac;go_enter Tryz.func216,Tryz.ntmps216;go_wp2_with fail
   rw[<-An.o];refine HA.o.mono ?_;rintro e w1 ⟨rfl,h1,k1⟩;have Bp:=h1.Aw;have A7:=A0 h1;have A4:Hid (A3 (dx D X) w w1):=Ah.o.trans (Ag k1);have Ad:=(k1.block _ Am.o).trans Ar.o;have Bt:=A0 Ad;clear n0 n1 n2 n3 n4 n5 n6 n7 ln;obtain⟨n0,n1,n2,n3,n4,n5,n6,n7,ln⟩:=B3 Ad;clear h1 k1 Ad;have HT:=A0 (Ei A7.o);go_wp2_with fail
   refine HT.o.mono ?_;rintro e w2 ⟨rfl,h2,k2⟩;unfold B0;have E2:=h2.Aw;have Aj:=A0 h2;have Aa:Hid (A3 (dx D X) w w2):=A4.o.trans (Ag k2);have Ax:=(k2.block _ Am.o).trans Bt.o;have Ef:=A0 Ax;clear n0 n1 n2 n3 n4 n5 n6 n7 ln;obtain⟨n0,n1,n2,n3,n4,n5,n6,n7,ln⟩:=B3 Ax;clear h2 k2 Ax;have Bn:=A0 (fun(W:World) (hb:Below w2.heap.size w2 W)=>And.intro ((fun hs=>Lz hs (wr (m.pop.top.n.tdiv m.top.n)) z58a) (Aj.o.below hb).1) (Aa.o.trans (Ag (Aj.o.below hb).2)));exact z0aa
theorem z6ba {P:Prop} (h:P:=by simp[results,Tryz.results217,go_sem]):P:=h
theorem A7z(h:C.Ms D X β w m)(i:Af)(ho:i.op=22)(hz:m.top.n=0):Calls Tryz.prog 217 #[.pointer (some ⟨C.mb,0,none⟩),Ac i] w (MP C D X β w (m.pop.pop.fail 6 i) (.tuple #[])):=by
 obtain⟨w0,An,Aq,Ah,Am,Ar,n0,n1,n2,n3,n4,n5,n6,n7,ln,lb,C2⟩:=h.C6 i;clear h;have t21:((i.op:Int)==21)=false:=by rw[ho];rfl
 have t22:((i.op:Int)==22)=true:=by rw[ho];rfl
 have tz:(m.top.n==0)=true:=by rw[hz];rfl
 have HT:=A0 (Ei Aq.o);clear ho hz;unfold Ac;go_enter Tryz.func217,Tryz.ntmps217;go_wp2_with fail
 rw[<-An.o];refine HT.o.mono ?_;rintro e w1 ⟨rfl,h1,k1⟩;unfold B0;have Bp:=h1.Aw;have A7:=A0 h1;have A4:Hid (A3 (dx D X) w w1):=Ah.o.trans (Ag k1);have Ad:=(k1.block _ Am.o).trans Ar.o;have Bt:=A0 Ad;clear n0 n1 n2 n3 n4 n5 n6 n7 ln;obtain⟨n0,n1,n2,n3,n4,n5,n6,n7,ln⟩:=B3 Ad;clear h1 k1 Ad;have B4:=A0 (fun(W:World) (hb:Below w1.heap.size w1 W)=>And.intro ((fun hs=>Gw hs 6 i) (A7.o.below hb).1) (A4.o.trans (Ag (A7.o.below hb).2)));unfold Ac at B4;go_wp2_with fail
 refine((B4.o _ z50a).1).mono ?_;rintro e w2 ⟨rfl,h2,k2⟩;have Aj:=A0 h2.back;have Aa:Hid (A3 (dx D X) w w2):=(B4.o _ z50a).2.trans (Ag k2);clear h2 k2;go_wp2;refine bodyPost_ret (v:=.tuple #[]) z6ba rfl ?_;exact z3ba
theorem A7y(h:C.Ms D X β w m)(i:Af)(ho:i.op=22)(hz:m.top.n≠0)(hn:m.vals.length+1<=100000):Calls Tryz.prog 217 #[.pointer (some ⟨C.mb,0,none⟩),Ac i] w (MP C D X β w (m.pop.pop.push (ofInt ( (m.pop.top.n.tmod m.top.n)))) (.tuple #[])):=by
 obtain⟨w0,An,Aq,Ah,Am,Ar,n0,n1,n2,n3,n4,n5,n6,n7,ln,lb,C2⟩:=h.C6 i;clear h;have t21:((i.op:Int)==21)=false:=by rw[ho];rfl
 have t22:((i.op:Int)==22)=true:=by rw[ho];rfl
 have tz:(m.top.n==0)=false:=by rw[beq_eq_false_iff_ne];exact hz
 have HT:=A0 (Ei Aq.o);clear ho;unfold Ac;go_enter Tryz.func217,Tryz.ntmps217;go_wp2_with fail
 rw[<-An.o];refine HT.o.mono ?_;rintro e w1 ⟨rfl,h1,k1⟩;unfold B0;have Bp:=h1.Aw;have A7:=A0 h1;have A4:Hid (A3 (dx D X) w w1):=Ah.o.trans (Ag k1);have Ad:=(k1.block _ Am.o).trans Ar.o;have Bt:=A0 Ad;clear n0 n1 n2 n3 n4 n5 n6 n7 ln;obtain⟨n0,n1,n2,n3,n4,n5,n6,n7,ln⟩:=B3 Ad;clear h1 k1 Ad;have B4:=A0 (fun(W:World) (hb:Below w1.heap.size w1 W)=>And.intro ((fun hs=>Lz hs ( (m.pop.top.n.tmod m.top.n)) z58a) (A7.o.below hb).1) (A4.o.trans (Ag (A7.o.below hb).2)));unfold Ac at B4;exact z01a
theorem A7x(h:C.Ms D X β w m)(i:Af)(ho:i.op=21)(hn:m.vals.length+1<=100000):Calls Tryz.prog 217 #[.pointer (some ⟨C.mb,0,none⟩),Ac i] w (MP C D X β w (m.ints i (fun a b m'=>if b=0 then m'.fail 6 i else m'.push (ofInt ( (a.tmod b))))) (.tuple #[])):=by
 obtain⟨w0,An,Aq,Ah,Am,Ar,n0,n1,n2,n3,n4,n5,n6,n7,ln,lb,C2⟩:=h.C6 i;clear h;have t0:((i.op:Int)==21)=true:=by rw[ho];rfl
 unfold MS.ints;clear ho;cases hb:m.both 2
 ·rw[if_neg z56a];have HA:=A0 (Rv Aq.o i hb);unfold Ac at HA;clear hb;unfold Ac;go_enter Tryz.func217,Tryz.ntmps217;go_wp2_with fail
  rw[<-An.o];refine HA.o.mono ?_;rintro e w1 ⟨rfl,h1,k1⟩;have A7:=A0 h1.back;have A4:Hid (A3 (dx D X) w w1):=Ah.o.trans (Ag k1);clear h1 k1;go_wp2;refine bodyPost_ret (v:=.tuple #[]) z6ba rfl ?_;exact z3va
 ·rw[if_pos rfl];have HA:=A0 (Rw Aq.o i hb);unfold Ac at HA;clear hb;unfold MS.two;dsimp only;by_cases hz:m.top.n=0
  ·rw[if_pos hz];have tz:(m.top.n==0)=true:=by rw[hz];rfl
   clear hz;unfold Ac;go_enter Tryz.func217,Tryz.ntmps217;go_wp2_with fail
   rw[<-An.o];refine HA.o.mono ?_;rintro e w1 ⟨rfl,h1,k1⟩;have Bp:=h1.Aw;have A7:=A0 h1;have A4:Hid (A3 (dx D X) w w1):=Ah.o.trans (Ag k1);have Ad:=(k1.block _ Am.o).trans Ar.o;have Bt:=A0 Ad;clear n0 n1 n2 n3 n4 n5 n6 n7 ln;obtain⟨n0,n1,n2,n3,n4,n5,n6,n7,ln⟩:=B3 Ad;clear h1 k1 Ad;have HT:=A0 (Ei A7.o);go_wp2_with fail
   refine HT.o.mono ?_;rintro e w2 ⟨rfl,h2,k2⟩;unfold B0;have E2:=h2.Aw;have Aj:=A0 h2;have Aa:Hid (A3 (dx D X) w w2):=A4.o.trans (Ag k2);have Ax:=(k2.block _ Am.o).trans Bt.o;have Ef:=A0 Ax;clear n0 n1 n2 n3 n4 n5 n6 n7 ln;obtain⟨n0,n1,n2,n3,n4,n5,n6,n7,ln⟩:=B3 Ax;clear h2 k2 Ax;have Bn:=A0 (fun(W:World) (hb:Below w2.heap.size w2 W)=>And.intro ((fun hs=>Gw hs 6 i) (Aj.o.below hb).1) (Aa.o.trans (Ag (Aj.o.below hb).2)));unfold Ac at Bn;go_wp2_with fail
   refine((Bn.o _ z50a).1).mono ?_;rintro e w3 ⟨rfl,h3,k3⟩;have Bg:=A0 h3.back;have Ay:Hid (A3 (dx D X) w w3):=(Bn.o _ z50a).2.trans (Ag k3);clear h3 k3;go_wp2;refine bodyPost_ret (v:=.tuple #[]) z6ba rfl ?_;exact z4aa
  ·rw[if_neg hz];have tz:(m.top.n==0)=false:=by rw[beq_eq_false_iff_ne];exact hz
   unfold Ac;go_enter Tryz.func217,Tryz.ntmps217;go_wp2_with fail
   rw[<-An.o];refine HA.o.mono ?_;rintro e w1 ⟨rfl,h1,k1⟩;have Bp:=h1.Aw;have A7:=A0 h1;have A4:Hid (A3 (dx D X) w w1):=Ah.o.trans (Ag k1);have Ad:=(k1.block _ Am.o).trans Ar.o;have Bt:=A0 Ad;clear n0 n1 n2 n3 n4 n5 n6 n7 ln;obtain⟨n0,n1,n2,n3,n4,n5,n6,n7,ln⟩:=B3 Ad;clear h1 k1 Ad;have HT:=A0 (Ei A7.o);go_wp2_with fail
   refine HT.o.mono ?_;rintro e w2 ⟨rfl,h2,k2⟩;unfold B0;have E2:=h2.Aw;have Aj:=A0 h2;have Aa:Hid (A3 (dx D X) w w2):=A4.o.trans (Ag k2);have Ax:=(k2.block _ Am.o).trans Bt.o;have Ef:=A0 Ax;clear n0 n1 n2 n3 n4 n5 n6 n7 ln;obtain⟨n0,n1,n2,n3,n4,n5,n6,n7,ln⟩:=B3 Ax;clear h2 k2 Ax;have Bn:=A0 (fun(W:World) (hb:Below w2.heap.size w2 W)=>And.intro ((fun hs=>Lz hs ( (m.pop.top.n.tmod m.top.n)) z58a) (Aj.o.below hb).1) (Aa.o.trans (Ag (Aj.o.below hb).2)));exact z0aa
theorem A7k(h:C.Ms D X β w m)(i:Af)(ho:i.op=23)(hk:m.top.k≠2):Calls Tryz.prog 218 #[.pointer (some ⟨C.mb,0,none⟩),Ac i] w (MP C D X β w (m.fail 5 i) (.tuple #[])):=by
 obtain⟨w0,An,Aq,Ah,Am,Ar,n0,n1,n2,n3,n4,n5,n6,n7,ln,lb,C2⟩:=h.C6 i;clear h;have t23:((i.op:Int)==23)=true:=by rw[ho];rfl
 have tk:(((m.top.k:Nat):Int) !=2)=true:=by rw[bne_iff_ne];omega
 have vf0:=R2;have HT:=A0 Aq.o.top;clear ho hk;unfold Ac;go_enter Tryz.func218,Tryz.ntmps218;go_wp2_with fail
 rw[<-An.o];refine HT.o.mono ?_;rintro e w1 ⟨rfl,h1,k1⟩;unfold B0;have Bp:=h1.Aw;have A7:=A0 h1;have A4:Hid (A3 (dx D X) w w1):=Ah.o.trans (Ag k1);have Ad:=(k1.block _ Am.o).trans Ar.o;have Bt:=A0 Ad;clear n0 n1 n2 n3 n4 n5 n6 n7 ln;obtain⟨n0,n1,n2,n3,n4,n5,n6,n7,ln⟩:=B3 Ad;clear h1 k1 Ad;have B4:=A0 (fun(W:World) (hb:Below w1.heap.size w1 W)=>And.intro ((fun hs=>Gw hs 5 i) (A7.o.below hb).1) (A4.o.trans (Ag (A7.o.below hb).2)));unfold Ac at B4;go_wp2_with fail
 refine((B4.o _ z50a).1).mono ?_;rintro e w2 ⟨rfl,h2,k2⟩;have Aj:=A0 h2.back;have Aa:Hid (A3 (dx D X) w w2):=(B4.o _ z50a).2.trans (Ag k2);clear h2 k2;go_wp2;refine bodyPost_ret (v:=.tuple #[]) (by simp[results,Tryz.results218,go_sem]) rfl ?_;exact z3ba
theorem A7m(h:C.Ms D X β w m)(i:Af)(ho:i.op=23)(hk:m.top.k=2)(hn:m.vals.length+1<=100000):Calls Tryz.prog 218 #[.pointer (some ⟨C.mb,0,none⟩),Ac i] w (MP C D X β w (m.pop.push (ofInt (wr (-m.top.n)))) (.tuple #[])):=by
 obtain⟨w0,An,Aq,Ah,Am,Ar,n0,n1,n2,n3,n4,n5,n6,n7,ln,lb,C2⟩:=h.C6 i;clear h;have t23:((i.op:Int)==23)=true:=by rw[ho];rfl
 have tk:(((m.top.k:Nat):Int) !=2)=false:=by rw[hk];rfl
 have vf0:=R2;have vf2:=A4i;have HT:=A0 Aq.o.top;clear ho hk;unfold Ac;go_enter Tryz.func218,Tryz.ntmps218;go_wp2_with fail
 rw[<-An.o];refine HT.o.mono ?_;rintro e w1 ⟨rfl,h1,k1⟩;unfold B0;have Bp:=h1.Aw;have A7:=A0 h1;have A4:Hid (A3 (dx D X) w w1):=Ah.o.trans (Ag k1);have Ad:=(k1.block _ Am.o).trans Ar.o;have Bt:=A0 Ad;clear n0 n1 n2 n3 n4 n5 n6 n7 ln;obtain⟨n0,n1,n2,n3,n4,n5,n6,n7,ln⟩:=B3 Ad;clear h1 k1 Ad;have HQ:=A0 A7.o.pop;go_wp2_with fail
 refine HQ.o.mono ?_;rintro e w2 ⟨rfl,h2,k2⟩;unfold B0;have E2:=h2.Aw;have Aj:=A0 h2;have Aa:Hid (A3 (dx D X) w w2):=A4.o.trans (Ag k2);have Ax:=(k2.block _ Am.o).trans Bt.o;have Ef:=A0 Ax;clear n0 n1 n2 n3 n4 n5 n6 n7 ln;obtain⟨n0,n1,n2,n3,n4,n5,n6,n7,ln⟩:=B3 Ax;clear h2 k2 Ax;have Bn:=A0 (fun(W:World) (hb:Below w2.heap.size w2 W)=>And.intro ((fun hs=>Lz hs (wr (-m.top.n)) z58a) (Aj.o.below hb).1) (Aa.o.trans (Ag (Aj.o.below hb).2)));exact z0aa
theorem MC.Ms.Vp(h:C.Ms D X β w m){i:Nat}(hi:i<m.arr.length):∃a c,w.cell? ⟨β i,0,none⟩=some (.slice a m.arr[i].length c)/\β i<w.heap.size/\w.ownsRow 0 225 5 (.slice a m.arr[i].length c) m.arr[i].length (C0 (Cb β) m.arr[i]):=by
 obtain⟨ρ,s,x,fv,ab,lp,hv⟩:=h;have hl:=hv.arr.len;obtain⟨h1,h2,_⟩:=hv.arr.at' i z51a hi;have hn:(ab[i]'z51a).2.1=m.arr[i].length:=(Cg h2).1;have c0:=A2 h1 0 _ rfl;unfold La at c0 h2;rw[hn]at c0 h2;exact⟨_,_,c0,A5 h1,h2⟩
def G3(m:MS)(v:PV):Value:=.tuple #[.int .i64 (((sizeOf' m v).getD 0:Nat):Int),.bool (sizeOf' m v).isSome]
theorem z6da {P:Prop} (h:P:=by simp[results,Tryz.results209,go_sem]):P:=h
theorem Pd(h:C.Ms D X β w m)(v:PV)(hv:Cc m.arr.length v):Calls Tryz.prog 209 #[B0 β v] w fun e w'=>e=.returned (G3 m v)/\Below w.heap.size w w':=by
 have hbl:Below w.heap.size w (w.alloc (.cells #[.int .i64 (v.k:Nat),.bool v.y,.int .i64 v.n,.string ⟨v.t.toArray⟩,.pointer (Bq β v)] 225)):=Below.alloc (Below.refl _ _) (Nat.le_refl _) _;have HB:=A0 hbl;unfold B0;by_cases h3:v.k=3
 ·have e:G3 m v=.tuple #[.int .i64 (v.t.length:Nat),.bool true]:=by unfold G3 sizeOf';rw[if_pos h3];rfl
  rw[e];have t3:((v.k:Int)==3)=true:=by rw[h3];rfl
  clear h3 e hbl;go_enter Tryz.func209,Tryz.ntmps209;go_wp2;exact bodyPost_ret (v:=.tuple #[.int .i64 (v.t.length:Nat),.bool true]) z6da rfl ⟨rfl,HB.o⟩
 ·have t3:((v.k:Int)==3)=false:=by simp;omega
  by_cases h4:v.k=4
  ·have t4:((v.k:Int)==4)=true:=by rw[h4];rfl
   obtain⟨i,hr,hi⟩:∃i,v.r=some i/\i<m.arr.length:=by
    unfold Cc at hv;split at hv
    ·exact absurd h4 hv
    ·rename_i i hr;exact⟨i,hr,hv.2⟩
   have e:G3 m v=.tuple #[.int .i64 (m.arr[i].length:Nat),.bool true]:=by unfold G3 sizeOf';rw[if_neg h3,if_pos h4,hr];simp[List.getElem?_eq_getElem hi]
   have er:Bq β v=some ⟨β i,0,none⟩:=by unfold Bq;rw[hr]
   rw[e,er];rw[er]at HB hbl;obtain⟨a,c,c0,lb,_⟩:=h.Vp hi;have c1:=(World.cell?_of_block (hbl.block _ lb)).trans c0;generalize m.arr[i].length=n at *;clear h3 h4 e hbl hr er hv h c0;go_enter Tryz.func209,Tryz.ntmps209;go_wp2;exact bodyPost_ret (v:=.tuple #[.int .i64 (n:Nat),.bool true]) z6da rfl ⟨rfl,HB.o⟩
  ·have t4:((v.k:Int)==4)=false:=by simp;omega
   have e:G3 m v=.tuple #[.int .i64 0,.bool false]:=by unfold G3 sizeOf';rw[if_neg h3,if_neg h4];rfl
   rw[e];clear h3 h4 e hbl;go_enter Tryz.func209,Tryz.ntmps209;go_wp2;exact bodyPost_ret (v:=.tuple #[.int .i64 0,.bool false]) z6da rfl ⟨rfl,HB.o⟩
theorem A7b(h:C.Ms D X β w m)(i:Af)(hv:Cc m.arr.length m.top)(hs:G3 m.pop m.top=.tuple #[.int .i64 0,.bool false]):Calls Tryz.prog 162 #[.pointer (some ⟨C.mb,0,none⟩),Ac i] w (MP C D X β w (m.pop.fail 5 i) (.tuple #[])):=by
 obtain⟨w0,An,Aq,Ah,Am,Ar,n0,n1,n2,n3,n4,n5,n6,n7,ln,lb,C2⟩:=h.C6 i;clear h;have HP:=A0 Aq.o.pop;have vf0:=R2;unfold Ac;go_enter Tryz.func162,Tryz.ntmps162;go_wp2_with fail
 rw[<-An.o];refine HP.o.mono ?_;rintro e w1 ⟨rfl,h1,k1⟩;have Bp:=h1.Aw;have A7:=A0 h1;have A4:Hid (A3 (dx D X) w w1):=Ah.o.trans (Ag k1);have Ad:=(k1.block _ Am.o).trans Ar.o;clear n0 n1 n2 n3 n4 n5 n6 n7 ln;obtain⟨n0,n1,n2,n3,n4,n5,n6,n7,ln⟩:=B3 Ad;have Bt:=A0 Ad;clear h1 k1 Ad HP;have HSz:=A0 (fun(W:World) (hb:Below w1.heap.size w1 W)=>Pd (A7.o.below hb).1 m.top hv);rw[show G3 m.pop m.top=_ from hs]at HSz;unfold B0 at HSz ⊢;clear hv hs;generalize m.top=u at *;go_wp2_with fail
 refine(HSz.o _ z50a).mono ?_;rintro e w2 ⟨rfl,A8⟩;have Ak:Below w1.heap.size w1 w2:=Below.trans z50a (A8.mono z56a);have Ax:=(Ak.block _ ln).trans Bt.o;clear n0 n1 n2 n3 n4 n5 n6 n7;have lw:=Ak.size;obtain⟨n0,n1,n2,n3,n4,n5,n6,n7,Gd⟩:=B3 Ax;have E2:C.mb<w2.heap.size:=by omega
 have Bn:=A0 (fun(W:World) (hb:Below w2.heap.size w2 W)=>And.intro (Gw (A7.o.below (Ak.trans (hb.mono lw))).1 5 i) (A4.o.trans (Ag (A7.o.below (Ak.trans (hb.mono lw))).2)));unfold Ac at Bn;clear A8 Ak Ax HSz;go_wp2_with fail
 refine((Bn.o _ z50a).1).mono ?_;rintro e w3 ⟨rfl,h3,k3⟩;have Bg:=A0 h3.back;have Ay:Hid (A3 (dx D X) w w3):=(Bn.o _ z50a).2.trans (Ag k3);clear h3 k3;go_wp2;refine bodyPost_ret (v:=.tuple #[]) (by simp[results,Tryz.results162,go_sem]) rfl ?_;exact z4aa
theorem A7c(h:C.Ms D X β w m)(i:Af)(hv:Cc m.arr.length m.top){n:Nat}(hs:G3 m.pop m.top=.tuple #[.int .i64 (n:Nat),.bool true])(hn:m.vals.length<=100000):Calls Tryz.prog 162 #[.pointer (some ⟨C.mb,0,none⟩),Ac i] w (MP C D X β w (m.pop.push (ofInt n)) (.tuple #[])):=by
 obtain⟨w0,An,Aq,Ah,Am,Ar,n0,n1,n2,n3,n4,n5,n6,n7,ln,lb,C2⟩:=h.C6 i;clear h;have HP:=A0 Aq.o.pop;have vf0:=R2;unfold Ac;go_enter Tryz.func162,Tryz.ntmps162;go_wp2_with fail
 rw[<-An.o];refine HP.o.mono ?_;rintro e w1 ⟨rfl,h1,k1⟩;have Bp:=h1.Aw;have A7:=A0 h1;have A4:Hid (A3 (dx D X) w w1):=Ah.o.trans (Ag k1);have Ad:=(k1.block _ Am.o).trans Ar.o;clear n0 n1 n2 n3 n4 n5 n6 n7 ln;obtain⟨n0,n1,n2,n3,n4,n5,n6,n7,ln⟩:=B3 Ad;have Bt:=A0 Ad;clear h1 k1 Ad HP;have HSz:=A0 (fun(W:World) (hb:Below w1.heap.size w1 W)=>Pd (A7.o.below hb).1 m.top hv);rw[show G3 m.pop m.top=_ from hs]at HSz;unfold B0 at HSz ⊢;clear hv hs;generalize m.top=u at *;go_wp2_with fail
 refine(HSz.o _ z50a).mono ?_;rintro e w2 ⟨rfl,A8⟩;have Ak:Below w1.heap.size w1 w2:=Below.trans z50a (A8.mono z56a);have Ax:=(Ak.block _ ln).trans Bt.o;clear n0 n1 n2 n3 n4 n5 n6 n7;have lw:=Ak.size;obtain⟨n0,n1,n2,n3,n4,n5,n6,n7,Gd⟩:=B3 Ax;have E2:C.mb<w2.heap.size:=by omega
 have hl:m.pop.vals.length+1<=100000\/m.vals.length=0:=by simp only[MS.pop,List.length_dropLast];omega
 have hl1:m.pop.vals.length+1<=100000:=by simp only[MS.pop,List.length_dropLast]at hl ⊢;omega
 have Bn:=A0 (fun(W:World) (hb:Below w2.heap.size w2 W)=>And.intro ((A7.o.below (Ak.trans (hb.mono lw))).1.push (ofInt n) (by simp[Cc,ofInt]) hl1) (A4.o.trans (Ag (A7.o.below (Ak.trans (hb.mono lw))).2)));clear A8 Ak Ax HSz hl hl1;go_wp2;go_region_law (first
  | (refine F2 rfl 99 _ _ rfl #[.pointer (some ⟨C.mb,4,none⟩),.agg #[.int .i64 2,.bool false,.int .i64 n,.string ⟨#[]⟩,.pointer none]] z53a Ct.o.1 ?_;rintro e w4 ⟨rfl,h4,k4⟩;refine⟨_,rfl,?_⟩;have Er:=A0 h4.back;have Cn:Hid (A3 (dx D X) w w4):=Ct.o.2.trans (Ag k4);clear h4 k4)
  | (refine F2 rfl 85 _ _ rfl #[.int .i64 n] z53a (U8 n _) ?_;rintro e w3 ⟨rfl,hb3'⟩;refine⟨_,rfl,?_⟩;have Ba:=R9 hb3';have Ct:=A0 (Bn.o w3 Ba);have lb3:=Ba.size;clear Ba hb3'))
 all_goals go_wp2
 all_goals go_end0
 all_goals exact⟨rfl,Er.o,Cn.o⟩
theorem A1r(h:C.Ms D X β w m)(n:Nat)(i:Af)(hc:m.cells+n<=500):Calls Tryz.prog 207 #[.pointer (some ⟨C.mb,0,none⟩),.int .i64 (n:Nat),Ac i] w (MP C D X β w { m with cells:=m.cells+n } (.bool true)):=by
 obtain⟨ρ,s,x,fv,ab,lp,h⟩:=h;obtain⟨c0,c1,c2,c3,c4,c5,c6,c7,c8,c9,c10,c11,c12,c13,fz,lb⟩:=Q2 (show w.heap[C.mb]?=some (.cells #[_,_,_,_,_,_,_,_,_,_,_,_,_,_] _ (0,0)) from h.cell);have HH:=A0 h;have t0:¬(500:Int)-(m.cells:Int)<(n:Int):=by omega
 have HFu:Hid (((m.cells+n:Nat):Int)=(m.cells:Int)+n):=by show _=_;omega
 clear h c0 c1 c2 c3 c4 c5 c6 c7 c8 c9 c11 c12 c13;unfold Ac;go_enter Tryz.func207,Tryz.ntmps207;go_wp2;go_ret;rw[<-HFu.o];have hcl:((w.setCell ⟨C.mb,10,none⟩ (.int .i64 ((m.cells+n:Nat):Nat))).alloc (.cells #[.int .i64 (i.op:Nat),.int .i64 i.arg,.int .i64 (i.line:Nat),.int .i64 (i.v.k:Nat),.bool i.v.y,.int .i64 i.v.n,.string ⟨i.v.t.toArray⟩,.pointer none] 251)).heap[C.mb]?=some (.cells (C.cells s x m.fuel (m.cells+n) m.code m.line) 167 (0,0)):=by
  rw[Below.heap_alloc _ _ _ z55a,(heap_set (j:=10) HH.o.cell (.int .i64 ((m.cells+n:Nat):Nat)))];simp[MC.cells]
 have hkk:∀g,g<w.heap.size->g≠C.mb->((w.setCell ⟨C.mb,10,none⟩ (.int .i64 ((m.cells+n:Nat):Nat))).alloc (.cells #[.int .i64 (i.op:Nat),.int .i64 i.arg,.int .i64 (i.line:Nat),.int .i64 (i.v.k:Nat),.bool i.v.y,.int .i64 i.v.n,.string ⟨i.v.t.toArray⟩,.pointer none] 251)).heap[g]?=w.heap[g]?:=by
  exact z22a
 have hpl:=HH.o.plain (now:=m.now) (fuel:=m.fuel) (cells:=m.cells+n) (code:=m.code) (line:=m.line) (x':=x) HH.o.now hcl hkk z5fa rfl rfl rfl;exact⟨rfl,hpl⟩
theorem A1q(h:C.Ms D X β w m)(n:Nat)(i:Af)(hc:500<m.cells+n)(h5:m.cells<=500):Calls Tryz.prog 207 #[.pointer (some ⟨C.mb,0,none⟩),.int .i64 (n:Nat),Ac i] w (MP C D X β w (m.fail 10 i) (.bool false)):=by
 have Bj:Below w.heap.size w (w.alloc (.cells #[.int .i64 (i.op:Nat),.int .i64 i.arg,.int .i64 (i.line:Nat),.int .i64 (i.v.k:Nat),.bool i.v.y,.int .i64 i.v.n,.string ⟨i.v.t.toArray⟩,.pointer none] 251)):=Below.alloc (Below.refl _ _) (Nat.le_refl _) _;obtain⟨h0,hd0⟩:=h.below Bj;have HF:=A0 (Gw h0 10 i);have Ah:=A0 hd0;obtain⟨ρ,s,x,fv,ab,lp,h⟩:=h;obtain⟨c0,c1,c2,c3,c4,c5,c6,c7,c8,c9,c10,c11,c12,c13,fz,lb⟩:=Q2 (show w.heap[C.mb]?=some (.cells #[_,_,_,_,_,_,_,_,_,_,_,_,_,_] _ (0,0)) from h.cell);have t0:(500:Int)-(m.cells:Int)<(n:Int):=by omega
 have lx:=heap_alloc_new w (.cells #[.int .i64 (i.op:Nat),.int .i64 i.arg,.int .i64 (i.line:Nat),.int .i64 (i.v.k:Nat),.bool i.v.y,.int .i64 i.v.n,.string ⟨i.v.t.toArray⟩,.pointer none] 251);clear h c0 c1 c2 c3 c4 c5 c6 c7 c8 c9 c11 c12 c13 h0 hd0 Bj hc;unfold Ac at *;go_enter Tryz.func207,Tryz.ntmps207;exact z2ja
theorem Sm(w:World)(a b c:Obj):∃W,W=((w.alloc a).alloc b).alloc c/\W.heap[w.heap.size]?=some a/\W.heap[w.heap.size+1]?=some b/\W.heap[w.heap.size+1+1]?=some c/\Below w.heap.size w W/\W.heap.size=w.heap.size+3:=by
 have z0:=alloc_old (o':=c) (alloc_old (o':=b) (heap_alloc_new w a));have z1:=alloc_old (o':=c) (heap_alloc_new (w.alloc a) b);have z2:=heap_alloc_new ((w.alloc a).alloc b) c;have hs:∀(v:World) (o:Obj),(v.alloc o).heap.size=v.heap.size+1:=fun v o=>by simp
 simp only[hs]at z0 z1 z2;exact⟨_,rfl,z0,z1,z2,Below.alloc (Below.alloc (Below.alloc (Below.refl _ _) (Nat.le_refl _) _) z56a _) z54a _,by simp⟩
theorem Jl{w:World}{b:Nat}{a0 a1 a2 a3 a4:Value}{t:TypeId}(h:w.heap[b]?=some (.cells #[a0,a1,a2,a3,a4] t (0,0))):w.cell? ⟨b,0,none⟩=some a0/\w.cell? ⟨b,1,none⟩=some a1/\w.cell? ⟨b,2,none⟩=some a2/\w.cell? ⟨b,3,none⟩=some a3/\w.cell? ⟨b,4,none⟩=some a4/\b<w.heap.size:=
 ⟨A2 h 0 _ rfl,A2 h 1 _ rfl,A2 h 2 _ rfl,A2 h 3 _ rfl,A2 h 4 _ rfl,A5 h⟩
theorem A1o(h:C.Ms D X β w m)(u p:PV)(i:Af)(hv:Cc m.arr.length u){n:Nat}(hs:G3 m u=.tuple #[.int .i64 (n:Nat),.bool true])(hk:p.k=2)(h0:0<=p.n)(h1:p.n<(n:Nat)):Calls Tryz.prog 211 #[.pointer (some ⟨C.mb,0,none⟩),B0 β u,B0 β p,Ac i] w fun e w'=>e=.returned (.bool true)/\Below w.heap.size w w':=by
 obtain⟨W,hW,z0,z1,z2,hbW,hsW⟩:=Sm w (.cells #[.int .i64 (u.k:Nat),.bool u.y,.int .i64 u.n,.string ⟨u.t.toArray⟩,.pointer (Bq β u)] 225) (.cells #[.int .i64 (p.k:Nat),.bool p.y,.int .i64 p.n,.string ⟨p.t.toArray⟩,.pointer (Bq β p)] 225) (.cells #[.int .i64 (i.op:Nat),.int .i64 i.arg,.int .i64 (i.line:Nat),.int .i64 (i.v.k:Nat),.bool i.v.y,.int .i64 i.v.n,.string ⟨i.v.t.toArray⟩,.pointer none] 251);have lb:=h.Aw;have HSz:=A0 (Pd (h.below hbW).1 u hv);rw[show G3 m u=_ from hs]at HSz;have HS:=A0 (fun(V:World) (hb:Below W.heap.size W V)=>(h.below (hbW.trans (hb.mono hbW.size))));have t0:(((p.k:Nat):Int) !=2)=false:=by rw[hk];rfl
 have t1:¬p.n<0:=by omega
 have t2:¬((n:Nat):Int)<=p.n:=by omega
 clear hk;clear hv hs h;have HW:=A0 hW;have HbW:=A0 hbW;unfold B0 Ac at *;clear hW hbW;go_enter Tryz.func211,Tryz.ntmps211;go_wp2_with fail
 rw[<-HW.o];obtain⟨y0,y1,y2,y3,y4,_⟩:=Jl z0;go_wp2_with fail
 refine HSz.o.mono ?_;rintro e w1 ⟨rfl,A1⟩;have q1:=(A1.block _ z51a).trans z1;have q2:=(A1.block _ z51a).trans z2;have E5:=A1.size;obtain⟨s1,s2⟩:=HS.o w1 A1;have Bp:=s1.Aw;obtain⟨p0,p1,p2,p3,p4,lp⟩:=Jl q1;obtain⟨n0,n1,n2,n3,n4,n5,n6,n7,ln⟩:=B3 q2;have A7:=A0 s1;have A4:=A0 s2;have HBl:Hid (Below w.heap.size w w1):=HbW.o.trans (A1.mono HbW.o.size);clear y0 y1 y2 y3 y4 A1 s1 s2 q1 q2 z0 z1 z2 HSz HS;go_wp2;go_ret;exact⟨rfl,HBl.o⟩
theorem z0la {P:Prop} (h:P:=by
  clear hv hs h;have HW:=A0 hW;have HbW:=A0 hbW;unfold B0 Ac at *;clear hW hbW;go_enter Tryz.func211,Tryz.ntmps211;go_wp2_with fail
  rw[<-HW.o];obtain⟨y0,y1,y2,y3,y4,_⟩:=Jl z0;go_wp2_with fail
  refine HSz.o.mono ?_;rintro e w1 ⟨rfl,A1⟩;have q1:=(A1.block _ z51a).trans z1;have q2:=(A1.block _ z51a).trans z2;have E5:=A1.size;obtain⟨s1,s2⟩:=HS.o w1 A1;have Bp:=s1.Aw;obtain⟨p0,p1,p2,p3,p4,lp⟩:=Jl q1;obtain⟨n0,n1,n2,n3,n4,n5,n6,n7,ln⟩:=B3 q2;have A7:=A0 s1;have A4:=A0 s2;clear y0 y1 y2 y3 y4 A1 s1 s2 q1 q2 z0 z1 z2 HSz HS;have HF:=A0 (fun(V:World) (hb:Below w1.heap.size w1 V)=>And.intro (Gw (A7.o.below hb).1 5 i) (A4.o.trans (A7.o.below hb).2));unfold Ac at HF;go_wp2_with fail
  refine((HF.o _ z50a).1).mono ?_;rintro e w2 ⟨rfl,h2,k2⟩;have Aj:=A0 h2;have Aa:Hid (A3 (dx D X) w w2):=(HF.o _ z50a).2.trans k2;clear h2 k2;go_wp2;go_ret;exact⟨rfl,Aj.o,Aa.o⟩):P:=h
theorem A1p(h:C.Ms D X β w m)(u p:PV)(i:Af)(hv:Cc m.arr.length u){n:Nat}(hs:G3 m u=.tuple #[.int .i64 (n:Nat),.bool true])(hk:p.k≠2):Calls Tryz.prog 211 #[.pointer (some ⟨C.mb,0,none⟩),B0 β u,B0 β p,Ac i] w (MP C D X β w (m.fail 5 i) (.bool false)):=by
 obtain⟨W,hW,z0,z1,z2,hbW,hsW⟩:=Sm w (.cells #[.int .i64 (u.k:Nat),.bool u.y,.int .i64 u.n,.string ⟨u.t.toArray⟩,.pointer (Bq β u)] 225) (.cells #[.int .i64 (p.k:Nat),.bool p.y,.int .i64 p.n,.string ⟨p.t.toArray⟩,.pointer (Bq β p)] 225) (.cells #[.int .i64 (i.op:Nat),.int .i64 i.arg,.int .i64 (i.line:Nat),.int .i64 (i.v.k:Nat),.bool i.v.y,.int .i64 i.v.n,.string ⟨i.v.t.toArray⟩,.pointer none] 251);have lb:=h.Aw;have HSz:=A0 (Pd (h.below hbW).1 u hv);rw[show G3 m u=_ from hs]at HSz;have HS:=A0 (fun(V:World) (hb:Below W.heap.size W V)=>(h.below (hbW.trans (hb.mono hbW.size))));have t0:(((p.k:Nat):Int) !=2)=true:=by rw[bne_iff_ne];omega
 clear hk;exact z0la
theorem A1n(h:C.Ms D X β w m)(u p:PV)(i:Af)(hv:Cc m.arr.length u)(hs:G3 m u=.tuple #[.int .i64 0,.bool false]):Calls Tryz.prog 211 #[.pointer (some ⟨C.mb,0,none⟩),B0 β u,B0 β p,Ac i] w (MP C D X β w (m.fail 5 i) (.bool false)):=by
 obtain⟨W,hW,z0,z1,z2,hbW,hsW⟩:=Sm w (.cells #[.int .i64 (u.k:Nat),.bool u.y,.int .i64 u.n,.string ⟨u.t.toArray⟩,.pointer (Bq β u)] 225) (.cells #[.int .i64 (p.k:Nat),.bool p.y,.int .i64 p.n,.string ⟨p.t.toArray⟩,.pointer (Bq β p)] 225) (.cells #[.int .i64 (i.op:Nat),.int .i64 i.arg,.int .i64 (i.line:Nat),.int .i64 (i.v.k:Nat),.bool i.v.y,.int .i64 i.v.n,.string ⟨i.v.t.toArray⟩,.pointer none] 251);have lb:=h.Aw;have HSz:=A0 (Pd (h.below hbW).1 u hv);rw[show G3 m u=_ from hs]at HSz;have HS:=A0 (fun(V:World) (hb:Below W.heap.size W V)=>(h.below (hbW.trans (hb.mono hbW.size))));exact z0la
theorem z0ba {P:Prop} (h:P:=by
  obtain⟨W,hW,z0,z1,z2,hbW,hsW⟩:=Sm w (.cells #[.int .i64 (u.k:Nat),.bool u.y,.int .i64 u.n,.string ⟨u.t.toArray⟩,.pointer (Bq β u)] 225) (.cells #[.int .i64 (p.k:Nat),.bool p.y,.int .i64 p.n,.string ⟨p.t.toArray⟩,.pointer (Bq β p)] 225) (.cells #[.int .i64 (i.op:Nat),.int .i64 i.arg,.int .i64 (i.line:Nat),.int .i64 (i.v.k:Nat),.bool i.v.y,.int .i64 i.v.n,.string ⟨i.v.t.toArray⟩,.pointer none] 251);have lb:=h.Aw;have HSz:=A0 (Pd (h.below hbW).1 u hv);rw[show G3 m u=_ from hs]at HSz;have HS:=A0 (fun(V:World) (hb:Below W.heap.size W V)=>(h.below (hbW.trans (hb.mono hbW.size))));have t0:(((p.k:Nat):Int) !=2)=false:=by rw[hk];rfl
  clear hk;clear hv hs h;have HW:=A0 hW;have HbW:=A0 hbW;unfold B0 Ac at *;clear hW hbW;go_enter Tryz.func211,Tryz.ntmps211;go_wp2_with fail
  rw[<-HW.o];obtain⟨y0,y1,y2,y3,y4,_⟩:=Jl z0;go_wp2_with fail
  refine HSz.o.mono ?_;rintro e w1 ⟨rfl,A1⟩;have q1:=(A1.block _ z51a).trans z1;have q2:=(A1.block _ z51a).trans z2;have E5:=A1.size;obtain⟨s1,s2⟩:=HS.o w1 A1;have Bp:=s1.Aw;obtain⟨p0,p1,p2,p3,p4,lp⟩:=Jl q1;obtain⟨n0,n1,n2,n3,n4,n5,n6,n7,ln⟩:=B3 q2;have A7:=A0 s1;have A4:=A0 s2;clear y0 y1 y2 y3 y4 A1 s1 s2 q1 q2 z0 z1 z2 HSz HS;have HF:=A0 (fun(V:World) (hb:Below w1.heap.size w1 V)=>And.intro (Gw (A7.o.below hb).1 7 i) (A4.o.trans (A7.o.below hb).2));unfold Ac at HF;go_wp2_with fail
  refine((HF.o _ z50a).1).mono ?_;rintro e w2 ⟨rfl,h2,k2⟩;have Aj:=A0 h2;have Aa:Hid (A3 (dx D X) w w2):=(HF.o _ z50a).2.trans k2;clear h2 k2;go_wp2;go_ret;exact⟨rfl,Aj.o,Aa.o⟩):P:=h
theorem A1m(h:C.Ms D X β w m)(u p:PV)(i:Af)(hv:Cc m.arr.length u){n:Nat}(hs:G3 m u=.tuple #[.int .i64 (n:Nat),.bool true])(hk:p.k=2)(h1:p.n<0):Calls Tryz.prog 211 #[.pointer (some ⟨C.mb,0,none⟩),B0 β u,B0 β p,Ac i] w (MP C D X β w (m.fail 7 i) (.bool false)):=by
 exact z0ba
theorem A1l(h:C.Ms D X β w m)(u p:PV)(i:Af)(hv:Cc m.arr.length u){n:Nat}(hs:G3 m u=.tuple #[.int .i64 (n:Nat),.bool true])(hk:p.k=2)(h0:¬p.n<0)(h1:((n:Nat):Int)<=p.n):Calls Tryz.prog 211 #[.pointer (some ⟨C.mb,0,none⟩),B0 β u,B0 β p,Ac i] w (MP C D X β w (m.fail 7 i) (.bool false)):=by
 exact z0ba
end
end Go.Proofs.YtjdlndhfaaolaaaGreatDoor
