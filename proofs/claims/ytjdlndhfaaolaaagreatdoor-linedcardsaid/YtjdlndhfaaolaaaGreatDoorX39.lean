import Derived.Test.YtjdlndhfaaolaaaGreatDoorX38
set_option maxHeartbeats 20000000
namespace Go.Proofs.YtjdlndhfaaolaaaGreatDoor
section
set_option maxRecDepth 100000
open Go.RowKit
open Go.Deep (BT)
variable {C:MC} {D X:Nat->Prop} {w w':World} {m:MS} {β:Nat->Nat}
def Xn(X:Nat->Prop)(w w1:World):Nat->Prop:=fun g=>Cu X w g\/(w1.heap.size<=g/\g<w1.heap.size+1)
theorem MC.Ms.j8{w1:World}(h:C.Ms D (Xn X w w1) β w' m):C.Ms D X β w' m:=h.less (fun _ h=>.inl (.inl h)) (fun _ _ _=>rfl) rfl
theorem Oc{w1 w2 w3:World}(h:A2 (dx D (Xn X w w1)) w2 w3):A2 (dx D X) w2 w3:=h.weak (fun _ hg=>hg.imp id (fun q=>.inl (.inl q)))
theorem MC.Ms.A1h(h:C.Ms D (Cu X w) β w' m)(o:Obj):C.Ms D (Xn X w w') β (w'.alloc o) m/\A2 (dx D (Cu X w)) w' (w'.alloc o):=by
 have hb:Below w'.heap.size w' (w'.alloc o):=Below.alloc (Below.refl _ _) (Nat.le_refl _) _;have:=h.more hb;rw[World.size_alloc]at this;exact⟨this,(h.below hb).2⟩
theorem z0oa {P:Prop} (h:P:=by
  (try unfold B3 at HP);clear h2 k2 I3;go_wp2;refine Jr 4 z4va z4va ?_;simp only[List.take_succ_cons,List.take_zero,List.drop_succ_cons,List.drop_zero];iterate 4 (refine F4 (fun K' hK'=>?_);go_simp;refine hK' _ ?_;clear hK' K')
  refine Jq ?_;go_wp2_with fail
  refine HP.o.mono ?_;rintro e w3 ⟨rfl,h3,k3⟩;have lb3:=h3.At;have Ay:Hid (A2 (dx D X) w w3):=Aa.o.trans ((Dk _ w2 1).trans (Oc k3));have HF:=A0 h3.A10;clear h3 k3;go_wp2_with fail
  refine HF.o.mono ?_;rintro e w4 ⟨y,rfl,hy,h4,k4⟩;obtain⟨x4,_,g6,g7,g8,gz⟩:=h4.U1;have lb4:=h4.At;obtain⟨s1,s2⟩:=h4.Sd y _ hy;have Hs:=A0 s1.j8;have Ek:Hid (A2 (dx D X) w _):=Ay.o.trans ((Oc k4).trans (Oc s2));clear h4 k4 s1 s2 hy;unfold Rl;go_wp2;go_end0;exact⟨rfl,Hs.o,Ek.o⟩):P:=h
theorem A7y(h:C.Ms D X β w m)(i:Af)(ho:i.op=44)(hv:Bs m.arr.length m.top)(hn:m.vals.length+1<=90000000000):Calls Tryz.prog 160 #[.pointer (some ⟨C.mb,0,none⟩),Ag i] w (MP C D X β w ({ (m.pop.cut m.now.base).push m.top with now:=m.calls.getLastD ⟨[],0,0⟩,calls:=m.calls.dropLast }) (.tuple #[])):=by
 obtain⟨w0,Ap,Aq,Ae,Ao,As,n0,n1,n2,n3,n4,n5,n6,n7,ln,lb,C9⟩:=h.Ca i;clear h;have t43:((i.op:Int)==43)=false:=by rw[ho];rfl
 have t44:((i.op:Int)==44)=true:=by rw[ho];rfl
 have HT:=A0 Aq.o.pop;have cb:=Aq.o.base;generalize hu:m.top=u at *;have HV:=A0 hv;unfold B3 at HT;clear ho hv hu;unfold Ag;go_enter Tryz.func160,Tryz.ntmps160;go_wp2_with fail
 rw[←Ap.o];refine HT.o.mono ?_;rintro e w1 ⟨rfl,h1,k1⟩;have Bk:=h1.At;have A8:=A0 h1;have A4:Hid (A2 (dx D X) w w1):=Ae.o.trans (Ac k1);have Ad:=(k1.block _ Ao.o).trans As.o;have C1:=A0 Ad;clear n0 n1 n2 n3 n4 n5 n6 n7 ln;obtain⟨n0,n1,n2,n3,n4,n5,n6,n7,ln⟩:=Bj Ad;clear h1 k1 Ad;have cb1:=A8.o.base;obtain⟨wa,hwa⟩:∃wa,wa=w1.alloc (.cells #[.int .i64 (u.k:Nat),.bool u.y,.int .i64 u.n,.string ⟨u.t.toArray⟩,.pointer (B5 β u)] 225):=⟨_,rfl⟩;have hka:=A8.o.A1h (.cells #[.int .i64 (u.k:Nat),.bool u.y,.int .i64 u.n,.string ⟨u.t.toArray⟩,.pointer (B5 β u)] 225);have hqa:=heap_alloc_new w1 (.cells #[.int .i64 (u.k:Nat),.bool u.y,.int .i64 u.n,.string ⟨u.t.toArray⟩,.pointer (B5 β u)] 225);rw[←hwa]at hka hqa;have HBa:Hid (A2 (dx D X) w wa):=A4.o.trans (Ac hka.2);have cba:=hka.1.base;have lba:=hka.1.At;have HC:=A0 (hka.1.Hy.cut m.now.base);have HQa:=A0 hqa;have HWa:=A0 hwa;clear hka hqa hwa;go_wp2;rw[←HWa.o];refine Jr 8 z4va z4va ?_;simp only[List.take_succ_cons,List.take_zero,List.drop_succ_cons,List.drop_zero];iterate 8 (refine F4 (fun K' hK'=>?_);go_simp;refine hK' _ ?_;clear hK' K')
 refine Jq ?_;go_wp2_with fail
 refine HC.o.mono ?_;rintro e w2 ⟨rfl,h2,k2⟩;have I3:=(k2.block _ (.inr (.inr ⟨Nat.le_refl _,by omega⟩))).trans HQa.o;obtain⟨p0,p1,p2,p3,p4,fp,lp⟩:=Nj I3;have Eb:=h2.At;have Aa:Hid (A2 (dx D X) w w2):=HBa.o.trans ((Dk _ wa 1).trans (Oc k2));have HP:=A0 (h2.Hy.push u HV.o (by have:=hn;simp[MS.cut,MS.pop];split <;> simp <;> omega));exact z0oa
theorem A7q(h:C.Ms D X β w m)(i:Af)(ho:i.op=43)(hn:m.vals.length+1<=90000000000):Calls Tryz.prog 160 #[.pointer (some ⟨C.mb,0,none⟩),Ag i] w (MP C D X β w ({ (m.cut m.now.base).push Bp with now:=m.calls.getLastD ⟨[],0,0⟩,calls:=m.calls.dropLast }) (.tuple #[])):=by
 obtain⟨w0,Ap,Aq,Ae,Ao,As,n0,n1,n2,n3,n4,n5,n6,n7,ln,lb,C9⟩:=h.Ca i;clear h;have t43:((i.op:Int)==43)=true:=by rw[ho];rfl
 have HP0:=A0 (Aq.o.push Bp (by simp[Bs,Bp]) hn);unfold B3 at HP0;clear ho;unfold Ag;go_enter Tryz.func160,Tryz.ntmps160;go_wp2_with fail
 rw[←Ap.o];refine HP0.o.mono ?_;rintro e w1 ⟨rfl,h1,k1⟩;have Bk:=h1.At;have A8:=A0 h1;have A4:Hid (A2 (dx D X) w w1):=Ae.o.trans (Ac k1);have Ad:=(k1.block _ Ao.o).trans As.o;have C1:=A0 Ad;clear n0 n1 n2 n3 n4 n5 n6 n7 ln;obtain⟨n0,n1,n2,n3,n4,n5,n6,n7,ln⟩:=Bj Ad;clear h1 k1 Ad;have hpp:=A8.o.pop;have e1:(m.push Bp).pop=m:=by simp[MS.push,MS.pop]
 have e2:(m.push Bp).top=Bp:=by simp[MS.push,MS.top]
 rw[e1,e2]at hpp;have HT:=A0 hpp;unfold B3 at HT;clear hpp e1 e2;go_wp2_with fail
 refine HT.o.mono ?_;rintro e w1 ⟨rfl,h1,k1⟩;have Bk:=h1.At;have A8:=A0 h1;have A4:Hid (A2 (dx D X) w w1):=A4.o.trans (Ac k1);have Ad:=(k1.block _ Ao.o).trans C1.o;have C1:=A0 Ad;clear n0 n1 n2 n3 n4 n5 n6 n7 ln;obtain⟨n0,n1,n2,n3,n4,n5,n6,n7,ln⟩:=Bj Ad;clear h1 k1 Ad;have cb1:=A8.o.base;obtain⟨wa,hwa⟩:∃wa,wa=w1.alloc (.cells #[.int .i64 (Bp.k:Nat),.bool Bp.y,.int .i64 Bp.n,.string ⟨Bp.t.toArray⟩,.pointer (B5 β Bp)] 225):=⟨_,rfl⟩;have hka:=A8.o.A1h (.cells #[.int .i64 (Bp.k:Nat),.bool Bp.y,.int .i64 Bp.n,.string ⟨Bp.t.toArray⟩,.pointer (B5 β Bp)] 225);have hqa:=heap_alloc_new w1 (.cells #[.int .i64 (Bp.k:Nat),.bool Bp.y,.int .i64 Bp.n,.string ⟨Bp.t.toArray⟩,.pointer (B5 β Bp)] 225);rw[←hwa]at hka hqa;have HBa:Hid (A2 (dx D X) w wa):=A4.o.trans (Ac hka.2);have cba:=hka.1.base;have lba:=hka.1.At;have HC:=A0 (hka.1.Hy.cut m.now.base);have HQa:=A0 hqa;have HWa:=A0 hwa;clear hka hqa hwa;go_wp2;rw[←HWa.o];refine Jr 8 z4va z4va ?_;simp only[List.take_succ_cons,List.take_zero,List.drop_succ_cons,List.drop_zero];iterate 8 (refine F4 (fun K' hK'=>?_);go_simp;refine hK' _ ?_;clear hK' K')
 refine Jq ?_;go_wp2_with fail
 refine HC.o.mono ?_;rintro e w2 ⟨rfl,h2,k2⟩;have I3:=(k2.block _ (.inr (.inr ⟨Nat.le_refl _,by omega⟩))).trans HQa.o;obtain⟨p0,p1,p2,p3,p4,fp,lp⟩:=Nj I3;have Eb:=h2.At;have Aa:Hid (A2 (dx D X) w w2):=HBa.o.trans ((Dk _ wa 1).trans (Oc k2));have HP:=A0 (h2.Hy.push Bp (by simp[Bs,Bp]) (by simp only[MS.cut];split;exact hn;simp only[List.length_take];omega));exact z0oa
theorem A82(h:C.Ms D X β w m)(i:Af)(ho:i.op=7)(hy:m.top.y=true)(hf:m.fuel=0):Calls Tryz.prog 155 #[.pointer (some ⟨C.mb,0,none⟩),Ag i] w (MP C D X β w (m.pop.fail 8 i) (.tuple #[])):=by
 obtain⟨w0,Ap,Aq,Ae,Ao,As,n0,n1,n2,n3,n4,n5,n6,n7,ln,lb,C9⟩:=h.Ca i;clear h;have HT:=A0 Aq.o.pop;have t7:((i.op:Int)==7)=true:=by rw[ho];rfl
 unfold B3 at HT;clear ho;unfold Ag;go_enter Tryz.func155,Tryz.ntmps155;go_wp2_with fail
 rw[←Ap.o];refine HT.o.mono ?_;rintro e w1 ⟨rfl,h1,k1⟩;have Bk:=h1.At;have A8:=A0 h1;have A4:Hid (A2 (dx D X) w w1):=Ae.o.trans (Ac k1);have Ad:=(k1.block _ Ao.o).trans As.o;have C1:=A0 Ad;clear n0 n1 n2 n3 n4 n5 n6 n7 ln;obtain⟨n0,n1,n2,n3,n4,n5,n6,n7,ln⟩:=Bj Ad;clear h1 k1 Ad;have HSp:=A0 (fun(W:World) (hb:Below w1.heap.size w1 W)=>And.intro (A23 (A8.o.below hb).1 i hf) (A4.o.trans (Ac (A8.o.below hb).2)));unfold Ag at HSp;have hbi2:∀(W:World) (hb:Below w1.heap.size w1 W),W.heap[w.heap.size]?=w1.heap[w.heap.size]?:=fun W hb=>hb.block _ (A6 C1.o);have HBI:=A0 hbi2;clear hbi2;go_wp2_with fail
 refine((HSp.o _ z4ua).1).mono ?_;rintro e w2 ⟨rfl,h2,k2⟩;have Eb:=h2.At;have Ah:=A0 h2;have Aa:Hid (A2 (dx D X) w w2):=(HSp.o _ z4ua).2.trans (Ac k2);have Bl:=(k2.block _ Ao.o).trans ((HBI.o _ z4ua).trans C1.o);have I8:=A0 Bl;clear h2 k2 Bl;have HSb:=A0 Ah.o.back;go_wp2;refine bodyPost_ret (v:=.tuple #[]) (by simp[results,Tryz.results155,go_sem]) rfl ?_;exact⟨rfl,HSb.o,Aa.o⟩
theorem z0ba {P:Prop} (h:P:=by
  go_wp2_with fail
  rw[←Ap.o];refine HT.o.mono ?_;rintro e w1 ⟨rfl,h1,k1⟩;have Bk:=h1.At;have A8:=A0 h1;have A4:Hid (A2 (dx D X) w w1):=Ae.o.trans (Ac k1);have Ad:=(k1.block _ Ao.o).trans As.o;have C1:=A0 Ad;clear n0 n1 n2 n3 n4 n5 n6 n7 ln;obtain⟨n0,n1,n2,n3,n4,n5,n6,n7,ln⟩:=Bj Ad;clear h1 k1 Ad;obtain⟨⟨v7,c7⟩,f7⟩:=A8.o.U7;obtain⟨s1,s2⟩:=A8.o.Se i.arg ha;have HQ:=A0 (fun(W:World) (hb:Below (w1.setCell ⟨C.mb,7,none⟩ (.int .i64 i.arg)).heap.size (w1.setCell ⟨C.mb,7,none⟩ (.int .i64 i.arg)) W)=>And.intro (s1.below hb).1.back (A4.o.trans ((Ac s2).trans (Ac (s1.below hb).2))));clear s1 s2;go_wp2;go_end0;exact⟨rfl,HQ.o _ (Below.alloc (Below.refl _ _) (Nat.le_refl _) _)⟩):P:=h
theorem A81(h:C.Ms D X β w m)(i:Af)(ho:i.op=7)(hk:m.top.k=1)(hy:m.top.y=false)(ha:0<=i.arg):Calls Tryz.prog 155 #[.pointer (some ⟨C.mb,0,none⟩),Ag i] w (MP C D X β w (m.pop.jump i.arg) (.tuple #[])):=by
 obtain⟨w0,Ap,Aq,Ae,Ao,As,n0,n1,n2,n3,n4,n5,n6,n7,ln,lb,C9⟩:=h.Ca i;clear h;have HT:=A0 Aq.o.pop;have t7:((i.op:Int)==7)=true:=by rw[ho];rfl
 have tk:(((m.top.k:Nat):Int) !=1)=false:=by rw[hk];rfl
 unfold B3 at HT;clear ho hk;unfold Ag;go_enter Tryz.func155,Tryz.ntmps155;exact z0ba
theorem z0ka {P:Prop} (h:P:=by
  go_wp2_with fail
  rw[←Ap.o];refine HT.o.mono ?_;rintro e w1 ⟨rfl,h1,k1⟩;have Bk:=h1.At;have A8:=A0 h1;have A4:Hid (A2 (dx D X) w w1):=Ae.o.trans (Ac k1);have Ad:=(k1.block _ Ao.o).trans As.o;have C1:=A0 Ad;clear n0 n1 n2 n3 n4 n5 n6 n7 ln;obtain⟨n0,n1,n2,n3,n4,n5,n6,n7,ln⟩:=Bj Ad;clear h1 k1 Ad;have B4:=A0 (fun(W:World) (hb:Below w1.heap.size w1 W)=>And.intro ((fun hs=>I6 hs 5 i) (A8.o.below hb).1) (A4.o.trans (Ac (A8.o.below hb).2)));unfold Ag at B4;go_wp2_with fail
  refine((B4.o _ z4ua).1).mono ?_;rintro e w2 ⟨rfl,h2,k2⟩;have Ah:=A0 h2.back;have Aa:Hid (A2 (dx D X) w w2):=(B4.o _ z4ua).2.trans (Ac k2);clear h2 k2;go_wp2;go_end0;exact⟨rfl,Ah.o,Aa.o⟩):P:=h
theorem A7z(h:C.Ms D X β w m)(i:Af)(ho:i.op=7)(hk:m.top.k≠1)(hy:m.top.y=false):Calls Tryz.prog 155 #[.pointer (some ⟨C.mb,0,none⟩),Ag i] w (MP C D X β w (m.pop.fail 5 i) (.tuple #[])):=by
 obtain⟨w0,Ap,Aq,Ae,Ao,As,n0,n1,n2,n3,n4,n5,n6,n7,ln,lb,C9⟩:=h.Ca i;clear h;have HT:=A0 Aq.o.pop;have t7:((i.op:Int)==7)=true:=by rw[ho];rfl
 have tk:(((m.top.k:Nat):Int) !=1)=true:=by rw[bne_iff_ne];omega
 unfold B3 at HT;clear ho hk;unfold Ag;go_enter Tryz.func155,Tryz.ntmps155;exact z0ka
theorem MC.Ms.A1g(h:C.Ms D (Cu X w) β w' m)(o:Obj):C.Ms D (fun g=>Cu X w g\/(w'.heap.size<=g/\g<w'.heap.size+1)) β (w'.alloc o) m:=by
 have hb:Below w'.heap.size w' (w'.alloc o):=Below.alloc (Below.refl _ _) (Nat.le_refl _) _;have:=h.more hb;rw[World.size_alloc]at this;exact this
theorem A83(h:C.Ms D X β w m)(i:Af)(ho:i.op=7)(hk:m.top.k=1)(hy:m.top.y=true)(hf:m.fuel≠0)(hf2:m.fuel<=100000):Calls Tryz.prog 155 #[.pointer (some ⟨C.mb,0,none⟩),Ag i] w (MP C D X β w ({ m.pop with fuel:=m.fuel-1 }) (.tuple #[])):=by
 obtain⟨w0,Ap,Aq,Ae,Ao,As,n0,n1,n2,n3,n4,n5,n6,n7,ln,lb,C9⟩:=h.Ca i;clear h;have HT:=A0 Aq.o.pop;have t7:((i.op:Int)==7)=true:=by rw[ho];rfl
 have tk:(((m.top.k:Nat):Int) !=1)=false:=by rw[hk];rfl
 unfold B3 at HT;clear ho hk;unfold Ag;go_enter Tryz.func155,Tryz.ntmps155;go_wp2_with fail
 rw[←Ap.o];refine HT.o.mono ?_;rintro e w1 ⟨rfl,h1,k1⟩;have Bk:=h1.At;have A8:=A0 h1;have A4:Hid (A2 (dx D X) w w1):=Ae.o.trans (Ac k1);have Ad:=(k1.block _ Ao.o).trans As.o;have C1:=A0 Ad;clear n0 n1 n2 n3 n4 n5 n6 n7 ln;obtain⟨n0,n1,n2,n3,n4,n5,n6,n7,ln⟩:=Bj Ad;clear h1 k1 Ad;have Iy:=A0 (A8.o.A1g (.cells #[.int .i64 (m.top.k:Nat),.bool true,.int .i64 m.top.n,.string ⟨m.top.t.toArray⟩,.pointer (B5 β m.top)] 225));have hbz:Below w1.heap.size w1 (w1.alloc (.cells #[.int .i64 (m.top.k:Nat),.bool true,.int .i64 m.top.n,.string ⟨m.top.t.toArray⟩,.pointer (B5 β m.top)] 225)):=Below.alloc (Below.refl _ _) (Nat.le_refl _) _;have HB1a:Hid (A2 (dx D X) w (w1.alloc (.cells #[.int .i64 (m.top.k:Nat),.bool true,.int .i64 m.top.n,.string ⟨m.top.t.toArray⟩,.pointer (B5 β m.top)] 225))):=A4.o.trans (Ac (A8.o.below hbz).2);have HI1a:=A0 ((hbz.block _ (A6 C1.o)).trans C1.o);have HV1:=A0 (heap_alloc_new w1 (.cells #[.int .i64 (m.top.k:Nat),.bool true,.int .i64 m.top.n,.string ⟨m.top.t.toArray⟩,.pointer (B5 β m.top)] 225));clear hbz;have HSp:=A0 (Tx Iy.o i hf hf2);unfold Ag at HSp;go_wp2_with fail
 refine HSp.o.mono ?_;rintro e w2 ⟨rfl,h2,k2⟩;have Eb:=h2.At;have Ah:Hid (C.Ms D (Cu X w) β w2 { m.pop with fuel:=m.fuel-1 }):=h2.less (fun _ h=>.inl h) (fun _ _ _=>rfl) rfl;have Aa:Hid (A2 (dx D X) w w2):=HB1a.o.trans (k2.weak (fun _ hg=>hg.imp id (fun q=>.inl (.inl q))));have Bl:=(k2.block w.heap.size (.inr (.inl (.inr ⟨Nat.le_refl _,by omega⟩)))).trans HI1a.o;have Fk:=(k2.block w1.heap.size (.inr (.inr ⟨Nat.le_refl _,by omega⟩))).trans HV1.o;clear n0 n1 n2 n3 n4 n5 n6 n7 ln;obtain⟨n0,n1,n2,n3,n4,n5,n6,n7,ln⟩:=Bj Bl;obtain⟨p0,p1,p2,p3,p4,fp,lp⟩:=Nj Fk;clear h2 k2 Bl Fk;have HSb:=A0 Ah.o.back;go_wp2;go_end0;exact⟨rfl,HSb.o,Aa.o⟩
theorem z16a {P:Prop} (h:P:=by
  (try unfold Ag at Bc);go_wp2_with fail
  refine((Bc.o _ z4ua).1).mono ?_;rintro e w3 ⟨rfl,h3,k3⟩;have Be:=A0 h3.back;have Ay:Hid (A2 (dx D X) w w3):=(Bc.o _ z4ua).2.trans (Ac k3);clear h3 k3;go_wp2;go_end0;exact⟨rfl,Be.o,Ay.o⟩):P:=h
theorem A80(h:C.Ms D X β w m)(i:Af)(ho:i.op=7)(hk:m.top.k≠1)(hy:m.top.y=true)(hf:m.fuel≠0)(hf2:m.fuel<=100000):Calls Tryz.prog 155 #[.pointer (some ⟨C.mb,0,none⟩),Ag i] w (MP C D X β w ({ m.pop with fuel:=m.fuel-1 }.fail 5 i) (.tuple #[])):=by
 obtain⟨w0,Ap,Aq,Ae,Ao,As,n0,n1,n2,n3,n4,n5,n6,n7,ln,lb,C9⟩:=h.Ca i;clear h;have HT:=A0 Aq.o.pop;have t7:((i.op:Int)==7)=true:=by rw[ho];rfl
 have tk:(((m.top.k:Nat):Int) !=1)=true:=by rw[bne_iff_ne];omega
 unfold B3 at HT;clear ho hk;unfold Ag;go_enter Tryz.func155,Tryz.ntmps155;go_wp2_with fail
 rw[←Ap.o];refine HT.o.mono ?_;rintro e w1 ⟨rfl,h1,k1⟩;have Bk:=h1.At;have A8:=A0 h1;have A4:Hid (A2 (dx D X) w w1):=Ae.o.trans (Ac k1);have Ad:=(k1.block _ Ao.o).trans As.o;have C1:=A0 Ad;clear n0 n1 n2 n3 n4 n5 n6 n7 ln;obtain⟨n0,n1,n2,n3,n4,n5,n6,n7,ln⟩:=Bj Ad;clear h1 k1 Ad;have Iy:=A0 (A8.o.A1g (.cells #[.int .i64 (m.top.k:Nat),.bool true,.int .i64 m.top.n,.string ⟨m.top.t.toArray⟩,.pointer (B5 β m.top)] 225));have hbz:Below w1.heap.size w1 (w1.alloc (.cells #[.int .i64 (m.top.k:Nat),.bool true,.int .i64 m.top.n,.string ⟨m.top.t.toArray⟩,.pointer (B5 β m.top)] 225)):=Below.alloc (Below.refl _ _) (Nat.le_refl _) _;have HB1a:Hid (A2 (dx D X) w (w1.alloc (.cells #[.int .i64 (m.top.k:Nat),.bool true,.int .i64 m.top.n,.string ⟨m.top.t.toArray⟩,.pointer (B5 β m.top)] 225))):=A4.o.trans (Ac (A8.o.below hbz).2);have HI1a:=A0 ((hbz.block _ (A6 C1.o)).trans C1.o);have HV1:=A0 (heap_alloc_new w1 (.cells #[.int .i64 (m.top.k:Nat),.bool true,.int .i64 m.top.n,.string ⟨m.top.t.toArray⟩,.pointer (B5 β m.top)] 225));clear hbz;have HSp:=A0 (Tx Iy.o i hf hf2);unfold Ag at HSp;go_wp2_with fail
 refine HSp.o.mono ?_;rintro e w2 ⟨rfl,h2,k2⟩;have Eb:=h2.At;have Ah:Hid (C.Ms D (Cu X w) β w2 { m.pop with fuel:=m.fuel-1 }):=h2.less (fun _ h=>.inl h) (fun _ _ _=>rfl) rfl;have Aa:Hid (A2 (dx D X) w w2):=HB1a.o.trans (k2.weak (fun _ hg=>hg.imp id (fun q=>.inl (.inl q))));have Bl:=(k2.block w.heap.size (.inr (.inl (.inr ⟨Nat.le_refl _,by omega⟩)))).trans HI1a.o;have Fk:=(k2.block w1.heap.size (.inr (.inr ⟨Nat.le_refl _,by omega⟩))).trans HV1.o;clear n0 n1 n2 n3 n4 n5 n6 n7 ln;obtain⟨n0,n1,n2,n3,n4,n5,n6,n7,ln⟩:=Bj Bl;obtain⟨p0,p1,p2,p3,p4,fp,lp⟩:=Nj Fk;clear h2 k2 Bl Fk;have Bc:=A0 (fun(W:World) (hb:Below w2.heap.size w2 W)=>And.intro ((fun hs=>I6 hs 5 i) (Ah.o.below hb).1) (Aa.o.trans (Ac (Ah.o.below hb).2)));exact z16a
theorem j4(h:C.Ms D X β w m)(i:Af)(hk:m.top.k≠1):Calls Tryz.prog 156 #[.pointer (some ⟨C.mb,0,none⟩),Ag i] w (MP C D X β w (m.fail 5 i) (.tuple #[])):=by
 obtain⟨w0,Ap,Aq,Ae,Ao,As,n0,n1,n2,n3,n4,n5,n6,n7,ln,lb,C9⟩:=h.Ca i;clear h;have HT:=A0 Aq.o.top;have tk:(((m.top.k:Nat):Int) !=1)=true:=by rw[bne_iff_ne];omega
 unfold B3 at HT;clear hk;unfold Ag;go_enter Tryz.func156,Tryz.ntmps156;exact z0ka
theorem z0ja {P:Prop} (h:P:=by
  (try unfold B3 at HT);clear ho hk;unfold Ag;go_enter Tryz.func156,Tryz.ntmps156;go_wp2_with fail
  rw[←Ap.o];refine HT.o.mono ?_;rintro e w1 ⟨rfl,h1,k1⟩;have Bk:=h1.At;have A8:=A0 h1;have A4:Hid (A2 (dx D X) w w1):=Ae.o.trans (Ac k1);have Ad:=(k1.block _ Ao.o).trans As.o;have C1:=A0 Ad;clear n0 n1 n2 n3 n4 n5 n6 n7 ln;obtain⟨n0,n1,n2,n3,n4,n5,n6,n7,ln⟩:=Bj Ad;clear h1 k1 Ad;have B4:=A0 (fun(W:World) (hb:Below w1.heap.size w1 W)=>And.intro ((fun hs=>MC.Ms.pop hs) (A8.o.below hb).1) (A4.o.trans (Ac (A8.o.below hb).2)));unfold Ag at B4;go_wp2_with fail
  refine((B4.o _ z4ua).1).mono ?_;rintro e w2 ⟨rfl,h2,k2⟩;have Ah:=A0 h2.back;have Aa:Hid (A2 (dx D X) w w2):=(B4.o _ z4ua).2.trans (Ac k2);clear h2 k2;unfold B3;go_wp2;go_end0;exact⟨rfl,Ah.o,Aa.o⟩):P:=h
theorem A6x(h:C.Ms D X β w m)(i:Af)(ho:i.op=9)(hk:m.top.k=1)(hy:m.top.y=true):Calls Tryz.prog 156 #[.pointer (some ⟨C.mb,0,none⟩),Ag i] w (MP C D X β w (m.pop) (.tuple #[])):=by
 obtain⟨w0,Ap,Aq,Ae,Ao,As,n0,n1,n2,n3,n4,n5,n6,n7,ln,lb,C9⟩:=h.Ca i;clear h;have HT:=A0 Aq.o.top;have tk:(((m.top.k:Nat):Int) !=1)=false:=by rw[hk];rfl
 have t10:((i.op:Int)==10)=false:=by rw[ho];rfl
 exact z0ja
theorem z43a {P:Prop} (h:P:=by
  (try unfold B3 at HT);clear ho hk;unfold Ag;go_enter Tryz.func156,Tryz.ntmps156;exact z0ba):P:=h
theorem A6w(h:C.Ms D X β w m)(i:Af)(ho:i.op=9)(hk:m.top.k=1)(hy:m.top.y=false)(ha:0<=i.arg):Calls Tryz.prog 156 #[.pointer (some ⟨C.mb,0,none⟩),Ag i] w (MP C D X β w (m.jump i.arg) (.tuple #[])):=by
 obtain⟨w0,Ap,Aq,Ae,Ao,As,n0,n1,n2,n3,n4,n5,n6,n7,ln,lb,C9⟩:=h.Ca i;clear h;have HT:=A0 Aq.o.top;have tk:(((m.top.k:Nat):Int) !=1)=false:=by rw[hk];rfl
 have t10:((i.op:Int)==10)=false:=by rw[ho];rfl
 exact z43a
theorem A6v(h:C.Ms D X β w m)(i:Af)(ho:i.op=10)(hk:m.top.k=1)(hy:m.top.y=true)(ha:0<=i.arg):Calls Tryz.prog 156 #[.pointer (some ⟨C.mb,0,none⟩),Ag i] w (MP C D X β w (m.jump i.arg) (.tuple #[])):=by
 obtain⟨w0,Ap,Aq,Ae,Ao,As,n0,n1,n2,n3,n4,n5,n6,n7,ln,lb,C9⟩:=h.Ca i;clear h;have HT:=A0 Aq.o.top;have tk:(((m.top.k:Nat):Int) !=1)=false:=by rw[hk];rfl
 have t10:((i.op:Int)==10)=true:=by rw[ho];rfl
 exact z43a
theorem A6u(h:C.Ms D X β w m)(i:Af)(ho:i.op=10)(hk:m.top.k=1)(hy:m.top.y=false):Calls Tryz.prog 156 #[.pointer (some ⟨C.mb,0,none⟩),Ag i] w (MP C D X β w (m.pop) (.tuple #[])):=by
 obtain⟨w0,Ap,Aq,Ae,Ao,As,n0,n1,n2,n3,n4,n5,n6,n7,ln,lb,C9⟩:=h.Ca i;clear h;have HT:=A0 Aq.o.top;have tk:(((m.top.k:Nat):Int) !=1)=false:=by rw[hk];rfl
 have t10:((i.op:Int)==10)=true:=by rw[ho];rfl
 exact z0ja
theorem MC.Ms.Qp(h:C.Ms D X β w m){a b:PV}(ha:Bs m.arr.length a)(hb:Bs m.arr.length b)(d:Nat):(Op.equalIn (d+1) 223 (.pointer (B5 β a)) (.pointer (B5 β b))).run Tryz.prog w=.ok (a.r==b.r) w:=by
 obtain⟨ρ,s,x,fv,ab,lp,h⟩:=h;have hp:Tryz.prog.underlying 223=some (.pointer 356):=by kernel_rfl
 have hs:(Tryz.prog.info? 356).map (fun j=>j.size !=0)=some true:=by kernel_rfl
 cases hj:Tryz.prog.info? 356 with
 | none=>rw[hj]at hs;cases hs
 | some j=>
 have hz:j.size≠0:=by rw[hj]at hs;simpa using hs
 unfold B5;unfold Bs at ha hb;cases hr:a.r with
 | none=>
  cases hr':b.r with
  | none=>simp[Op.equalIn,run_underlying hp]
  | some y=>simp[Op.equalIn,run_underlying hp]
 | some x=>
  cases hr':b.r with
  | none=>simp[Op.equalIn,run_underlying hp]
  | some y=>
   rw[hr]at ha;rw[hr']at hb;have hl:=h.arr.len;obtain⟨k1,_,k3,_⟩:=h.arr.at' x z4sa ha.2;obtain⟨l1,_,l3,_⟩:=h.arr.at' y z4sa hb.2;by_cases he:x=y
   ·rw[he];simp[Op.equalIn,run_underlying hp,sizeOf,typeInfo,hj,run_sameAddr_same]
   ·have hne:(⟨β x,0,none⟩:Addr)≠⟨β y,0,none⟩:=by
     intro e;have e1:β x=β y:=by injection e
     rw[e1]at k3;omega
    have hs:=run_sameAddr_other (P:=Tryz.prog) w hne k1 l1;have hq:((some x:Option Nat)==some y)=false:=by simp[he]
    rw[hq];simp[Op.equalIn,run_underlying hp,sizeOf,typeInfo,hj,hz,hs]
theorem z2ga {P:Prop} (h:P:=by
  have hn':=hn;clear hn;go_enter Tryz.func254,Tryz.ntmps254;go_wp2;go_ret;exact⟨rfl,Below.alloc (Below.alloc (Below.refl _ _) (Nat.le_refl _) _) z4wa _⟩):P:=h
theorem O5(a b:PV)(β:Nat->Nat)(w:World):Calls Tryz.prog 254 #[B3 β a,B3 β b] w fun e w'=>e=.returned (.bool (before a b))/\Below w.heap.size w w':=by
 unfold B3 before;cases hn:decide (a.n<b.n)
 ·exact z2ga
 ·exact z2ga
theorem z18a {P:Prop} (h:P:=by
  go_wp2_with fail
  refine((B4.o _ z4ua).1).mono ?_;rintro e w2 ⟨rfl,h2,k2⟩;have Ah:=A0 h2.back;have Aa:Hid (A2 (dx D X) w w2):=(B4.o _ z4ua).2.trans (Ac k2);clear h2 k2;go_wp2;go_end0;exact⟨rfl,Ah.o,Aa.o⟩):P:=h
theorem A73(h:C.Ms D X β w m)(i:Af)(hva:Bs m.arr.length m.pop.top)(hvb:Bs m.arr.length m.top)(hn:m.vals.length+1<=90000000000)(he:m.pop.top=m.top):Calls Tryz.prog 219 #[.pointer (some ⟨C.mb,0,none⟩),Ag i] w (MP C D X β w (m.pop.pop.push (ofBool true)) (.tuple #[])):=by
 obtain⟨w0,Ap,Aq,Ae,Ao,As,n0,n1,n2,n3,n4,n5,n6,n7,ln,lb,C9⟩:=h.Ca i;clear h;have HT:=A0 (Fe Aq.o);rw[he]at hva HT;clear he;generalize m.top=v at *;unfold Ag;go_enter Tryz.func219,Tryz.ntmps219;go_wp2_with fail
 rw[←Ap.o];refine HT.o.mono ?_;rintro e w1 ⟨rfl,h1,k1⟩;unfold B3;have Bk:=h1.At;have A8:=A0 h1;have A4:Hid (A2 (dx D X) w w1):=Ae.o.trans (Ac k1);have Ad:=(k1.block _ Ao.o).trans As.o;have C1:=A0 Ad;clear n0 n1 n2 n3 n4 n5 n6 n7 ln;obtain⟨n0,n1,n2,n3,n4,n5,n6,n7,ln⟩:=Bj Ad;clear h1 k1 Ad;have B4:=A0 (fun(W:World) (hb:Below w1.heap.size w1 W)=>And.intro (Kf (A8.o.below hb).1 true z51a) (A4.o.trans (Ac (A8.o.below hb).2)));have hqe:=fun(o o':Obj)=>(A8.o.below (Below.alloc (Below.alloc (Below.refl _ _) (Nat.le_refl _) o) z4wa o')).1.Qp hva hvb 9998;exact z18a
theorem z01a {P:Prop} (h:P:=by
  unfold Ag;go_enter Tryz.func219,Tryz.ntmps219;go_wp2_with fail
  rw[←Ap.o];refine HT.o.mono ?_;rintro e w1 ⟨rfl,h1,k1⟩;unfold B3;have Bk:=h1.At;have A8:=A0 h1;have A4:Hid (A2 (dx D X) w w1):=Ae.o.trans (Ac k1);have Ad:=(k1.block _ Ao.o).trans As.o;have C1:=A0 Ad;clear n0 n1 n2 n3 n4 n5 n6 n7 ln;obtain⟨n0,n1,n2,n3,n4,n5,n6,n7,ln⟩:=Bj Ad;clear h1 k1 Ad;have B4:=A0 (fun(W:World) (hb:Below w1.heap.size w1 W)=>And.intro (Kf (A8.o.below hb).1 false z51a) (A4.o.trans (Ac (A8.o.below hb).2)));have hqe:=fun(o o':Obj)=>(A8.o.below (Below.alloc (Below.alloc (Below.refl _ _) (Nat.le_refl _) o) z4wa o')).1.Qp hva hvb 9998;go_wp2_with fail
  refine((B4.o _ z4ua).1).mono ?_;rintro e w2 ⟨rfl,h2,k2⟩;have Ah:=A0 h2.back;have Aa:Hid (A2 (dx D X) w w2):=(B4.o _ z4ua).2.trans (Ac k2);clear h2 k2;go_wp2;go_end0;exact⟨rfl,Ah.o,Aa.o⟩):P:=h
theorem z48a {P:Prop} (h:P:=by
  cases h:(u.k==v.k)
  ·rw[beq_eq_false_iff_ne]at h ⊢;omega
  ·rw[beq_iff_eq]at h ⊢;omega):P:=h
theorem z0va {P:Prop} (h:P:=by
  obtain⟨w0,Ap,Aq,Ae,Ao,As,n0,n1,n2,n3,n4,n5,n6,n7,ln,lb,C9⟩:=h.Ca i;clear h;have HT:=A0 (Fe Aq.o);generalize m.pop.top=u at *;generalize m.top=v at *;have tk:((u.k:Int)==(v.k:Int))=(u.k==v.k):=by
   exact z48a
  rw[hk]at tk;clear hk;exact z01a):P:=h
theorem A70(h:C.Ms D X β w m)(i:Af)(hva:Bs m.arr.length m.pop.top)(hvb:Bs m.arr.length m.top)(hn:m.vals.length+1<=90000000000)(hk:(m.pop.top.k==m.top.k)=false):Calls Tryz.prog 219 #[.pointer (some ⟨C.mb,0,none⟩),Ag i] w (MP C D X β w (m.pop.pop.push (ofBool false)) (.tuple #[])):=by
 exact z0va
theorem A75(h:C.Ms D X β w m)(i:Af)(hva:Bs m.arr.length m.pop.top)(hvb:Bs m.arr.length m.top)(hn:m.vals.length+1<=90000000000)(hk:(m.pop.top.k==m.top.k)=true)(hy:(m.pop.top.y==m.top.y)=false):Calls Tryz.prog 219 #[.pointer (some ⟨C.mb,0,none⟩),Ag i] w (MP C D X β w (m.pop.pop.push (ofBool false)) (.tuple #[])):=by
 exact z0va
theorem A71(h:C.Ms D X β w m)(i:Af)(hva:Bs m.arr.length m.pop.top)(hvb:Bs m.arr.length m.top)(hn:m.vals.length+1<=90000000000)(hk:(m.pop.top.k==m.top.k)=true)(hy:(m.pop.top.y==m.top.y)=true)(hnn:(m.pop.top.n==m.top.n)=false):Calls Tryz.prog 219 #[.pointer (some ⟨C.mb,0,none⟩),Ag i] w (MP C D X β w (m.pop.pop.push (ofBool false)) (.tuple #[])):=by
 exact z0va
theorem A74(h:C.Ms D X β w m)(i:Af)(hva:Bs m.arr.length m.pop.top)(hvb:Bs m.arr.length m.top)(hn:m.vals.length+1<=90000000000)(hk:(m.pop.top.k==m.top.k)=true)(hy:(m.pop.top.y==m.top.y)=true)(hnn:(m.pop.top.n==m.top.n)=true)(ht:(m.pop.top.t==m.top.t)=false):Calls Tryz.prog 219 #[.pointer (some ⟨C.mb,0,none⟩),Ag i] w (MP C D X β w (m.pop.pop.push (ofBool false)) (.tuple #[])):=by
 obtain⟨w0,Ap,Aq,Ae,Ao,As,n0,n1,n2,n3,n4,n5,n6,n7,ln,lb,C9⟩:=h.Ca i;clear h;have HT:=A0 (Fe Aq.o);generalize m.pop.top=u at *;generalize m.top=v at *;have tk:((u.k:Int)==(v.k:Int))=(u.k==v.k):=by
  exact z48a
 rw[hk]at tk;clear hk;have ht2:=ht;exact z01a
theorem A72(h:C.Ms D X β w m)(i:Af)(hva:Bs m.arr.length m.pop.top)(hvb:Bs m.arr.length m.top)(hn:m.vals.length+1<=90000000000)(hk:(m.pop.top.k==m.top.k)=true)(hy:(m.pop.top.y==m.top.y)=true)(hnn:(m.pop.top.n==m.top.n)=true)(ht:(m.pop.top.t==m.top.t)=true)(hr:(m.pop.top.r==m.top.r)=false):Calls Tryz.prog 219 #[.pointer (some ⟨C.mb,0,none⟩),Ag i] w (MP C D X β w (m.pop.pop.push (ofBool false)) (.tuple #[])):=by
 obtain⟨w0,Ap,Aq,Ae,Ao,As,n0,n1,n2,n3,n4,n5,n6,n7,ln,lb,C9⟩:=h.Ca i;clear h;have HT:=A0 (Fe Aq.o);generalize m.pop.top=u at *;generalize m.top=v at *;have tk:((u.k:Int)==(v.k:Int))=(u.k==v.k):=by
  exact z48a
 rw[hk]at tk;clear hk;have ht2:=ht;unfold Ag;go_enter Tryz.func219,Tryz.ntmps219;go_wp2_with fail
 rw[←Ap.o];refine HT.o.mono ?_;rintro e w1 ⟨rfl,h1,k1⟩;unfold B3;have Bk:=h1.At;have A8:=A0 h1;have A4:Hid (A2 (dx D X) w w1):=Ae.o.trans (Ac k1);have Ad:=(k1.block _ Ao.o).trans As.o;have C1:=A0 Ad;clear n0 n1 n2 n3 n4 n5 n6 n7 ln;obtain⟨n0,n1,n2,n3,n4,n5,n6,n7,ln⟩:=Bj Ad;clear h1 k1 Ad;have B4:=A0 (fun(W:World) (hb:Below w1.heap.size w1 W)=>And.intro (Kf (A8.o.below hb).1 false z51a) (A4.o.trans (Ac (A8.o.below hb).2)));have hqe:=fun(o o':Obj)=>(A8.o.below (Below.alloc (Below.alloc (Below.refl _ _) (Nat.le_refl _) o) z4wa o')).1.Qp hva hvb 9998;rw[hr]at hqe;exact z18a
end
end Go.Proofs.YtjdlndhfaaolaaaGreatDoor
