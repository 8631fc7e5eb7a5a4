import Derived.Test.YtjdlndhfaaolaaaGreatDoorQ38
set_option maxHeartbeats 20000000
namespace Go.Proofs.YtjdlndhfaaolaaaGreatDoor
section
set_option maxRecDepth 100000
open Go.RowKit
open Go.Deep (BT)
variable {C:MC} {D X:Nat->Prop} {w w':World} {m:MS} {β:Nat->Nat}
theorem MC.Ms.base(h:C.Ms D X β w m):w.cell? ⟨C.mb,8,none⟩=some (.int .i64 m.now.base):=by
 obtain⟨ρ,s,x,fv,ab,lp,h⟩:=h;have:=A2 h.cell 8 (.int .i64 x.base) rfl;rw[h.now.base]at this;exact this
theorem A7h(h:C.Ms D X β w m)(i:Ad)(ha:0<=i.arg):Calls Tryz.prog 154 #[.pointer (some ⟨C.mb,0,none⟩),Ac i] w (MP C D X β w (m.jump i.arg) (.tuple #[])):=by
 obtain⟨ρ,s,x,fv,ab,lp,h⟩:=h;obtain⟨c0,c1,c2,c3,c4,c5,c6,c7,c8,c9,c10,c11,c12,c13,fz,lb⟩:=Sd (show w.heap[C.mb]?=some (.cells #[_,_,_,_,_,_,_,_,_,_,_,_,_,_] _ (0,0)) from h.cell);have HH:=A0 h;have HA:Hid (((i.arg.toNat:Nat):Int)=i.arg):=by show _=_;omega
 have HN:=A0 (show Jh D w { x with pc:=i.arg.toNat } ⟨m.now.steps,i.arg.toNat,m.now.base⟩ from⟨h.now.row,rfl,h.now.base⟩);clear h c0 c1 c2 c3 c4 c5 c6 c8 c9 c10 c11 c12 c13 ha;unfold Ac;go_enter Tryz.func154,Tryz.ntmps154;go_wp2;go_end0;rw[show Value.int .i64 i.arg=.int .i64 ((i.arg.toNat:Nat):Int) by rw[HA.o]];have hcl:((w.setCell ⟨C.mb,7,none⟩ (.int .i64 ((i.arg.toNat:Nat):Int))).alloc (.cells #[.int .i64 (i.op:Nat),.int .i64 ((i.arg.toNat:Nat):Int),.int .i64 (i.line:Nat),.int .i64 (i.v.k:Nat),.bool i.v.y,.int .i64 i.v.n,.string ⟨i.v.t.toArray⟩,.pointer none] 251)).heap[C.mb]?=some (.cells (C.cells s { x with pc:=i.arg.toNat } (m.fuel) (m.cells) (m.code) (m.line)) 167 (0,0)):=by
  rw[Below.heap_alloc _ _ _ (by simp[World.setCell];omega),(heap_set (j:=7) HH.o.cell (.int .i64 ((i.arg.toNat:Nat):Int)))];simp[MC.cells]
 have hkk:∀g,g<w.heap.size->g≠C.mb->((w.setCell ⟨C.mb,7,none⟩ (.int .i64 ((i.arg.toNat:Nat):Int))).alloc (.cells #[.int .i64 (i.op:Nat),.int .i64 ((i.arg.toNat:Nat):Int),.int .i64 (i.line:Nat),.int .i64 (i.v.k:Nat),.bool i.v.y,.int .i64 i.v.n,.string ⟨i.v.t.toArray⟩,.pointer none] 251)).heap[g]?=w.heap[g]?:=by
  intro g hg hne;rw[Below.heap_alloc _ _ _ (by simp[World.setCell];omega),Below.heap_setCell _ _ _ _ (by exact hne)]
 have hpl:=HH.o.plain (now:=⟨m.now.steps,i.arg.toNat,m.now.base⟩) (fuel:=m.fuel) (cells:=m.cells) (code:=m.code) (line:=m.line) (x':={ x with pc:=i.arg.toNat }) HN.o hcl hkk (by simp[World.setCell]) rfl rfl rfl;exact⟨rfl,hpl⟩
theorem Al8(h:C.Ms D X β w m)(i:Ad)(hb:-1000000<=m.now.base/\m.now.base<=1000000)(ha:-1000000<=i.arg/\i.arg<=1000000)(hn:m.vals.length+1<=100000)(hv:Dy m.arr.length (m.at' (m.now.base+i.arg))):Calls Tryz.prog 149 #[.pointer (some ⟨C.mb,0,none⟩),Ac i] w (MP C D X β w (m.push (m.at' (m.now.base+i.arg))) (.tuple #[])):=by
 obtain⟨w0,Aq,Av,Ae,As,Aw,n0,n1,n2,n3,n4,n5,n6,n7,ln,lb,Ce⟩:=h.Ch i;clear h;have cb:=Av.o.base;have HA:=A0 (Av.o.Jo.at' (m.now.base+i.arg));have HP:=A0 (fun(W:World) (hs:C.Ms D (E9 X w) β W m)=>hs.push (m.at' (m.now.base+i.arg)) hv hn);have Dj:IntKind.i64.wrap (m.now.base+i.arg)=m.now.base+i.arg:=by rw[IntKind.wrap_i64];omega
 unfold Bg at HA HP;clear hv;generalize hu9:m.at' (m.now.base+i.arg)=u at *;clear hu9;rw[←Dj]at HA;clear Dj;unfold Ac;go_enter Tryz.func149,Tryz.ntmps149;go_wp2;rw[←Aq.o];go_region_law (first
  | (refine Fj rfl 99 _ _ rfl #[.pointer (some ⟨C.mb,4,none⟩),.agg #[.int .i64 (u.k:Nat),.bool u.y,.int .i64 u.n,.string ⟨u.t.toArray⟩,.pointer (Ca β u)]] (by kernel_rfl) Bu.o ?_;rintro e w2 ⟨rfl,h2,k2⟩;refine⟨_,rfl,?_⟩;have Ak:=A0 h2.back;have Aa:Hid (A3 (dx D X) w w2):=A5.o.trans (Ag k2);clear h2 k2)
  | (refine Fj rfl 195 _ _ rfl #[.pointer (some ⟨C.mb,4,none⟩),.int .i64 (IntKind.i64.wrap (m.now.base+i.arg))] (by kernel_rfl) HA.o ?_;rintro e w1 ⟨rfl,h1,k1⟩;refine⟨_,rfl,?_⟩;have Bu:=A0 (HP.o w1 h1);have Bt:=h1.B7;have A5:Hid (A3 (dx D X) w w1):=Ae.o.trans ((E6 _ w0 1).trans (Ag k1));clear h1 k1))
 all_goals go_wp2
 all_goals go_end0
 all_goals exact⟨rfl,Ak.o,Aa.o⟩
theorem Aag(h:C.Ms D X β w m)(i:Ad)(hb:-1000000<=m.now.base/\m.now.base<=1000000)(ha:-1000000<=i.arg/\i.arg<=1000000)(hv:Dy m.arr.length m.top):Calls Tryz.prog 151 #[.pointer (some ⟨C.mb,0,none⟩),Ac i] w (MP C D X β w (m.pop.put (m.now.base+i.arg) m.top) (.tuple #[])):=by
 obtain⟨w0,Aq,Av,Ae,As,Aw,n0,n1,n2,n3,n4,n5,n6,n7,ln,lb,Ce⟩:=h.Ch i;clear h;have cb:=Av.o.base;have HA:=A0 Av.o.Jo.pop;have HP:=A0 (fun(W:World) (hs:C.Ms D (E9 X w) β W m.pop)=>hs.put (m.now.base+i.arg) m.top hv);have Dj:IntKind.i64.wrap (m.now.base+i.arg)=m.now.base+i.arg:=by rw[IntKind.wrap_i64];omega
 unfold Bg at HA HP;clear hv;have HBs:=A0 (fun(W:World) (hs:C.Ms D (E9 X w) β W m.pop)=>hs.base);generalize hu9:m.top=u at *;have HU:=A0 hu9;clear hu9;rw[show(m.now.base+i.arg)=IntKind.i64.wrap (m.now.base+i.arg) from Dj.symm]at HP;have HW9:=A0 Dj;clear Dj;unfold Ac;go_enter Tryz.func151,Tryz.ntmps151;go_wp2;rw[←Aq.o];go_region_law (first
  | (refine Fj rfl 196 _ _ rfl #[.pointer (some ⟨C.mb,4,none⟩),.int .i64 (IntKind.i64.wrap (m.now.base+i.arg)),.agg #[.int .i64 (u.k:Nat),.bool u.y,.int .i64 u.n,.string ⟨u.t.toArray⟩,.pointer (Ca β u)]] (by kernel_rfl) Bu.o ?_;rintro e w2 ⟨rfl,h2,k2⟩;refine⟨_,rfl,?_⟩;have Ak:=A0 h2.back;have Aa:Hid (A3 (dx D X) w w2):=A5.o.trans (Ag k2);clear h2 k2)
  | (refine Fj rfl 197 _ _ rfl #[.pointer (some ⟨C.mb,4,none⟩)] (by kernel_rfl) HA.o ?_;rintro e w1 ⟨rfl,h1,k1⟩;refine⟨_,rfl,?_⟩;have Bu:=A0 (HP.o w1 h1);have Bt:=h1.B7;have cb1:=HBs.o w1 h1;simp only[MS.pop]at cb1;have Ab:=(k1.block _ As.o).trans Aw.o;have y1:=A2 Ab 1 _ rfl;have ly:=A4 Ab;have A5:Hid (A3 (dx D X) w w1):=Ae.o.trans ((E6 _ w0 1).trans (Ag k1));clear h1 k1 Ab))
 all_goals go_wp2
 all_goals go_end0
 all_goals
  have q:=Ak.o;rw[HW9.o]at q;exact⟨rfl,q,Aa.o⟩
theorem A7o(h:C.Ms D X β w m)(i:Ad)(ho:i.op=33)(hn:m.vals.length+1<=100000):Calls Tryz.prog 222 #[.pointer (some ⟨C.mb,0,none⟩),Ac i] w (MP C D X β w (m.two fun a b m'=>m'.push (ofBool (decide (a.n<b.n)))) (.tuple #[])):=by
 obtain⟨w0,Aq,Av,Ae,As,Aw,n0,n1,n2,n3,n4,n5,n6,n7,ln,lb,Ce⟩:=h.Ch i;clear h;have t32:((i.op:Int)==32)=false:=by rw[ho];rfl
 have t33:((i.op:Int)==33)=true:=by rw[ho];rfl
 have HT:=A0 (Fe Av.o);have HP:=A0 (fun(W:World) (hs:C.Ms D (E9 X w) β W m.pop.pop)=>Ja hs (decide (m.pop.top.n<m.top.n)) (by simp[MS.pop];omega));unfold Bg at HT;clear ho;unfold Ac;go_enter Tryz.func222,Tryz.ntmps222;go_wp2_with fail
 rw[←Aq.o];refine HT.o.mono ?_;rintro e w1 ⟨rfl,h1,k1⟩;have Bt:=h1.B7;have Bl:=A0 (fun(W:World) (hb:Below w1.heap.size w1 W)=>((HP.o W (h1.below hb).1).mono (fun e w3 (q:MP C D (E9 X w) β W _ _ e w3)=>(⟨q.1,q.2.1.back,Ae.o.trans ((Ag k1).trans ((Ag (h1.below hb).2).trans (Ag q.2.2)))⟩:MP C D X β w _ _ e w3))));have Ab:=(k1.block _ As.o).trans Aw.o;clear n0 n1 n2 n3 n4 n5 n6 n7 ln;obtain⟨n0,n1,n2,n3,n4,n5,n6,n7,ln⟩:=B9 Ab;clear h1 k1 Ab;go_wp2_with fail
 refine(Bl.o _ (by repeat (first|exact Below.refl _ _|refine Below.alloc ?_ (by simp) _|refine Below.setCell ?_ (by simp) _|refine Below.drew ?_))).mono ?_;rintro e w3 ⟨rfl,q2,q3⟩;have Gz:=A0 q2;have HQ3:=A0 q3;clear q2 q3;go_wp2;go_end0;exact⟨rfl,Gz.o,HQ3.o⟩
theorem Al9(h:C.Ms D X β w m)(i:Ad)(ho:i.op=35)(hn:m.vals.length+1<=100000):Calls Tryz.prog 222 #[.pointer (some ⟨C.mb,0,none⟩),Ac i] w (MP C D X β w (m.two fun a b m'=>m'.push (ofBool (decide (a.n<=b.n)))) (.tuple #[])):=by
 obtain⟨w0,Aq,Av,Ae,As,Aw,n0,n1,n2,n3,n4,n5,n6,n7,ln,lb,Ce⟩:=h.Ch i;clear h;have t32:((i.op:Int)==32)=false:=by rw[ho];rfl
 have t33:((i.op:Int)==33)=false:=by rw[ho];rfl
 have t34:((i.op:Int)==34)=false:=by rw[ho];rfl
 have t35:((i.op:Int)==35)=true:=by rw[ho];rfl
 have HT:=A0 (Fe Av.o);have HP:=A0 (fun(W:World) (hs:C.Ms D (E9 X w) β W m.pop.pop)=>Ja hs (decide (m.pop.top.n<=m.top.n)) (by simp[MS.pop];omega));unfold Bg at HT;clear ho;unfold Ac;go_enter Tryz.func222,Tryz.ntmps222;go_wp2_with fail
 rw[←Aq.o];refine HT.o.mono ?_;rintro e w1 ⟨rfl,h1,k1⟩;have Bt:=h1.B7;have Bl:=A0 (fun(W:World) (hb:Below w1.heap.size w1 W)=>((HP.o W (h1.below hb).1).mono (fun e w3 (q:MP C D (E9 X w) β W _ _ e w3)=>(⟨q.1,q.2.1.back,Ae.o.trans ((Ag k1).trans ((Ag (h1.below hb).2).trans (Ag q.2.2)))⟩:MP C D X β w _ _ e w3))));have Ab:=(k1.block _ As.o).trans Aw.o;clear n0 n1 n2 n3 n4 n5 n6 n7 ln;obtain⟨n0,n1,n2,n3,n4,n5,n6,n7,ln⟩:=B9 Ab;clear h1 k1 Ab;go_wp2_with fail
 refine(Bl.o _ (by repeat (first|exact Below.refl _ _|refine Below.alloc ?_ (by simp) _|refine Below.setCell ?_ (by simp) _|refine Below.drew ?_))).mono ?_;rintro e w3 ⟨rfl,q2,q3⟩;have Gz:=A0 q2;have HQ3:=A0 q3;clear q2 q3;go_wp2;go_end0;exact⟨rfl,Gz.o,HQ3.o⟩
theorem A9l(h:C.Ms D X β w m)(i:Ad)(ho:i.op=32)(hn:m.vals.length+1<=100000):Calls Tryz.prog 222 #[.pointer (some ⟨C.mb,0,none⟩),Ac i] w (MP C D X β w (m.two fun a b m'=>m'.push (ofBool (decide (b.n<a.n)))) (.tuple #[])):=by
 obtain⟨w0,Aq,Av,Ae,As,Aw,n0,n1,n2,n3,n4,n5,n6,n7,ln,lb,Ce⟩:=h.Ch i;clear h;have t32:((i.op:Int)==32)=true:=by rw[ho];rfl
 have HT:=A0 (Fe Av.o);have HP:=A0 (fun(W:World) (hs:C.Ms D (E9 X w) β W m.pop.pop)=>Ja hs (decide (m.top.n<m.pop.top.n)) (by simp[MS.pop];omega));unfold Bg at HT;clear ho;unfold Ac;go_enter Tryz.func222,Tryz.ntmps222;go_wp2_with fail
 rw[←Aq.o];refine HT.o.mono ?_;rintro e w1 ⟨rfl,h1,k1⟩;have Bt:=h1.B7;have Bl:=A0 (fun(W:World) (hb:Below w1.heap.size w1 W)=>((HP.o W (h1.below hb).1).mono (fun e w3 (q:MP C D (E9 X w) β W _ _ e w3)=>(⟨q.1,q.2.1.back,Ae.o.trans ((Ag k1).trans ((Ag (h1.below hb).2).trans (Ag q.2.2)))⟩:MP C D X β w _ _ e w3))));have Ab:=(k1.block _ As.o).trans Aw.o;clear n0 n1 n2 n3 n4 n5 n6 n7 ln;obtain⟨n0,n1,n2,n3,n4,n5,n6,n7,ln⟩:=B9 Ab;clear h1 k1 Ab;go_wp2_with fail
 refine(Bl.o _ (by repeat (first|exact Below.refl _ _|refine Below.alloc ?_ (by simp) _|refine Below.setCell ?_ (by simp) _|refine Below.drew ?_))).mono ?_;rintro e w3 ⟨rfl,q2,q3⟩;have Gz:=A0 q2;have HQ3:=A0 q3;clear q2 q3;go_wp2;go_end0;exact⟨rfl,Gz.o,HQ3.o⟩
theorem A6u(h:C.Ms D X β w m)(i:Ad)(ho:i.op=34)(hn:m.vals.length+1<=100000):Calls Tryz.prog 222 #[.pointer (some ⟨C.mb,0,none⟩),Ac i] w (MP C D X β w (m.two fun a b m'=>m'.push (ofBool (decide (b.n<=a.n)))) (.tuple #[])):=by
 obtain⟨w0,Aq,Av,Ae,As,Aw,n0,n1,n2,n3,n4,n5,n6,n7,ln,lb,Ce⟩:=h.Ch i;clear h;have t32:((i.op:Int)==32)=false:=by rw[ho];rfl
 have t33:((i.op:Int)==33)=false:=by rw[ho];rfl
 have t34:((i.op:Int)==34)=true:=by rw[ho];rfl
 have HT:=A0 (Fe Av.o);have HP:=A0 (fun(W:World) (hs:C.Ms D (E9 X w) β W m.pop.pop)=>Ja hs (decide (m.top.n<=m.pop.top.n)) (by simp[MS.pop];omega));unfold Bg at HT;clear ho;unfold Ac;go_enter Tryz.func222,Tryz.ntmps222;go_wp2_with fail
 rw[←Aq.o];refine HT.o.mono ?_;rintro e w1 ⟨rfl,h1,k1⟩;have Bt:=h1.B7;have Bl:=A0 (fun(W:World) (hb:Below w1.heap.size w1 W)=>((HP.o W (h1.below hb).1).mono (fun e w3 (q:MP C D (E9 X w) β W _ _ e w3)=>(⟨q.1,q.2.1.back,Ae.o.trans ((Ag k1).trans ((Ag (h1.below hb).2).trans (Ag q.2.2)))⟩:MP C D X β w _ _ e w3))));have Ab:=(k1.block _ As.o).trans Aw.o;clear n0 n1 n2 n3 n4 n5 n6 n7 ln;obtain⟨n0,n1,n2,n3,n4,n5,n6,n7,ln⟩:=B9 Ab;clear h1 k1 Ab;go_wp2_with fail
 refine(Bl.o _ (by repeat (first|exact Below.refl _ _|refine Below.alloc ?_ (by simp) _|refine Below.setCell ?_ (by simp) _|refine Below.drew ?_))).mono ?_;rintro e w3 ⟨rfl,q2,q3⟩;have Gz:=A0 q2;have HQ3:=A0 q3;clear q2 q3;go_wp2;go_end0;exact⟨rfl,Gz.o,HQ3.o⟩
theorem Akl(h:C.Ms D X β w m)(i:Ad)(ho:i.op=24)(hn:m.vals.length+1<=100000):Calls Tryz.prog 218 #[.pointer (some ⟨C.mb,0,none⟩),Ac i] w (MP C D X β w (m.pop.push (ofInt (wr (-m.top.n)))) (.tuple #[])):=by
 obtain⟨w0,Aq,Av,Ae,As,Aw,n0,n1,n2,n3,n4,n5,n6,n7,ln,lb,Ce⟩:=h.Ch i;clear h;have HT:=A0 Av.o.pop;have HP:=A0 (fun(W:World) (hs:C.Ms D (E9 X w) β W m.pop)=>Lg hs (wr (-m.top.n)) (by simp[MS.pop];omega));have vf2:=A27;have t23:((i.op:Int)==23)=false:=by rw[ho];rfl
 have t24:((i.op:Int)==24)=true:=by rw[ho];rfl
 unfold Bg at HT;clear ho;unfold Ac;go_enter Tryz.func218,Tryz.ntmps218;go_wp2_with fail
 rw[←Aq.o];refine HT.o.mono ?_;rintro e w1 ⟨rfl,h1,k1⟩;have Bt:=h1.B7;have Bl:=A0 (fun(W:World) (hb:Below w1.heap.size w1 W)=>((HP.o W (h1.below hb).1).mono (fun e w3 (q:MP C D (E9 X w) β W _ _ e w3)=>(⟨q.1,q.2.1.back,Ae.o.trans ((Ag k1).trans ((Ag (h1.below hb).2).trans (Ag q.2.2)))⟩:MP C D X β w _ _ e w3))));have Ab:=(k1.block _ As.o).trans Aw.o;clear n0 n1 n2 n3 n4 n5 n6 n7 ln;obtain⟨n0,n1,n2,n3,n4,n5,n6,n7,ln⟩:=B9 Ab;clear h1 k1 Ab;go_wp2_with fail
 refine(Bl.o _ (by repeat (first|exact Below.refl _ _|refine Below.alloc ?_ (by simp) _|refine Below.setCell ?_ (by simp) _|refine Below.drew ?_))).mono ?_;rintro e w3 ⟨rfl,q2,q3⟩;have Gz:=A0 q2;have HQ3:=A0 q3;clear q2 q3;go_wp2;go_end0;exact⟨rfl,Gz.o,HQ3.o⟩
theorem Aeu(h:C.Ms D X β w m)(i:Ad)(ho:i.op=27)(hk:m.top.k=1)(hn:m.vals.length+1<=100000):Calls Tryz.prog 220 #[.pointer (some ⟨C.mb,0,none⟩),Ac i] w (MP C D X β w (m.pop.push (ofBool (!m.top.y))) (.tuple #[])):=by
 obtain⟨w0,Aq,Av,Ae,As,Aw,n0,n1,n2,n3,n4,n5,n6,n7,ln,lb,Ce⟩:=h.Ch i;clear h;have HT:=A0 Av.o.pop;have HP:=A0 (fun(W:World) (hs:C.Ms D (E9 X w) β W m.pop)=>Ja hs (!m.top.y) (by simp[MS.pop];omega));have tk:(((m.top.k:Nat):Int) !=1)=false:=by rw[hk];rfl
 have t26:((i.op:Int)==26)=false:=by rw[ho];rfl
 have t27:((i.op:Int)==27)=true:=by rw[ho];rfl
 unfold Bg at HT;clear ho hk;unfold Ac;go_enter Tryz.func220,Tryz.ntmps220;go_wp2_with fail
 rw[←Aq.o];refine HT.o.mono ?_;rintro e w1 ⟨rfl,h1,k1⟩;have Bt:=h1.B7;have Bl:=A0 (fun(W:World) (hb:Below w1.heap.size w1 W)=>((HP.o W (h1.below hb).1).mono (fun e w3 (q:MP C D (E9 X w) β W _ _ e w3)=>(⟨q.1,q.2.1.back,Ae.o.trans ((Ag k1).trans ((Ag (h1.below hb).2).trans (Ag q.2.2)))⟩:MP C D X β w _ _ e w3))));have Ab:=(k1.block _ As.o).trans Aw.o;clear n0 n1 n2 n3 n4 n5 n6 n7 ln;obtain⟨n0,n1,n2,n3,n4,n5,n6,n7,ln⟩:=B9 Ab;clear h1 k1 Ab;go_wp2_with fail
 refine(Bl.o _ (by repeat (first|exact Below.refl _ _|refine Below.alloc ?_ (by simp) _|refine Below.setCell ?_ (by simp) _|refine Below.drew ?_))).mono ?_;rintro e w3 ⟨rfl,q2,q3⟩;have Gz:=A0 q2;have HQ3:=A0 q3;clear q2 q3;go_wp2;go_end0;exact⟨rfl,Gz.o,HQ3.o⟩
theorem Amh(h:C.Ms D X β w m)(i:Ad)(ho:i.op=27)(hk:m.top.k≠1):Calls Tryz.prog 220 #[.pointer (some ⟨C.mb,0,none⟩),Ac i] w (MP C D X β w (m.pop.fail 5 i) (.tuple #[])):=by
 obtain⟨w0,Aq,Av,Ae,As,Aw,n0,n1,n2,n3,n4,n5,n6,n7,ln,lb,Ce⟩:=h.Ch i;clear h;have HT:=A0 Av.o.pop;have HP:=A0 (fun(W:World) (hs:C.Ms D (E9 X w) β W m.pop)=>Jg hs 5 i);have tk:(((m.top.k:Nat):Int) !=1)=true:=by rw[bne_iff_ne];omega
 have t26:((i.op:Int)==26)=false:=by rw[ho];rfl
 have t27:((i.op:Int)==27)=true:=by rw[ho];rfl
 unfold Bg at HT;unfold Ac at HP;clear ho hk;unfold Ac;go_enter Tryz.func220,Tryz.ntmps220;go_wp2_with fail
 rw[←Aq.o];refine HT.o.mono ?_;rintro e w1 ⟨rfl,h1,k1⟩;have Bt:=h1.B7;have Bl:=A0 (fun(W:World) (hb:Below w1.heap.size w1 W)=>((HP.o W (h1.below hb).1).mono (fun e w3 (q:MP C D (E9 X w) β W _ _ e w3)=>(⟨q.1,q.2.1.back,Ae.o.trans ((Ag k1).trans ((Ag (h1.below hb).2).trans (Ag q.2.2)))⟩:MP C D X β w _ _ e w3))));have Ab:=(k1.block _ As.o).trans Aw.o;clear n0 n1 n2 n3 n4 n5 n6 n7 ln;obtain⟨n0,n1,n2,n3,n4,n5,n6,n7,ln⟩:=B9 Ab;clear h1 k1 Ab;go_wp2_with fail
 refine(Bl.o _ (by repeat (first|exact Below.refl _ _|refine Below.alloc ?_ (by simp) _|refine Below.setCell ?_ (by simp) _|refine Below.drew ?_))).mono ?_;rintro e w3 ⟨rfl,q2,q3⟩;have Gz:=A0 q2;have HQ3:=A0 q3;clear q2 q3;go_wp2;refine bodyPost_ret (v:=.tuple #[]) (by simp[results,Tryz.results220,go_sem]) rfl ?_;exact⟨rfl,Gz.o,HQ3.o⟩
theorem MC.Ms.Sk(h:C.Ms D X β w m):(∃v,w.cell? ⟨C.mb,7,none⟩=some v)/\(∀o,w.frozen? ⟨C.mb,o,none⟩=false):=by
 obtain⟨ρ,s,x,fv,ab,lp,h⟩:=h;exact⟨⟨_,A2 h.cell 7 (.int .i64 (x.pc:Nat)) rfl⟩,Bd h.cell⟩
theorem MC.Ms.Ra(h:C.Ms D X β w m)(a:Int)(ha:0<=a):C.Ms D X β (w.setCell ⟨C.mb,7,none⟩ (.int .i64 a)) (m.jump a)/\A3 (dx D X) w (w.setCell ⟨C.mb,7,none⟩ (.int .i64 a)):=by
 obtain⟨ρ,s,x,fv,ab,lp,hv⟩:=h;have hcl:(w.setCell ⟨C.mb,7,none⟩ (.int .i64 a)).heap[C.mb]?=some (.cells (C.cells s { x with pc:=a.toNat } m.fuel m.cells m.code m.line) 167 (0,0)):=by
  rw[heap_set (j:=7) hv.cell (.int .i64 a)];have:((a.toNat:Nat):Int)=a:=by omega
  simp[MC.cells,this]
 exact hv.plain (now:=⟨m.now.steps,a.toNat,m.now.base⟩) (x':={ x with pc:=a.toNat }) ⟨hv.now.row,rfl,hv.now.base⟩ hcl (fun g _ hne=>Below.heap_setCell _ _ _ _ (by exact hne)) (by simp[World.setCell]) rfl rfl rfl
theorem A79(h:C.Ms D X β w m)(i:Ad)(ho:i.op=8)(hk:m.top.k≠1):Calls Tryz.prog 155 #[.pointer (some ⟨C.mb,0,none⟩),Ac i] w (MP C D X β w (m.pop.fail 5 i) (.tuple #[])):=by
 obtain⟨w0,Aq,Av,Ae,As,Aw,n0,n1,n2,n3,n4,n5,n6,n7,ln,lb,Ce⟩:=h.Ch i;clear h;have HT:=A0 Av.o.pop;have HP:=A0 (fun(W:World) (hs:C.Ms D (E9 X w) β W m.pop)=>Jg hs 5 i);have tk:(((m.top.k:Nat):Int) !=1)=true:=by rw[bne_iff_ne];omega
 have t7:((i.op:Int)==7)=false:=by rw[ho];rfl
 have t8:((i.op:Int)==8)=true:=by rw[ho];rfl
 unfold Bg at HT;unfold Ac at HP;clear ho hk;unfold Ac;go_enter Tryz.func155,Tryz.ntmps155;go_wp2_with fail
 rw[←Aq.o];refine HT.o.mono ?_;rintro e w1 ⟨rfl,h1,k1⟩;have Bt:=h1.B7;have Bl:=A0 (fun(W:World) (hb:Below w1.heap.size w1 W)=>((HP.o W (h1.below hb).1).mono (fun e w3 (q:MP C D (E9 X w) β W _ _ e w3)=>(⟨q.1,q.2.1.back,Ae.o.trans ((Ag k1).trans ((Ag (h1.below hb).2).trans (Ag q.2.2)))⟩:MP C D X β w _ _ e w3))));have Ab:=(k1.block _ As.o).trans Aw.o;clear n0 n1 n2 n3 n4 n5 n6 n7 ln;obtain⟨n0,n1,n2,n3,n4,n5,n6,n7,ln⟩:=B9 Ab;clear h1 k1 Ab;go_wp2_with fail
 refine(Bl.o _ (by repeat (first|exact Below.refl _ _|refine Below.alloc ?_ (by simp) _|refine Below.setCell ?_ (by simp) _|refine Below.drew ?_))).mono ?_;rintro e w3 ⟨rfl,q2,q3⟩;have Gz:=A0 q2;have HQ3:=A0 q3;clear q2 q3;go_wp2;go_end0;exact⟨rfl,Gz.o,HQ3.o⟩
theorem Ak3(h:C.Ms D X β w m)(i:Ad)(ho:i.op=8)(hk:m.top.k=1)(hy:m.top.y=true):Calls Tryz.prog 155 #[.pointer (some ⟨C.mb,0,none⟩),Ac i] w (MP C D X β w (m.pop) (.tuple #[])):=by
 obtain⟨w0,Aq,Av,Ae,As,Aw,n0,n1,n2,n3,n4,n5,n6,n7,ln,lb,Ce⟩:=h.Ch i;clear h;have HT:=A0 Av.o.pop;have tk:(((m.top.k:Nat):Int) !=1)=false:=by rw[hk];rfl
 have t7:((i.op:Int)==7)=false:=by rw[ho];rfl
 have t8:((i.op:Int)==8)=true:=by rw[ho];rfl
 unfold Bg at HT;clear ho hk;unfold Ac;go_enter Tryz.func155,Tryz.ntmps155;go_wp2_with fail
 rw[←Aq.o];refine HT.o.mono ?_;rintro e w1 ⟨rfl,h1,k1⟩;have Ab:=(k1.block _ As.o).trans Aw.o;clear n0 n1 n2 n3 n4 n5 n6 n7 ln;obtain⟨n0,n1,n2,n3,n4,n5,n6,n7,ln⟩:=B9 Ab;have HQ:=A0 (fun(W:World) (hb:Below w1.heap.size w1 W)=>And.intro (h1.below hb).1.back (Ae.o.trans ((Ag k1).trans (Ag (h1.below hb).2))));clear h1 k1 Ab;go_wp2;go_end0;exact⟨rfl,HQ.o _ (Below.alloc (Below.refl _ _) (Nat.le_refl _) _)⟩
theorem Ags(h:C.Ms D X β w m)(i:Ad)(ho:i.op=8)(hk:m.top.k=1)(hy:m.top.y=false)(ha:0<=i.arg):Calls Tryz.prog 155 #[.pointer (some ⟨C.mb,0,none⟩),Ac i] w (MP C D X β w (m.pop.jump i.arg) (.tuple #[])):=by
 obtain⟨w0,Aq,Av,Ae,As,Aw,n0,n1,n2,n3,n4,n5,n6,n7,ln,lb,Ce⟩:=h.Ch i;clear h;have HT:=A0 Av.o.pop;have tk:(((m.top.k:Nat):Int) !=1)=false:=by rw[hk];rfl
 have t7:((i.op:Int)==7)=false:=by rw[ho];rfl
 have t8:((i.op:Int)==8)=true:=by rw[ho];rfl
 unfold Bg at HT;clear ho hk;unfold Ac;go_enter Tryz.func155,Tryz.ntmps155;go_wp2_with fail
 rw[←Aq.o];refine HT.o.mono ?_;rintro e w1 ⟨rfl,h1,k1⟩;have Ab:=(k1.block _ As.o).trans Aw.o;clear n0 n1 n2 n3 n4 n5 n6 n7 ln;obtain⟨n0,n1,n2,n3,n4,n5,n6,n7,ln⟩:=B9 Ab;obtain⟨⟨v7,c7⟩,f7⟩:=h1.Sk;have Bt:=h1.B7;obtain⟨s1,s2⟩:=h1.Ra i.arg ha;have HQ:=A0 (fun(W:World) (hb:Below (w1.setCell ⟨C.mb,7,none⟩ (.int .i64 i.arg)).heap.size (w1.setCell ⟨C.mb,7,none⟩ (.int .i64 i.arg)) W)=>And.intro (s1.below hb).1.back (Ae.o.trans ((Ag k1).trans ((Ag s2).trans (Ag (s1.below hb).2)))));clear h1 k1 Ab s1 s2;go_wp2;go_end0;exact⟨rfl,HQ.o _ (Below.alloc (Below.refl _ _) (Nat.le_refl _) _)⟩
end
section
open Go.RowKit
open Go.Deep (BT)
variable {C:MC} {D X:Nat->Prop} {w w':World} {m:MS} {ρ β:Nat->Nat} {s:Oz} {x:Ev} {fv:List Ev} {ab:List AB} {lp:List (Option Addr×Gs)}
theorem MC.Mv.Tf(h:C.Mv D X w m ρ β s x fv ab lp)(hc:Gg 5 ρ w w'){ca:Option Addr}{cn cc:Nat}{fv':List Ev}{calls:List Fr}{x':Ev}{now:Fr}{fuel cells code line:Nat}
  (hcell:w'.heap[C.mb]?=some (.cells (C.cells { s with ca:=ca,cn:=cn,cc:=cc } x' fuel cells code line) 167 (0,0)))
  (hrow:w'.ownsRow 0 165 3 (.slice ca cn cc) fv'.length (C6 Hv fv')) (hro:∀g,(Value.slice ca cn cc).ownBlock=some g->(Value.slice s.ca s.cn s.cc).ownBlock=some g\/w.heap.size<=g) (hx:Jh D w x' now) (hfr:Ka D w fv' calls) (hl:calls.length<=100) :
  C.Mv D X w' { m with calls:=calls,now:=now,fuel:=fuel,cells:=cells,code:=code,line:=line } (Eu ρ w.heap.size 5) β { s with ca:=ca,cn:=cn,cc:=cc } x' fv' ab lp:=by
 have hbd:=h.F0 hc (by omega);have hk:∀g,D g->g<w.heap.size->w'.heap[g]?=w.heap[g]?/\D g:=fun g hg _=>⟨hbd.block g (.inl hg),hg⟩;have hown:∀g,(Value.slice ca cn cc).ownBlock=some g->Eu ρ w.heap.size 5 g=5:=by
  intro g hg;rcases hro g hg with e|e
  ·rw[Bk (Bs h.calls g e)];exact h.callo g e
  ·exact Hw e
 refine⟨hcell,h.prog.keep hk,B3 h.lots (fun g hg hl=>hc.block g hl (by rw[h.loto g hg];omega) (by rw[h.loto g hg];omega)),fun g hg=>by rw[Bk (Bs h.lots g hg)];exact h.loto g hg,h.lotm,fun q hq=>(h.forms q hq).keep hk,
  B3 h.gl (fun g hg hl=>hc.block g hl (by rw[h.glo g hg];omega) (by rw[h.glo g hg];omega)),fun g hg=>by rw[Bk (Bs h.gl g hg)];exact h.glo g hg,B3 h.vals (fun g hg hl=>hc.block g hl (by rw[h.valo g hg];omega) (by rw[h.valo g hg];omega)),fun g hg=>by rw[Bk (Bs h.vals g hg)];exact h.valo g hg,
  hrow,hown,hfr.keep hk,hx.keep hk,
  B3 h.out (fun g hg hl=>hc.block g hl (by rw[h.outo g hg];omega) (by rw[h.outo g hg];omega)),fun g hg=>by rw[Bk (Bs h.out g hg)];exact h.outo g hg,h.arr.keep (fun g hl h7=>⟨hc.block g hl (by omega) (by omega),Bk hl⟩),
  fun g hg=>⟨Nat.lt_of_lt_of_le (h.prot g hg).1 hc.size,by rw[Bk (h.prot g hg).1];exact(h.prot g hg).2⟩,⟨by rw[Bk h.lo.1];exact h.one.1,fun g hg=>?_⟩,⟨h.Bq.1,hl,h.Bq.2.2⟩,h.vv⟩
 by_cases hl:g<w.heap.size
 ·rw[Bk hl]at hg;exact h.one.2 g hg
 ·rw[Hw (by omega)]at hg;cases hg
theorem MC.Mv.Abn(h:C.Mv D X w m ρ β s x fv ab lp)(hc:Gg 6 ρ w w'){oa:Option Addr}{on oc:Nat}{out:List (List UInt8)}{x':Ev}{now:Fr}{fuel cells code line:Nat}
  (hcell:w'.heap[C.mb]?=some (.cells (C.cells { s with oa:=oa,on:=on,oc:=oc } x' fuel cells code line) 167 (0,0)))
  (hrow:w'.ownsRow 0 9 1 (.slice oa on oc) out.length (C6 Re out)) (hro:∀g,(Value.slice oa on oc).ownBlock=some g->(Value.slice s.oa s.on s.oc).ownBlock=some g\/w.heap.size<=g) (hx:Jh D w x' now) (hl:out.length<=100) :
  C.Mv D X w' { m with out:=out,now:=now,fuel:=fuel,cells:=cells,code:=code,line:=line } (Eu ρ w.heap.size 6) β { s with oa:=oa,on:=on,oc:=oc } x' fv ab lp:=by
 have hbd:=h.F0 hc (by omega);have hk:∀g,D g->g<w.heap.size->w'.heap[g]?=w.heap[g]?/\D g:=fun g hg _=>⟨hbd.block g (.inl hg),hg⟩;have hown:∀g,(Value.slice oa on oc).ownBlock=some g->Eu ρ w.heap.size 6 g=6:=by
  intro g hg;rcases hro g hg with e|e
  ·rw[Bk (Bs h.out g e)];exact h.outo g e
  ·exact Hw e
 refine⟨hcell,h.prog.keep hk,B3 h.lots (fun g hg hl=>hc.block g hl (by rw[h.loto g hg];omega) (by rw[h.loto g hg];omega)),fun g hg=>by rw[Bk (Bs h.lots g hg)];exact h.loto g hg,h.lotm,fun q hq=>(h.forms q hq).keep hk,
  B3 h.gl (fun g hg hl=>hc.block g hl (by rw[h.glo g hg];omega) (by rw[h.glo g hg];omega)),fun g hg=>by rw[Bk (Bs h.gl g hg)];exact h.glo g hg,B3 h.vals (fun g hg hl=>hc.block g hl (by rw[h.valo g hg];omega) (by rw[h.valo g hg];omega)),fun g hg=>by rw[Bk (Bs h.vals g hg)];exact h.valo g hg,
  B3 h.calls (fun g hg hl=>hc.block g hl (by rw[h.callo g hg];omega) (by rw[h.callo g hg];omega)),fun g hg=>by rw[Bk (Bs h.calls g hg)];exact h.callo g hg,h.frs.keep hk,hx.keep hk,
  hrow,hown,h.arr.keep (fun g hl h7=>⟨hc.block g hl (by omega) (by omega),Bk hl⟩),
  fun g hg=>⟨Nat.lt_of_lt_of_le (h.prot g hg).1 hc.size,by rw[Bk (h.prot g hg).1];exact(h.prot g hg).2⟩,⟨by rw[Bk h.lo.1];exact h.one.1,fun g hg=>?_⟩,⟨h.Bq.1,h.Bq.2.1,hl⟩,h.vv⟩
 by_cases hl:g<w.heap.size
 ·rw[Bk hl]at hg;exact h.one.2 g hg
 ·rw[Hw (by omega)]at hg;cases hg
theorem MC.Mv.Z4(h:C.Mv D X w m ρ β s x fv ab lp)(hc:Gg 3 ρ w w'){ga:Option Addr}{gn gc:Nat}{gl:List PV}{x':Ev}{now:Fr}{fuel cells code line:Nat}
  (hcell:w'.heap[C.mb]?=some (.cells (C.cells { s with ga:=ga,gn:=gn,gc:=gc } x' fuel cells code line) 167 (0,0)))
  (hrow:w'.ownsRow 0 225 5 (.slice ga gn gc) gl.length (C6 (Fc β) gl)) (hro:∀g,(Value.slice ga gn gc).ownBlock=some g->(Value.slice s.ga s.gn s.gc).ownBlock=some g\/w.heap.size<=g) (hx:Jh D w x' now) (hvv:∀v∈gl,Dy m.arr.length v) :
  C.Mv D X w' { m with gl:=gl,now:=now,fuel:=fuel,cells:=cells,code:=code,line:=line } (Eu ρ w.heap.size 3) β { s with ga:=ga,gn:=gn,gc:=gc } x' fv ab lp:=by
 have hbd:=h.F0 hc (by omega);have hk:∀g,D g->g<w.heap.size->w'.heap[g]?=w.heap[g]?/\D g:=fun g hg _=>⟨hbd.block g (.inl hg),hg⟩;have hown:∀g,(Value.slice ga gn gc).ownBlock=some g->Eu ρ w.heap.size 3 g=3:=by
  intro g hg;rcases hro g hg with e|e
  ·rw[Bk (Bs h.gl g e)];exact h.glo g e
  ·exact Hw e
 refine⟨hcell,h.prog.keep hk,B3 h.lots (fun g hg hl=>hc.block g hl (by rw[h.loto g hg];omega) (by rw[h.loto g hg];omega)),fun g hg=>by rw[Bk (Bs h.lots g hg)];exact h.loto g hg,h.lotm,fun q hq=>(h.forms q hq).keep hk,
  hrow,hown,B3 h.vals (fun g hg hl=>hc.block g hl (by rw[h.valo g hg];omega) (by rw[h.valo g hg];omega)),fun g hg=>by rw[Bk (Bs h.vals g hg)];exact h.valo g hg,
  B3 h.calls (fun g hg hl=>hc.block g hl (by rw[h.callo g hg];omega) (by rw[h.callo g hg];omega)),fun g hg=>by rw[Bk (Bs h.calls g hg)];exact h.callo g hg,h.frs.keep hk,hx.keep hk,
  B3 h.out (fun g hg hl=>hc.block g hl (by rw[h.outo g hg];omega) (by rw[h.outo g hg];omega)),fun g hg=>by rw[Bk (Bs h.out g hg)];exact h.outo g hg,h.arr.keep (fun g hl h7=>⟨hc.block g hl (by omega) (by omega),Bk hl⟩),
  fun g hg=>⟨Nat.lt_of_lt_of_le (h.prot g hg).1 hc.size,by rw[Bk (h.prot g hg).1];exact(h.prot g hg).2⟩,⟨by rw[Bk h.lo.1];exact h.one.1,fun g hg=>?_⟩,h.Bq,⟨h.vv.1,hvv,h.vv.2.2⟩⟩
 by_cases hl:g<w.heap.size
 ·rw[Bk hl]at hg;exact h.one.2 g hg
 ·rw[Hw (by omega)]at hg;cases hg
theorem MC.Mv.A4o(h:C.Mv D X w m ρ β s x fv ab lp)(hc:Gg 2 ρ w w'){la:Option Addr}{ln lc:Nat}{lp':List (Option Addr×Gs)}{x':Ev}{now:Fr}{fuel cells code line:Nat}
  (hcell:w'.heap[C.mb]?=some (.cells (C.cells { s with la:=la,ln:=ln,lc:=lc } x' fuel cells code line) 167 (0,0)))
  (hrow:w'.ownsRow 0 172 4 (.slice la ln lc) lp'.length (C6 I7 lp')) (hro:∀g,(Value.slice la ln lc).ownBlock=some g->(Value.slice s.la s.ln s.lc).ownBlock=some g\/w.heap.size<=g) (hx:Jh D w x' now) (hf:∀q∈lp',Lh D w q.1 q.2.form) :
  C.Mv D X w' { m with lots:=lp'.map Prod.snd,now:=now,fuel:=fuel,cells:=cells,code:=code,line:=line } (Eu ρ w.heap.size 2) β { s with la:=la,ln:=ln,lc:=lc } x' fv ab lp':=by
 have hbd:=h.F0 hc (by omega);have hk:∀g,D g->g<w.heap.size->w'.heap[g]?=w.heap[g]?/\D g:=fun g hg _=>⟨hbd.block g (.inl hg),hg⟩;have hown:∀g,(Value.slice la ln lc).ownBlock=some g->Eu ρ w.heap.size 2 g=2:=by
  intro g hg;rcases hro g hg with e|e
  ·rw[Bk (Bs h.lots g e)];exact h.loto g e
  ·exact Hw e
 refine⟨hcell,h.prog.keep hk,hrow,hown,rfl,fun q hq=>(hf q hq).keep hk,
  B3 h.gl (fun g hg hl=>hc.block g hl (by rw[h.glo g hg];omega) (by rw[h.glo g hg];omega)),fun g hg=>by rw[Bk (Bs h.gl g hg)];exact h.glo g hg,B3 h.vals (fun g hg hl=>hc.block g hl (by rw[h.valo g hg];omega) (by rw[h.valo g hg];omega)),fun g hg=>by rw[Bk (Bs h.vals g hg)];exact h.valo g hg,
  B3 h.calls (fun g hg hl=>hc.block g hl (by rw[h.callo g hg];omega) (by rw[h.callo g hg];omega)),fun g hg=>by rw[Bk (Bs h.calls g hg)];exact h.callo g hg,h.frs.keep hk,hx.keep hk,
  B3 h.out (fun g hg hl=>hc.block g hl (by rw[h.outo g hg];omega) (by rw[h.outo g hg];omega)),fun g hg=>by rw[Bk (Bs h.out g hg)];exact h.outo g hg,h.arr.keep (fun g hl h7=>⟨hc.block g hl (by omega) (by omega),Bk hl⟩),
  fun g hg=>⟨Nat.lt_of_lt_of_le (h.prot g hg).1 hc.size,by rw[Bk (h.prot g hg).1];exact(h.prot g hg).2⟩,⟨by rw[Bk h.lo.1];exact h.one.1,fun g hg=>?_⟩,h.Bq,h.vv⟩
 by_cases hl:g<w.heap.size
 ·rw[Bk hl]at hg;exact h.one.2 g hg
 ·rw[Hw (by omega)]at hg;cases hg
theorem MC.Ms.An1(h:C.Ms D X β w m)(Y:Nat->Prop)(hY:∀g,Y g->X g):C.Ms (fun g=>D g\/Y g) X β w m:=by
 obtain⟨ρ,s,x,fv,ab,lp,h⟩:=h;have hk:∀g,D g->g<w.heap.size->w.heap[g]?=w.heap[g]?/\(D g\/Y g):=fun g hg _=>⟨rfl,.inl hg⟩;refine⟨ρ,s,x,fv,ab,lp,h.cell,h.prog.keep hk,h.lots,h.loto,h.lotm,fun q hq=>(h.forms q hq).keep hk,h.gl,h.glo,h.vals,h.valo,h.calls,h.callo,h.frs.keep hk,h.now.keep hk,h.out,h.outo,h.arr,?_,h.one,h.Bq,h.vv⟩;intro g hg;rcases hg with(hg|hg)|hg
 ·exact h.prot g (.inl hg)
 ·exact h.prot g (.inr (hY g hg))
 ·exact h.prot g (.inr hg)
theorem A3d:∀{xs:List Ev} {fs:List Fr},Ka D w xs fs->Jh D w (xs.getLastD Nd) (fs.getLastD ⟨[],0,0⟩):=by
 intro xs;induction xs with
 | nil=>intro fs h;cases fs with
  | nil=>exact⟨O8 _ _ _ _,rfl,rfl⟩
  | cons=>exact h.elim
 | cons x xs ih=>intro fs h;cases fs with
  | nil=>exact h.elim
  | cons f fs=>
   cases xs with
   | nil=>cases fs with
    | nil=>exact h.1
    | cons=>exact h.2.elim
   | cons y ys=>cases fs with
    | nil=>exact h.2.elim
    | cons g gs=>
     have q:=ih (fs:=g::gs) h.2;simpa only[List.getLastD_cons]using q
theorem Ka.less:∀{xs:List Ev} {fs:List Fr},Ka D w xs fs->Ka D w xs.dropLast fs.dropLast:=by
 intro xs;induction xs with
 | nil=>intro fs h;cases fs with
  | nil=>trivial
  | cons=>exact h.elim
 | cons x xs ih=>intro fs h;cases fs with
  | nil=>exact h.elim
  | cons f fs=>
   cases xs with
   | nil=>cases fs with
    | nil=>trivial
    | cons=>exact h.2.elim
   | cons y ys=>cases fs with
    | nil=>exact h.2.elim
    | cons g gs=>exact⟨h.1,ih h.2⟩
def R6(x:Ev):Value:=.agg #[.slice x.a x.n x.c,.int .i64 (x.pc:Nat),.int .i64 x.base]
theorem MC.Ms.Zb(h:C.Ms D X β w m):Calls Tryz.prog 202 #[.pointer (some ⟨C.mb,5,none⟩)] w fun e w'=>e=.returned (.int .i64 (m.calls.length:Nat))/\w'=w:=by
 obtain⟨ρ,s,x,fv,ab,lp,h⟩:=h;rw[←h.frs.len];exact V1 h.M6
theorem MC.Ms.A1a(h:C.Ms D X β w m):Calls Tryz.prog 206 #[.pointer (some ⟨C.mb,5,none⟩)] w fun e w'=>∃x,e=.returned (R6 x)/\Jh D w' x (m.calls.getLastD ⟨[],0,0⟩)/\C.Ms D X β w' { m with calls:=m.calls.dropLast }/\A3 (dx D X) w w':=by
 obtain⟨ρ,s,x,fv,ab,lp,h⟩:=h;have hfl:=h.frs.len;refine(Abp h.M6 (by have:=h.Bq.2.1;omega) (by simp[MC.cells]) (fv.getLastD Nd) rfl).mono ?_;rintro e w1 ⟨rfl,hs,hf⟩;have hc:Gg 5 ρ w w1:=Rf hf h.one.1 h.callo;have hbd:=h.F0 hc (by omega);refine⟨_,rfl,(A3d h.frs).keep (fun g hg _=>⟨hbd.block g (.inl hg),hg⟩),⟨_,{ s with ca:=s.ca,cn:=fv.length-1,cc:=s.cc },x,fv.take (fv.length-1),ab,lp,h.Tf hc ?_ hs.own (fun g hg=>.inl ((M9 _ _ _ _).trans hg)) h.now ?_ ?_⟩,hbd⟩
 ·rw[hs.blk];simp[MC.cells]
 ·rw[j5];exact h.frs.less
 ·have:=h.Bq.2.1;simp;omega
theorem MC.Ms.Aiw(h:C.Ms D X β w m)(u:Ev)(f:Fr)(hu:Jh D w u f)(hn:m.calls.length+1<=100):Calls Tryz.prog 203 #[.pointer (some ⟨C.mb,5,none⟩),R6 u] w (MP C D X β w { m with calls:=m.calls++[f] } (.tuple #[])):=by
 obtain⟨ρ,s,x,fv,ab,lp,h⟩:=h;have hfl:=h.frs.len;refine(Ajx h.M6 (by omega) u (by simp[MC.cells])).mono ?_;rintro e w1 ⟨rfl,g,cap,hs,hat,hf⟩;have hc:Gg 5 ρ w w1:=Rf hf h.one.1 h.callo;refine⟨rfl,⟨_,{ s with ca:=some ⟨g,0,none⟩,cn:=fv.length+1,cc:=cap },x,fv++[u],ab,lp,h.Tf hc ?_ hs.own ?_ h.now (h.frs.app hu) (by simp;omega)⟩,h.F0 hc (by omega)⟩
 ·rw[hs.blk];simp[MC.cells]
 ·intro k hk;simp only[Value.ownBlock,Option.some.injEq]at hk;rw[←hk];exact hat
theorem MC.Ms.Rt(h:C.Ms D X β w m):∃x,Jh D w x m.now/\w.cell? ⟨C.mb,6,none⟩=some (.slice x.a x.n x.c)/\w.cell? ⟨C.mb,7,none⟩=some (.int .i64 (x.pc:Nat))/\w.cell? ⟨C.mb,8,none⟩=some (.int .i64 x.base)/\(∀o,w.frozen? ⟨C.mb,o,none⟩=false):=by
 obtain⟨ρ,s,x,fv,ab,lp,h⟩:=h;exact⟨x,h.now,A2 h.cell 6 _ rfl,A2 h.cell 7 _ rfl,A2 h.cell 8 _ rfl,Bd h.cell⟩
theorem MC.Ms.Qc(h:C.Ms D X β w m)(u:Ev)(f:Fr)(hu:Jh D w u f):C.Ms D X β (((w.setCell ⟨C.mb,6,none⟩ (.slice u.a u.n u.c)).setCell ⟨C.mb,7,none⟩ (.int .i64 (u.pc:Nat))).setCell ⟨C.mb,8,none⟩ (.int .i64 u.base)) { m with now:=f }/\A3 (dx D X) w (((w.setCell ⟨C.mb,6,none⟩ (.slice u.a u.n u.c)).setCell ⟨C.mb,7,none⟩ (.int .i64 (u.pc:Nat))).setCell ⟨C.mb,8,none⟩ (.int .i64 u.base)):=by
 obtain⟨ρ,s,x,fv,ab,lp,hv⟩:=h;refine hv.plain (now:=f) (x':=u) hu ?_ (fun g _ hne=>?_) (by simp[World.setCell]) (by simp only[Pd]) (by simp only[Pk]) (by simp only[Pf])
 ·rw[heap_set (j:=8) (heap_set (j:=7) (heap_set (j:=6) hv.cell _) _) _];simp[MC.cells]
 ·rw[Below.heap_setCell _ _ _ _ (by exact hne),Below.heap_setCell _ _ _ _ (by exact hne),Below.heap_setCell _ _ _ _ (by exact hne)]
end
section
set_option maxRecDepth 100000
open Go.RowKit
open Go.Deep (BT)
variable {C:MC} {D X:Nat->Prop} {w w':World} {m:MS} {β:Nat->Nat}
theorem MC.Ms.Q3(h:C.Ms D X β w m){a b:PV}(ha:Dy m.arr.length a)(hb:Dy m.arr.length b)(d:Nat):(Op.equalIn (d+1) 223 (.pointer (Ca β a)) (.pointer (Ca β b))).run Tryz.prog w=.ok (a.r==b.r) w:=by
 obtain⟨ρ,s,x,fv,ab,lp,h⟩:=h;have hp:Tryz.prog.underlying 223=some (.pointer 356):=by kernel_rfl
 have hs:(Tryz.prog.info? 356).map (fun j=>j.size !=0)=some true:=by kernel_rfl
 cases hj:Tryz.prog.info? 356 with
 | none=>rw[hj]at hs;cases hs
 | some j=>
 have hz:j.size≠0:=by rw[hj]at hs;simpa using hs
 unfold Ca;unfold Dy at ha hb;cases hr:a.r with
 | none=>
  cases hr':b.r with
  | none=>simp[Op.equalIn,run_underlying hp]
  | some y=>simp[Op.equalIn,run_underlying hp]
 | some x=>
  cases hr':b.r with
  | none=>simp[Op.equalIn,run_underlying hp]
  | some y=>
   rw[hr]at ha;rw[hr']at hb;have hl:=h.arr.len;obtain⟨k1,_,k3,_⟩:=h.arr.at' x (by omega) ha.2;obtain⟨l1,_,l3,_⟩:=h.arr.at' y (by omega) hb.2;by_cases he:x=y
   ·rw[he];simp[Op.equalIn,run_underlying hp,sizeOf,typeInfo,hj,run_sameAddr_same]
   ·have hne:(⟨β x,0,none⟩:Addr)≠⟨β y,0,none⟩:=by
     intro e;have e1:β x=β y:=by injection e
     rw[e1]at k3;omega
    have hs:=run_sameAddr_other (P:=Tryz.prog) w hne k1 l1;have hq:((some x:Option Nat)==some y)=false:=by simp[he]
    rw[hq];simp[Op.equalIn,run_underlying hp,sizeOf,typeInfo,hj,hz,hs]
theorem Vk(a b:List UInt8):((⟨a.toArray⟩:ByteArray).toList==(⟨b.toArray⟩:ByteArray).toList)=(a==b):=by
 have h1:∀l:List UInt8,(⟨l.toArray⟩:ByteArray).toList=l:=fun l=>by simp[ByteArray.toList_mk]
 rw[h1,h1]
theorem O5(a b:PV)(β:Nat->Nat)(w:World):Calls Tryz.prog 254 #[Bg β a,Bg β b] w fun e w'=>e=.returned (.bool (before a b))/\Below w.heap.size w w':=by
 unfold Bg before;cases hn:decide (a.n<b.n)
 ·have hn':=hn;clear hn;go_enter Tryz.func254,Tryz.ntmps254;go_wp2;go_ret;exact⟨rfl,Below.alloc (Below.alloc (Below.refl _ _) (Nat.le_refl _) _) (by simp) _⟩
 ·have hn':=hn;clear hn;go_enter Tryz.func254,Tryz.ntmps254;go_wp2;go_ret;exact⟨rfl,Below.alloc (Below.alloc (Below.refl _ _) (Nat.le_refl _) _) (by simp) _⟩
theorem Ak7(h:C.Ms D X β w m)(i:Ad)(hva:Dy m.arr.length m.pop.top)(hvb:Dy m.arr.length m.top)(hn:m.vals.length+1<=100000)(he:m.pop.top=m.top):Calls Tryz.prog 219 #[.pointer (some ⟨C.mb,0,none⟩),Ac i] w (MP C D X β w (m.pop.pop.push (ofBool true)) (.tuple #[])):=by
 obtain⟨w0,Aq,Av,Ae,As,Aw,n0,n1,n2,n3,n4,n5,n6,n7,ln,lb,Ce⟩:=h.Ch i;clear h;have HT:=A0 (Fe Av.o);rw[he]at hva HT;clear he;generalize m.top=v at *;unfold Ac;go_enter Tryz.func219,Tryz.ntmps219;go_wp2_with fail
 rw[←Aq.o];refine HT.o.mono ?_;rintro e w1 ⟨rfl,h1,k1⟩;unfold Bg;have Bt:=h1.B7;have A9:=A0 h1;have A5:Hid (A3 (dx D X) w w1):=Ae.o.trans (Ag k1);have Ab:=(k1.block _ As.o).trans Aw.o;have Br:=A0 Ab;clear n0 n1 n2 n3 n4 n5 n6 n7 ln;obtain⟨n0,n1,n2,n3,n4,n5,n6,n7,ln⟩:=B9 Ab;clear h1 k1 Ab;have Ay:=A0 (fun(W:World) (hb:Below w1.heap.size w1 W)=>And.intro (Ja (A9.o.below hb).1 true (by simp[MS.pop];omega)) (A5.o.trans (Ag (A9.o.below hb).2)));have hqe:=fun(o o':Obj)=>(A9.o.below (Below.alloc (Below.alloc (Below.refl _ _) (Nat.le_refl _) o) (by simp) o')).1.Q3 hva hvb 9998;go_wp2_with fail
 refine((Ay.o _ (by repeat (first|exact Below.refl _ _|refine Below.alloc ?_ (by simp) _|refine Below.setCell ?_ (by simp) _|refine Below.drew ?_))).1).mono ?_;rintro e w2 ⟨rfl,h2,k2⟩;have Ak:=A0 h2.back;have Aa:Hid (A3 (dx D X) w w2):=(Ay.o _ (by repeat (first|exact Below.refl _ _|refine Below.alloc ?_ (by simp) _|refine Below.setCell ?_ (by simp) _|refine Below.drew ?_))).2.trans (Ag k2);clear h2 k2;go_wp2;go_end0;exact⟨rfl,Ak.o,Aa.o⟩
theorem A2t(h:C.Ms D X β w m)(i:Ad)(hva:Dy m.arr.length m.pop.top)(hvb:Dy m.arr.length m.top)(hn:m.vals.length+1<=100000)(hk:(m.pop.top.k==m.top.k)=false):Calls Tryz.prog 219 #[.pointer (some ⟨C.mb,0,none⟩),Ac i] w (MP C D X β w (m.pop.pop.push (ofBool false)) (.tuple #[])):=by
 obtain⟨w0,Aq,Av,Ae,As,Aw,n0,n1,n2,n3,n4,n5,n6,n7,ln,lb,Ce⟩:=h.Ch i;clear h;have HT:=A0 (Fe Av.o);generalize m.pop.top=u at *;generalize m.top=v at *;have tk:((u.k:Int)==(v.k:Int))=(u.k==v.k):=by
  cases h:(u.k==v.k)
  ·rw[beq_eq_false_iff_ne]at h ⊢;omega
  ·rw[beq_iff_eq]at h ⊢;omega
 rw[hk]at tk;clear hk;unfold Ac;go_enter Tryz.func219,Tryz.ntmps219;go_wp2_with fail
 rw[←Aq.o];refine HT.o.mono ?_;rintro e w1 ⟨rfl,h1,k1⟩;unfold Bg;have Bt:=h1.B7;have A9:=A0 h1;have A5:Hid (A3 (dx D X) w w1):=Ae.o.trans (Ag k1);have Ab:=(k1.block _ As.o).trans Aw.o;have Br:=A0 Ab;clear n0 n1 n2 n3 n4 n5 n6 n7 ln;obtain⟨n0,n1,n2,n3,n4,n5,n6,n7,ln⟩:=B9 Ab;clear h1 k1 Ab;have Ay:=A0 (fun(W:World) (hb:Below w1.heap.size w1 W)=>And.intro (Ja (A9.o.below hb).1 false (by simp[MS.pop];omega)) (A5.o.trans (Ag (A9.o.below hb).2)));have hqe:=fun(o o':Obj)=>(A9.o.below (Below.alloc (Below.alloc (Below.refl _ _) (Nat.le_refl _) o) (by simp) o')).1.Q3 hva hvb 9998;go_wp2_with fail
 refine((Ay.o _ (by repeat (first|exact Below.refl _ _|refine Below.alloc ?_ (by simp) _|refine Below.setCell ?_ (by simp) _|refine Below.drew ?_))).1).mono ?_;rintro e w2 ⟨rfl,h2,k2⟩;have Ak:=A0 h2.back;have Aa:Hid (A3 (dx D X) w w2):=(Ay.o _ (by repeat (first|exact Below.refl _ _|refine Below.alloc ?_ (by simp) _|refine Below.setCell ?_ (by simp) _|refine Below.drew ?_))).2.trans (Ag k2);clear h2 k2;go_wp2;go_end0;exact⟨rfl,Ak.o,Aa.o⟩
theorem A51(h:C.Ms D X β w m)(i:Ad)(hva:Dy m.arr.length m.pop.top)(hvb:Dy m.arr.length m.top)(hn:m.vals.length+1<=100000)(hk:(m.pop.top.k==m.top.k)=true)(hy:(m.pop.top.y==m.top.y)=false):Calls Tryz.prog 219 #[.pointer (some ⟨C.mb,0,none⟩),Ac i] w (MP C D X β w (m.pop.pop.push (ofBool false)) (.tuple #[])):=by
 obtain⟨w0,Aq,Av,Ae,As,Aw,n0,n1,n2,n3,n4,n5,n6,n7,ln,lb,Ce⟩:=h.Ch i;clear h;have HT:=A0 (Fe Av.o);generalize m.pop.top=u at *;generalize m.top=v at *;have tk:((u.k:Int)==(v.k:Int))=(u.k==v.k):=by
  cases h:(u.k==v.k)
  ·rw[beq_eq_false_iff_ne]at h ⊢;omega
  ·rw[beq_iff_eq]at h ⊢;omega
 rw[hk]at tk;clear hk;unfold Ac;go_enter Tryz.func219,Tryz.ntmps219;go_wp2_with fail
 rw[←Aq.o];refine HT.o.mono ?_;rintro e w1 ⟨rfl,h1,k1⟩;unfold Bg;have Bt:=h1.B7;have A9:=A0 h1;have A5:Hid (A3 (dx D X) w w1):=Ae.o.trans (Ag k1);have Ab:=(k1.block _ As.o).trans Aw.o;have Br:=A0 Ab;clear n0 n1 n2 n3 n4 n5 n6 n7 ln;obtain⟨n0,n1,n2,n3,n4,n5,n6,n7,ln⟩:=B9 Ab;clear h1 k1 Ab;have Ay:=A0 (fun(W:World) (hb:Below w1.heap.size w1 W)=>And.intro (Ja (A9.o.below hb).1 false (by simp[MS.pop];omega)) (A5.o.trans (Ag (A9.o.below hb).2)));have hqe:=fun(o o':Obj)=>(A9.o.below (Below.alloc (Below.alloc (Below.refl _ _) (Nat.le_refl _) o) (by simp) o')).1.Q3 hva hvb 9998;go_wp2_with fail
 refine((Ay.o _ (by repeat (first|exact Below.refl _ _|refine Below.alloc ?_ (by simp) _|refine Below.setCell ?_ (by simp) _|refine Below.drew ?_))).1).mono ?_;rintro e w2 ⟨rfl,h2,k2⟩;have Ak:=A0 h2.back;have Aa:Hid (A3 (dx D X) w w2):=(Ay.o _ (by repeat (first|exact Below.refl _ _|refine Below.alloc ?_ (by simp) _|refine Below.setCell ?_ (by simp) _|refine Below.drew ?_))).2.trans (Ag k2);clear h2 k2;go_wp2;go_end0;exact⟨rfl,Ak.o,Aa.o⟩
theorem Adu(h:C.Ms D X β w m)(i:Ad)(hva:Dy m.arr.length m.pop.top)(hvb:Dy m.arr.length m.top)(hn:m.vals.length+1<=100000)(hk:(m.pop.top.k==m.top.k)=true)(hy:(m.pop.top.y==m.top.y)=true)(hnn:(m.pop.top.n==m.top.n)=false):Calls Tryz.prog 219 #[.pointer (some ⟨C.mb,0,none⟩),Ac i] w (MP C D X β w (m.pop.pop.push (ofBool false)) (.tuple #[])):=by
 obtain⟨w0,Aq,Av,Ae,As,Aw,n0,n1,n2,n3,n4,n5,n6,n7,ln,lb,Ce⟩:=h.Ch i;clear h;have HT:=A0 (Fe Av.o);generalize m.pop.top=u at *;generalize m.top=v at *;have tk:((u.k:Int)==(v.k:Int))=(u.k==v.k):=by
  cases h:(u.k==v.k)
  ·rw[beq_eq_false_iff_ne]at h ⊢;omega
  ·rw[beq_iff_eq]at h ⊢;omega
 rw[hk]at tk;clear hk;unfold Ac;go_enter Tryz.func219,Tryz.ntmps219;go_wp2_with fail
 rw[←Aq.o];refine HT.o.mono ?_;rintro e w1 ⟨rfl,h1,k1⟩;unfold Bg;have Bt:=h1.B7;have A9:=A0 h1;have A5:Hid (A3 (dx D X) w w1):=Ae.o.trans (Ag k1);have Ab:=(k1.block _ As.o).trans Aw.o;have Br:=A0 Ab;clear n0 n1 n2 n3 n4 n5 n6 n7 ln;obtain⟨n0,n1,n2,n3,n4,n5,n6,n7,ln⟩:=B9 Ab;clear h1 k1 Ab;have Ay:=A0 (fun(W:World) (hb:Below w1.heap.size w1 W)=>And.intro (Ja (A9.o.below hb).1 false (by simp[MS.pop];omega)) (A5.o.trans (Ag (A9.o.below hb).2)));have hqe:=fun(o o':Obj)=>(A9.o.below (Below.alloc (Below.alloc (Below.refl _ _) (Nat.le_refl _) o) (by simp) o')).1.Q3 hva hvb 9998;go_wp2_with fail
 refine((Ay.o _ (by repeat (first|exact Below.refl _ _|refine Below.alloc ?_ (by simp) _|refine Below.setCell ?_ (by simp) _|refine Below.drew ?_))).1).mono ?_;rintro e w2 ⟨rfl,h2,k2⟩;have Ak:=A0 h2.back;have Aa:Hid (A3 (dx D X) w w2):=(Ay.o _ (by repeat (first|exact Below.refl _ _|refine Below.alloc ?_ (by simp) _|refine Below.setCell ?_ (by simp) _|refine Below.drew ?_))).2.trans (Ag k2);clear h2 k2;go_wp2;go_end0;exact⟨rfl,Ak.o,Aa.o⟩
theorem Abu(h:C.Ms D X β w m)(i:Ad)(hva:Dy m.arr.length m.pop.top)(hvb:Dy m.arr.length m.top)(hn:m.vals.length+1<=100000)(hk:(m.pop.top.k==m.top.k)=true)(hy:(m.pop.top.y==m.top.y)=true)(hnn:(m.pop.top.n==m.top.n)=true)(ht:(m.pop.top.t==m.top.t)=false):Calls Tryz.prog 219 #[.pointer (some ⟨C.mb,0,none⟩),Ac i] w (MP C D X β w (m.pop.pop.push (ofBool false)) (.tuple #[])):=by
 obtain⟨w0,Aq,Av,Ae,As,Aw,n0,n1,n2,n3,n4,n5,n6,n7,ln,lb,Ce⟩:=h.Ch i;clear h;have HT:=A0 (Fe Av.o);generalize m.pop.top=u at *;generalize m.top=v at *;have tk:((u.k:Int)==(v.k:Int))=(u.k==v.k):=by
  cases h:(u.k==v.k)
  ·rw[beq_eq_false_iff_ne]at h ⊢;omega
  ·rw[beq_iff_eq]at h ⊢;omega
 rw[hk]at tk;clear hk;have ht2:=ht;unfold Ac;go_enter Tryz.func219,Tryz.ntmps219;go_wp2_with fail
 rw[←Aq.o];refine HT.o.mono ?_;rintro e w1 ⟨rfl,h1,k1⟩;unfold Bg;have Bt:=h1.B7;have A9:=A0 h1;have A5:Hid (A3 (dx D X) w w1):=Ae.o.trans (Ag k1);have Ab:=(k1.block _ As.o).trans Aw.o;have Br:=A0 Ab;clear n0 n1 n2 n3 n4 n5 n6 n7 ln;obtain⟨n0,n1,n2,n3,n4,n5,n6,n7,ln⟩:=B9 Ab;clear h1 k1 Ab;have Ay:=A0 (fun(W:World) (hb:Below w1.heap.size w1 W)=>And.intro (Ja (A9.o.below hb).1 false (by simp[MS.pop];omega)) (A5.o.trans (Ag (A9.o.below hb).2)));have hqe:=fun(o o':Obj)=>(A9.o.below (Below.alloc (Below.alloc (Below.refl _ _) (Nat.le_refl _) o) (by simp) o')).1.Q3 hva hvb 9998;go_wp2_with fail
 refine((Ay.o _ (by repeat (first|exact Below.refl _ _|refine Below.alloc ?_ (by simp) _|refine Below.setCell ?_ (by simp) _|refine Below.drew ?_))).1).mono ?_;rintro e w2 ⟨rfl,h2,k2⟩;have Ak:=A0 h2.back;have Aa:Hid (A3 (dx D X) w w2):=(Ay.o _ (by repeat (first|exact Below.refl _ _|refine Below.alloc ?_ (by simp) _|refine Below.setCell ?_ (by simp) _|refine Below.drew ?_))).2.trans (Ag k2);clear h2 k2;go_wp2;go_end0;exact⟨rfl,Ak.o,Aa.o⟩
theorem Ahc(h:C.Ms D X β w m)(i:Ad)(hva:Dy m.arr.length m.pop.top)(hvb:Dy m.arr.length m.top)(hn:m.vals.length+1<=100000)(hk:(m.pop.top.k==m.top.k)=true)(hy:(m.pop.top.y==m.top.y)=true)(hnn:(m.pop.top.n==m.top.n)=true)(ht:(m.pop.top.t==m.top.t)=true)(hr:(m.pop.top.r==m.top.r)=false):Calls Tryz.prog 219 #[.pointer (some ⟨C.mb,0,none⟩),Ac i] w (MP C D X β w (m.pop.pop.push (ofBool false)) (.tuple #[])):=by
 obtain⟨w0,Aq,Av,Ae,As,Aw,n0,n1,n2,n3,n4,n5,n6,n7,ln,lb,Ce⟩:=h.Ch i;clear h;have HT:=A0 (Fe Av.o);generalize m.pop.top=u at *;generalize m.top=v at *;have tk:((u.k:Int)==(v.k:Int))=(u.k==v.k):=by
  cases h:(u.k==v.k)
  ·rw[beq_eq_false_iff_ne]at h ⊢;omega
  ·rw[beq_iff_eq]at h ⊢;omega
 rw[hk]at tk;clear hk;have ht2:=ht;unfold Ac;go_enter Tryz.func219,Tryz.ntmps219;go_wp2_with fail
 rw[←Aq.o];refine HT.o.mono ?_;rintro e w1 ⟨rfl,h1,k1⟩;unfold Bg;have Bt:=h1.B7;have A9:=A0 h1;have A5:Hid (A3 (dx D X) w w1):=Ae.o.trans (Ag k1);have Ab:=(k1.block _ As.o).trans Aw.o;have Br:=A0 Ab;clear n0 n1 n2 n3 n4 n5 n6 n7 ln;obtain⟨n0,n1,n2,n3,n4,n5,n6,n7,ln⟩:=B9 Ab;clear h1 k1 Ab;have Ay:=A0 (fun(W:World) (hb:Below w1.heap.size w1 W)=>And.intro (Ja (A9.o.below hb).1 false (by simp[MS.pop];omega)) (A5.o.trans (Ag (A9.o.below hb).2)));have hqe:=fun(o o':Obj)=>(A9.o.below (Below.alloc (Below.alloc (Below.refl _ _) (Nat.le_refl _) o) (by simp) o')).1.Q3 hva hvb 9998;rw[hr]at hqe;go_wp2_with fail
 refine((Ay.o _ (by repeat (first|exact Below.refl _ _|refine Below.alloc ?_ (by simp) _|refine Below.setCell ?_ (by simp) _|refine Below.drew ?_))).1).mono ?_;rintro e w2 ⟨rfl,h2,k2⟩;have Ak:=A0 h2.back;have Aa:Hid (A3 (dx D X) w w2):=(Ay.o _ (by repeat (first|exact Below.refl _ _|refine Below.alloc ?_ (by simp) _|refine Below.setCell ?_ (by simp) _|refine Below.drew ?_))).2.trans (Ag k2);clear h2 k2;go_wp2;go_end0;exact⟨rfl,Ak.o,Aa.o⟩
end
end Go.Proofs.YtjdlndhfaaolaaaGreatDoor
