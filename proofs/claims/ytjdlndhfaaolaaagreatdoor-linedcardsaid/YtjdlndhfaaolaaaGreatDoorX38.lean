import Derived.Test.YtjdlndhfaaolaaaGreatDoorX16
import Derived.Test.YtjdlndhfaaolaaaGreatDoorX37
set_option maxHeartbeats 20000000
namespace Go.Proofs.YtjdlndhfaaolaaaGreatDoor
section
set_option maxRecDepth 100000
open Go.RowKit
open Go.Deep (BT)
variable {C:MC} {D X:Nat->Prop} {w w':World} {m:MS} {β:Nat->Nat}
theorem MC.Ms.base(h:C.Ms D X β w m):w.cell? ⟨C.mb,8,none⟩=some (.int .i64 m.now.base):=by
 obtain⟨ρ,s,x,fv,ab,lp,h⟩:=h;have:=A7 h.cell 8 (.int .i64 x.base) rfl;rw[h.now.base]at this;exact this
theorem A7a(h:C.Ms D X β w m)(i:Af)(ha:0<=i.arg):Calls Tryz.prog 154 #[.pointer (some ⟨C.mb,0,none⟩),Ag i] w (MP C D X β w (m.jump i.arg) (.tuple #[])):=by
 obtain⟨ρ,s,x,fv,ab,lp,h⟩:=h;obtain⟨c0,c1,c2,c3,c4,c5,c6,c7,c8,c9,c10,c11,c12,c13,fz,lb⟩:=Q5 (show w.heap[C.mb]?=some (.cells #[_,_,_,_,_,_,_,_,_,_,_,_,_,_] _ (0,0)) from h.cell);have HH:=A0 h;have HA:Hid (((i.arg.toNat:Nat):Int)=i.arg):=by show _=_;omega
 have HN:=A0 (show Jp D w { x with pc:=i.arg.toNat } ⟨m.now.steps,i.arg.toNat,m.now.base⟩ from⟨h.now.row,rfl,h.now.base⟩);clear h c0 c1 c2 c3 c4 c5 c6 c8 c9 c10 c11 c12 c13 ha;unfold Ag;go_enter Tryz.func154,Tryz.ntmps154;go_wp2;go_end0;rw[show Value.int .i64 i.arg=.int .i64 ((i.arg.toNat:Nat):Int) by rw[HA.o]];have hcl:((w.setCell ⟨C.mb,7,none⟩ (.int .i64 ((i.arg.toNat:Nat):Int))).alloc (.cells #[.int .i64 (i.op:Nat),.int .i64 ((i.arg.toNat:Nat):Int),.int .i64 (i.line:Nat),.int .i64 (i.v.k:Nat),.bool i.v.y,.int .i64 i.v.n,.string ⟨i.v.t.toArray⟩,.pointer none] 251)).heap[C.mb]?=some (.cells (C.cells s { x with pc:=i.arg.toNat } (m.fuel) (m.cells) (m.code) (m.line)) 167 (0,0)):=by
  rw[Below.heap_alloc _ _ _ z50a,(heap_set (j:=7) HH.o.cell (.int .i64 ((i.arg.toNat:Nat):Int)))];simp[MC.cells]
 have hkk:∀g,g<w.heap.size->g≠C.mb->((w.setCell ⟨C.mb,7,none⟩ (.int .i64 ((i.arg.toNat:Nat):Int))).alloc (.cells #[.int .i64 (i.op:Nat),.int .i64 ((i.arg.toNat:Nat):Int),.int .i64 (i.line:Nat),.int .i64 (i.v.k:Nat),.bool i.v.y,.int .i64 i.v.n,.string ⟨i.v.t.toArray⟩,.pointer none] 251)).heap[g]?=w.heap[g]?:=by
  exact z1ua
 have hpl:=HH.o.plain (now:=⟨m.now.steps,i.arg.toNat,m.now.base⟩) (fuel:=m.fuel) (cells:=m.cells) (code:=m.code) (line:=m.line) (x':={ x with pc:=i.arg.toNat }) HN.o hcl hkk z57a rfl rfl rfl;exact⟨rfl,hpl⟩
theorem A7i(h:C.Ms D X β w m)(i:Af)(hb:-1000000<=m.now.base/\m.now.base<=100000000000)(ha:-1000000<=i.arg/\i.arg<=1000000)(hn:m.vals.length+1<=90000000000)(hv:Bs m.arr.length (m.at' (m.now.base+i.arg))):Calls Tryz.prog 149 #[.pointer (some ⟨C.mb,0,none⟩),Ag i] w (MP C D X β w (m.push (m.at' (m.now.base+i.arg))) (.tuple #[])):=by
 obtain⟨w0,Ap,Aq,Ae,Ao,As,n0,n1,n2,n3,n4,n5,n6,n7,ln,lb,C9⟩:=h.Ca i;clear h;have cb:=Aq.o.base;have HA:=A0 (Aq.o.Hy.at' (m.now.base+i.arg));have HP:=A0 (fun(W:World) (hs:C.Ms D (Cu X w) β W m)=>hs.push (m.at' (m.now.base+i.arg)) hv hn);have hw9:IntKind.i64.wrap (m.now.base+i.arg)=m.now.base+i.arg:=by rw[IntKind.wrap_i64];omega
 unfold B3 at HA HP;clear hv;generalize hu9:m.at' (m.now.base+i.arg)=u at *;clear hu9;rw[←hw9]at HA;clear hw9;unfold Ag;go_enter Tryz.func149,Tryz.ntmps149;go_wp2;rw[←Ap.o];go_region_law (first
  | (refine Fg rfl 99 _ _ rfl #[.pointer (some ⟨C.mb,4,none⟩),.agg #[.int .i64 (u.k:Nat),.bool u.y,.int .i64 u.n,.string ⟨u.t.toArray⟩,.pointer (B5 β u)]] z4va Bo.o ?_;rintro e w2 ⟨rfl,h2,k2⟩;refine⟨_,rfl,?_⟩;have Ah:=A0 h2.back;have Aa:Hid (A2 (dx D X) w w2):=A4.o.trans (Ac k2);clear h2 k2)
  | (refine Fg rfl 195 _ _ rfl #[.pointer (some ⟨C.mb,4,none⟩),.int .i64 (IntKind.i64.wrap (m.now.base+i.arg))] z4va HA.o ?_;rintro e w1 ⟨rfl,h1,k1⟩;refine⟨_,rfl,?_⟩;have Bo:=A0 (HP.o w1 h1);have Bk:=h1.At;have A4:Hid (A2 (dx D X) w w1):=Ae.o.trans ((Dk _ w0 1).trans (Ac k1));clear h1 k1))
 all_goals go_wp2
 all_goals go_end0
 all_goals exact⟨rfl,Ah.o,Aa.o⟩
theorem A86(h:C.Ms D X β w m)(i:Af)(hb:-1000000<=m.now.base/\m.now.base<=100000000000)(ha:-1000000<=i.arg/\i.arg<=1000000)(hv:Bs m.arr.length m.top):Calls Tryz.prog 151 #[.pointer (some ⟨C.mb,0,none⟩),Ag i] w (MP C D X β w (m.pop.put (m.now.base+i.arg) m.top) (.tuple #[])):=by
 obtain⟨w0,Ap,Aq,Ae,Ao,As,n0,n1,n2,n3,n4,n5,n6,n7,ln,lb,C9⟩:=h.Ca i;clear h;have cb:=Aq.o.base;have HA:=A0 Aq.o.Hy.pop;have HP:=A0 (fun(W:World) (hs:C.Ms D (Cu X w) β W m.pop)=>hs.put (m.now.base+i.arg) m.top hv);have hw9:IntKind.i64.wrap (m.now.base+i.arg)=m.now.base+i.arg:=by rw[IntKind.wrap_i64];omega
 unfold B3 at HA HP;clear hv;have HBs:=A0 (fun(W:World) (hs:C.Ms D (Cu X w) β W m.pop)=>hs.base);generalize hu9:m.top=u at *;have HU:=A0 hu9;clear hu9;rw[show(m.now.base+i.arg)=IntKind.i64.wrap (m.now.base+i.arg) from hw9.symm]at HP;have HW9:=A0 hw9;clear hw9;unfold Ag;go_enter Tryz.func151,Tryz.ntmps151;go_wp2;rw[←Ap.o];go_region_law (first
  | (refine Fg rfl 196 _ _ rfl #[.pointer (some ⟨C.mb,4,none⟩),.int .i64 (IntKind.i64.wrap (m.now.base+i.arg)),.agg #[.int .i64 (u.k:Nat),.bool u.y,.int .i64 u.n,.string ⟨u.t.toArray⟩,.pointer (B5 β u)]] z4va Bo.o ?_;rintro e w2 ⟨rfl,h2,k2⟩;refine⟨_,rfl,?_⟩;have Ah:=A0 h2.back;have Aa:Hid (A2 (dx D X) w w2):=A4.o.trans (Ac k2);clear h2 k2)
  | (refine Fg rfl 197 _ _ rfl #[.pointer (some ⟨C.mb,4,none⟩)] z4va HA.o ?_;rintro e w1 ⟨rfl,h1,k1⟩;refine⟨_,rfl,?_⟩;have Bo:=A0 (HP.o w1 h1);have Bk:=h1.At;have cb1:=HBs.o w1 h1;simp only[MS.pop]at cb1;have Ad:=(k1.block _ Ao.o).trans As.o;have y1:=A7 Ad 1 _ rfl;have ly:=A6 Ad;have A4:Hid (A2 (dx D X) w w1):=Ae.o.trans ((Dk _ w0 1).trans (Ac k1));clear h1 k1 Ad))
 all_goals go_wp2
 all_goals go_end0
 all_goals
  have q:=Ah.o;rw[HW9.o]at q;exact⟨rfl,q,Aa.o⟩
theorem z4ua {P:Prop} (h:P:=by repeat (first|exact Below.refl _ _|refine Below.alloc ?_ z4wa _|refine Below.setCell ?_ z4wa _|refine Below.drew ?_)):P:=h
theorem z0aa {P:Prop} (h:P:=by
  go_wp2_with fail
  rw[←Ap.o];refine HT.o.mono ?_;rintro e w1 ⟨rfl,h1,k1⟩;have Bk:=h1.At;have Bc:=A0 (fun(W:World) (hb:Below w1.heap.size w1 W)=>((HP.o W (h1.below hb).1).mono (fun e w3 (q:MP C D (Cu X w) β W _ _ e w3)=>(⟨q.1,q.2.1.back,Ae.o.trans ((Ac k1).trans ((Ac (h1.below hb).2).trans (Ac q.2.2)))⟩:MP C D X β w _ _ e w3))));have Ad:=(k1.block _ Ao.o).trans As.o;clear n0 n1 n2 n3 n4 n5 n6 n7 ln;obtain⟨n0,n1,n2,n3,n4,n5,n6,n7,ln⟩:=Bj Ad;clear h1 k1 Ad;go_wp2_with fail
  refine(Bc.o _ z4ua).mono ?_;rintro e w3 ⟨rfl,q2,q3⟩;have HQ2:=A0 q2;have HQ3:=A0 q3;clear q2 q3;go_wp2;go_end0;exact⟨rfl,HQ2.o,HQ3.o⟩):P:=h
theorem Ap2(h:C.Ms D X β w m)(i:Af)(ho:i.op=24)(hn:m.vals.length+1<=90000000000):Calls Tryz.prog 218 #[.pointer (some ⟨C.mb,0,none⟩),Ag i] w (MP C D X β w (m.pop.push (ofInt (wr (-m.top.n)))) (.tuple #[])):=by
 obtain⟨w0,Ap,Aq,Ae,Ao,As,n0,n1,n2,n3,n4,n5,n6,n7,ln,lb,C9⟩:=h.Ca i;clear h;have HT:=A0 Aq.o.pop;have HP:=A0 (fun(W:World) (hs:C.Ms D (Cu X w) β W m.pop)=>Oe hs (wr (-m.top.n)) z51a);have vf2:=A4r;have t23:((i.op:Int)==23)=false:=by rw[ho];rfl
 have t24:((i.op:Int)==24)=true:=by rw[ho];rfl
 unfold B3 at HT;clear ho;unfold Ag;go_enter Tryz.func218,Tryz.ntmps218;exact z0aa
theorem A7o(h:C.Ms D X β w m)(i:Af)(ho:i.op=27)(hk:m.top.k=1)(hn:m.vals.length+1<=90000000000):Calls Tryz.prog 220 #[.pointer (some ⟨C.mb,0,none⟩),Ag i] w (MP C D X β w (m.pop.push (ofBool (!m.top.y))) (.tuple #[])):=by
 obtain⟨w0,Ap,Aq,Ae,Ao,As,n0,n1,n2,n3,n4,n5,n6,n7,ln,lb,C9⟩:=h.Ca i;clear h;have HT:=A0 Aq.o.pop;have HP:=A0 (fun(W:World) (hs:C.Ms D (Cu X w) β W m.pop)=>Kf hs (!m.top.y) z51a);have tk:(((m.top.k:Nat):Int) !=1)=false:=by rw[hk];rfl
 have t26:((i.op:Int)==26)=false:=by rw[ho];rfl
 have t27:((i.op:Int)==27)=true:=by rw[ho];rfl
 unfold B3 at HT;clear ho hk;unfold Ag;go_enter Tryz.func220,Tryz.ntmps220;exact z0aa
theorem A7n(h:C.Ms D X β w m)(i:Af)(ho:i.op=27)(hk:m.top.k≠1):Calls Tryz.prog 220 #[.pointer (some ⟨C.mb,0,none⟩),Ag i] w (MP C D X β w (m.pop.fail 5 i) (.tuple #[])):=by
 obtain⟨w0,Ap,Aq,Ae,Ao,As,n0,n1,n2,n3,n4,n5,n6,n7,ln,lb,C9⟩:=h.Ca i;clear h;have HT:=A0 Aq.o.pop;have HP:=A0 (fun(W:World) (hs:C.Ms D (Cu X w) β W m.pop)=>I6 hs 5 i);have tk:(((m.top.k:Nat):Int) !=1)=true:=by rw[bne_iff_ne];omega
 have t26:((i.op:Int)==26)=false:=by rw[ho];rfl
 have t27:((i.op:Int)==27)=true:=by rw[ho];rfl
 unfold B3 at HT;unfold Ag at HP;clear ho hk;unfold Ag;go_enter Tryz.func220,Tryz.ntmps220;go_wp2_with fail
 rw[←Ap.o];refine HT.o.mono ?_;rintro e w1 ⟨rfl,h1,k1⟩;have Bk:=h1.At;have Bc:=A0 (fun(W:World) (hb:Below w1.heap.size w1 W)=>((HP.o W (h1.below hb).1).mono (fun e w3 (q:MP C D (Cu X w) β W _ _ e w3)=>(⟨q.1,q.2.1.back,Ae.o.trans ((Ac k1).trans ((Ac (h1.below hb).2).trans (Ac q.2.2)))⟩:MP C D X β w _ _ e w3))));have Ad:=(k1.block _ Ao.o).trans As.o;clear n0 n1 n2 n3 n4 n5 n6 n7 ln;obtain⟨n0,n1,n2,n3,n4,n5,n6,n7,ln⟩:=Bj Ad;clear h1 k1 Ad;go_wp2_with fail
 refine(Bc.o _ z4ua).mono ?_;rintro e w3 ⟨rfl,q2,q3⟩;have HQ2:=A0 q2;have HQ3:=A0 q3;clear q2 q3;go_wp2;refine bodyPost_ret (v:=.tuple #[]) (by simp[results,Tryz.results220,go_sem]) rfl ?_;exact⟨rfl,HQ2.o,HQ3.o⟩
theorem MC.Ms.U7(h:C.Ms D X β w m):(∃v,w.cell? ⟨C.mb,7,none⟩=some v)/\(∀o,w.frozen? ⟨C.mb,o,none⟩=false):=by
 obtain⟨ρ,s,x,fv,ab,lp,h⟩:=h;exact⟨⟨_,A7 h.cell 7 (.int .i64 (x.pc:Nat)) rfl⟩,Ci h.cell⟩
theorem MC.Ms.Se(h:C.Ms D X β w m)(a:Int)(ha:0<=a):C.Ms D X β (w.setCell ⟨C.mb,7,none⟩ (.int .i64 a)) (m.jump a)/\A2 (dx D X) w (w.setCell ⟨C.mb,7,none⟩ (.int .i64 a)):=by
 obtain⟨ρ,s,x,fv,ab,lp,hv⟩:=h;have hcl:(w.setCell ⟨C.mb,7,none⟩ (.int .i64 a)).heap[C.mb]?=some (.cells (C.cells s { x with pc:=a.toNat } m.fuel m.cells m.code m.line) 167 (0,0)):=by
  rw[heap_set (j:=7) hv.cell (.int .i64 a)];have:((a.toNat:Nat):Int)=a:=by omega
  simp[MC.cells,this]
 exact hv.plain (now:=⟨m.now.steps,a.toNat,m.now.base⟩) (x':={ x with pc:=a.toNat }) ⟨hv.now.row,rfl,hv.now.base⟩ hcl (fun g _ hne=>Below.heap_setCell _ _ _ _ z5ha) z57a rfl rfl rfl
theorem A8c(h:C.Ms D X β w m)(i:Af)(ho:i.op=8)(hk:m.top.k≠1):Calls Tryz.prog 155 #[.pointer (some ⟨C.mb,0,none⟩),Ag i] w (MP C D X β w (m.pop.fail 5 i) (.tuple #[])):=by
 obtain⟨w0,Ap,Aq,Ae,Ao,As,n0,n1,n2,n3,n4,n5,n6,n7,ln,lb,C9⟩:=h.Ca i;clear h;have HT:=A0 Aq.o.pop;have HP:=A0 (fun(W:World) (hs:C.Ms D (Cu X w) β W m.pop)=>I6 hs 5 i);have tk:(((m.top.k:Nat):Int) !=1)=true:=by rw[bne_iff_ne];omega
 have t7:((i.op:Int)==7)=false:=by rw[ho];rfl
 have t8:((i.op:Int)==8)=true:=by rw[ho];rfl
 unfold B3 at HT;unfold Ag at HP;clear ho hk;unfold Ag;go_enter Tryz.func155,Tryz.ntmps155;exact z0aa
theorem z41a {P:Prop} (h:P:=by
  go_wp2;go_end0;exact⟨rfl,HQ.o _ (Below.alloc (Below.refl _ _) (Nat.le_refl _) _)⟩):P:=h
theorem A8e(h:C.Ms D X β w m)(i:Af)(ho:i.op=8)(hk:m.top.k=1)(hy:m.top.y=true):Calls Tryz.prog 155 #[.pointer (some ⟨C.mb,0,none⟩),Ag i] w (MP C D X β w (m.pop) (.tuple #[])):=by
 obtain⟨w0,Ap,Aq,Ae,Ao,As,n0,n1,n2,n3,n4,n5,n6,n7,ln,lb,C9⟩:=h.Ca i;clear h;have HT:=A0 Aq.o.pop;have tk:(((m.top.k:Nat):Int) !=1)=false:=by rw[hk];rfl
 have t7:((i.op:Int)==7)=false:=by rw[ho];rfl
 have t8:((i.op:Int)==8)=true:=by rw[ho];rfl
 unfold B3 at HT;clear ho hk;unfold Ag;go_enter Tryz.func155,Tryz.ntmps155;go_wp2_with fail
 rw[←Ap.o];refine HT.o.mono ?_;rintro e w1 ⟨rfl,h1,k1⟩;have Ad:=(k1.block _ Ao.o).trans As.o;clear n0 n1 n2 n3 n4 n5 n6 n7 ln;obtain⟨n0,n1,n2,n3,n4,n5,n6,n7,ln⟩:=Bj Ad;have HQ:=A0 (fun(W:World) (hb:Below w1.heap.size w1 W)=>And.intro (h1.below hb).1.back (Ae.o.trans ((Ac k1).trans (Ac (h1.below hb).2))));clear h1 k1 Ad;exact z41a
theorem A8d(h:C.Ms D X β w m)(i:Af)(ho:i.op=8)(hk:m.top.k=1)(hy:m.top.y=false)(ha:0<=i.arg):Calls Tryz.prog 155 #[.pointer (some ⟨C.mb,0,none⟩),Ag i] w (MP C D X β w (m.pop.jump i.arg) (.tuple #[])):=by
 obtain⟨w0,Ap,Aq,Ae,Ao,As,n0,n1,n2,n3,n4,n5,n6,n7,ln,lb,C9⟩:=h.Ca i;clear h;have HT:=A0 Aq.o.pop;have tk:(((m.top.k:Nat):Int) !=1)=false:=by rw[hk];rfl
 have t7:((i.op:Int)==7)=false:=by rw[ho];rfl
 have t8:((i.op:Int)==8)=true:=by rw[ho];rfl
 unfold B3 at HT;clear ho hk;unfold Ag;go_enter Tryz.func155,Tryz.ntmps155;go_wp2_with fail
 rw[←Ap.o];refine HT.o.mono ?_;rintro e w1 ⟨rfl,h1,k1⟩;have Ad:=(k1.block _ Ao.o).trans As.o;clear n0 n1 n2 n3 n4 n5 n6 n7 ln;obtain⟨n0,n1,n2,n3,n4,n5,n6,n7,ln⟩:=Bj Ad;obtain⟨⟨v7,c7⟩,f7⟩:=h1.U7;have Bk:=h1.At;obtain⟨s1,s2⟩:=h1.Se i.arg ha;have HQ:=A0 (fun(W:World) (hb:Below (w1.setCell ⟨C.mb,7,none⟩ (.int .i64 i.arg)).heap.size (w1.setCell ⟨C.mb,7,none⟩ (.int .i64 i.arg)) W)=>And.intro (s1.below hb).1.back (Ae.o.trans ((Ac k1).trans ((Ac s2).trans (Ac (s1.below hb).2)))));clear h1 k1 Ad s1 s2;exact z41a
end
section
open Go.RowKit
open Go.Deep (BT)
variable {C:MC} {D X:Nat->Prop} {w w':World} {m:MS} {ρ β:Nat->Nat} {s:O2} {x:Eo} {fv:List Eo} {ab:List AB} {lp:List (Option Addr×Fs)}
theorem MC.Mv.Ul(h:C.Mv D X w m ρ β s x fv ab lp)(hc:G7 5 ρ w w'){ca:Option Addr}{cn cc:Nat}{fv':List Eo}{calls:List Fr}{x':Eo}{now:Fr}{fuel cells code line:Nat}
  (hcell:w'.heap[C.mb]?=some (.cells (C.cells { s with ca:=ca,cn:=cn,cc:=cc } x' fuel cells code line) 167 (0,0)))
  (hrow:w'.ownsRow 0 165 3 (.slice ca cn cc) fv'.length (C5 Ic fv')) (hro:∀g,(Value.slice ca cn cc).ownBlock=some g->(Value.slice s.ca s.cn s.cc).ownBlock=some g\/w.heap.size<=g) (hx:Jp D w x' now) (hfr:Kh D w fv' calls) (hl:calls.length<=100) :
  C.Mv D X w' { m with calls:=calls,now:=now,fuel:=fuel,cells:=cells,code:=code,line:=line } (Et ρ w.heap.size 5) β { s with ca:=ca,cn:=cn,cc:=cc } x' fv' ab lp:=by
 have hbd:=h.Gg hc z4sa;have hk:∀g,D g->g<w.heap.size->w'.heap[g]?=w.heap[g]?/\D g:=fun g hg _=>⟨hbd.block g (.inl hg),hg⟩;have hown:∀g,(Value.slice ca cn cc).ownBlock=some g->Et ρ w.heap.size 5 g=5:=by
  intro g hg;rcases hro g hg with e|e
  ·rw[Bb (Bg h.calls g e)];exact h.callo g e
  ·exact Ho e
 refine⟨hcell,h.prog.keep hk,B2 h.lots (fun g hg hl=>hc.block g hl z56a z56a),fun g hg=>by rw[Bb (Bg h.lots g hg)];exact h.loto g hg,h.lotm,fun q hq=>(h.forms q hq).keep hk,
  B2 h.gl (fun g hg hl=>hc.block g hl z58a z58a),fun g hg=>by rw[Bb (Bg h.gl g hg)];exact h.glo g hg,B2 h.vals (fun g hg hl=>hc.block g hl z54a z54a),fun g hg=>by rw[Bb (Bg h.vals g hg)];exact h.valo g hg,
  hrow,hown,hfr.keep hk,hx.keep hk,
  B2 h.out (fun g hg hl=>hc.block g hl z55a z55a),fun g hg=>by rw[Bb (Bg h.out g hg)];exact h.outo g hg,h.arr.keep (fun g hl h7=>⟨hc.block g hl z4sa z4sa,Bb hl⟩),
  fun g hg=>⟨Nat.lt_of_lt_of_le (h.prot g hg).1 hc.size,by rw[Bb (h.prot g hg).1];exact(h.prot g hg).2⟩,⟨by rw[Bb h.lo.1];exact h.one.1,fun g hg=>?_⟩,⟨h.Bz.1,hl,h.Bz.2.2⟩,h.vv⟩
 exact z12a
theorem MC.Mv.Aj5(h:C.Mv D X w m ρ β s x fv ab lp)(hc:G7 6 ρ w w'){oa:Option Addr}{on oc:Nat}{out:List (List UInt8)}{x':Eo}{now:Fr}{fuel cells code line:Nat}
  (hcell:w'.heap[C.mb]?=some (.cells (C.cells { s with oa:=oa,on:=on,oc:=oc } x' fuel cells code line) 167 (0,0)))
  (hrow:w'.ownsRow 0 9 1 (.slice oa on oc) out.length (C5 Sj out)) (hro:∀g,(Value.slice oa on oc).ownBlock=some g->(Value.slice s.oa s.on s.oc).ownBlock=some g\/w.heap.size<=g) (hx:Jp D w x' now) (hl:out.length<=100) :
  C.Mv D X w' { m with out:=out,now:=now,fuel:=fuel,cells:=cells,code:=code,line:=line } (Et ρ w.heap.size 6) β { s with oa:=oa,on:=on,oc:=oc } x' fv ab lp:=by
 have hbd:=h.Gg hc z4sa;have hk:∀g,D g->g<w.heap.size->w'.heap[g]?=w.heap[g]?/\D g:=fun g hg _=>⟨hbd.block g (.inl hg),hg⟩;have hown:∀g,(Value.slice oa on oc).ownBlock=some g->Et ρ w.heap.size 6 g=6:=by
  intro g hg;rcases hro g hg with e|e
  ·rw[Bb (Bg h.out g e)];exact h.outo g e
  ·exact Ho e
 refine⟨hcell,h.prog.keep hk,B2 h.lots (fun g hg hl=>hc.block g hl z56a z56a),fun g hg=>by rw[Bb (Bg h.lots g hg)];exact h.loto g hg,h.lotm,fun q hq=>(h.forms q hq).keep hk,
  B2 h.gl (fun g hg hl=>hc.block g hl z58a z58a),fun g hg=>by rw[Bb (Bg h.gl g hg)];exact h.glo g hg,B2 h.vals (fun g hg hl=>hc.block g hl z54a z54a),fun g hg=>by rw[Bb (Bg h.vals g hg)];exact h.valo g hg,
  B2 h.calls (fun g hg hl=>hc.block g hl z53a z53a),fun g hg=>by rw[Bb (Bg h.calls g hg)];exact h.callo g hg,h.frs.keep hk,hx.keep hk,
  hrow,hown,h.arr.keep (fun g hl h7=>⟨hc.block g hl z4sa z4sa,Bb hl⟩),
  fun g hg=>⟨Nat.lt_of_lt_of_le (h.prot g hg).1 hc.size,by rw[Bb (h.prot g hg).1];exact(h.prot g hg).2⟩,⟨by rw[Bb h.lo.1];exact h.one.1,fun g hg=>?_⟩,⟨h.Bz.1,h.Bz.2.1,hl⟩,h.vv⟩
 exact z12a
theorem MC.Mv.Z2(h:C.Mv D X w m ρ β s x fv ab lp)(hc:G7 3 ρ w w'){ga:Option Addr}{gn gc:Nat}{gl:List PV}{x':Eo}{now:Fr}{fuel cells code line:Nat}
  (hcell:w'.heap[C.mb]?=some (.cells (C.cells { s with ga:=ga,gn:=gn,gc:=gc } x' fuel cells code line) 167 (0,0)))
  (hrow:w'.ownsRow 0 225 5 (.slice ga gn gc) gl.length (C5 (By β) gl)) (hro:∀g,(Value.slice ga gn gc).ownBlock=some g->(Value.slice s.ga s.gn s.gc).ownBlock=some g\/w.heap.size<=g) (hx:Jp D w x' now) (hvv:∀v∈gl,Bs m.arr.length v) :
  C.Mv D X w' { m with gl:=gl,now:=now,fuel:=fuel,cells:=cells,code:=code,line:=line } (Et ρ w.heap.size 3) β { s with ga:=ga,gn:=gn,gc:=gc } x' fv ab lp:=by
 have hbd:=h.Gg hc z4sa;have hk:∀g,D g->g<w.heap.size->w'.heap[g]?=w.heap[g]?/\D g:=fun g hg _=>⟨hbd.block g (.inl hg),hg⟩;have hown:∀g,(Value.slice ga gn gc).ownBlock=some g->Et ρ w.heap.size 3 g=3:=by
  intro g hg;rcases hro g hg with e|e
  ·rw[Bb (Bg h.gl g e)];exact h.glo g e
  ·exact Ho e
 refine⟨hcell,h.prog.keep hk,B2 h.lots (fun g hg hl=>hc.block g hl z56a z56a),fun g hg=>by rw[Bb (Bg h.lots g hg)];exact h.loto g hg,h.lotm,fun q hq=>(h.forms q hq).keep hk,
  hrow,hown,B2 h.vals (fun g hg hl=>hc.block g hl z54a z54a),fun g hg=>by rw[Bb (Bg h.vals g hg)];exact h.valo g hg,
  B2 h.calls (fun g hg hl=>hc.block g hl z53a z53a),fun g hg=>by rw[Bb (Bg h.calls g hg)];exact h.callo g hg,h.frs.keep hk,hx.keep hk,
  B2 h.out (fun g hg hl=>hc.block g hl z55a z55a),fun g hg=>by rw[Bb (Bg h.out g hg)];exact h.outo g hg,h.arr.keep (fun g hl h7=>⟨hc.block g hl z4sa z4sa,Bb hl⟩),
  fun g hg=>⟨Nat.lt_of_lt_of_le (h.prot g hg).1 hc.size,by rw[Bb (h.prot g hg).1];exact(h.prot g hg).2⟩,⟨by rw[Bb h.lo.1];exact h.one.1,fun g hg=>?_⟩,h.Bz,⟨h.vv.1,hvv,h.vv.2.2⟩⟩
 exact z12a
theorem MC.Mv.Aj1(h:C.Mv D X w m ρ β s x fv ab lp)(hc:G7 2 ρ w w'){la:Option Addr}{ln lc:Nat}{lp':List (Option Addr×Fs)}{x':Eo}{now:Fr}{fuel cells code line:Nat}
  (hcell:w'.heap[C.mb]?=some (.cells (C.cells { s with la:=la,ln:=ln,lc:=lc } x' fuel cells code line) 167 (0,0)))
  (hrow:w'.ownsRow 0 172 4 (.slice la ln lc) lp'.length (C5 L5 lp')) (hro:∀g,(Value.slice la ln lc).ownBlock=some g->(Value.slice s.la s.ln s.lc).ownBlock=some g\/w.heap.size<=g) (hx:Jp D w x' now) (hf:∀q∈lp',Mn D w q.1 q.2.form) :
  C.Mv D X w' { m with lots:=lp'.map Prod.snd,now:=now,fuel:=fuel,cells:=cells,code:=code,line:=line } (Et ρ w.heap.size 2) β { s with la:=la,ln:=ln,lc:=lc } x' fv ab lp':=by
 have hbd:=h.Gg hc z4sa;have hk:∀g,D g->g<w.heap.size->w'.heap[g]?=w.heap[g]?/\D g:=fun g hg _=>⟨hbd.block g (.inl hg),hg⟩;have hown:∀g,(Value.slice la ln lc).ownBlock=some g->Et ρ w.heap.size 2 g=2:=by
  intro g hg;rcases hro g hg with e|e
  ·rw[Bb (Bg h.lots g e)];exact h.loto g e
  ·exact Ho e
 refine⟨hcell,h.prog.keep hk,hrow,hown,rfl,fun q hq=>(hf q hq).keep hk,
  B2 h.gl (fun g hg hl=>hc.block g hl z58a z58a),fun g hg=>by rw[Bb (Bg h.gl g hg)];exact h.glo g hg,B2 h.vals (fun g hg hl=>hc.block g hl z54a z54a),fun g hg=>by rw[Bb (Bg h.vals g hg)];exact h.valo g hg,
  B2 h.calls (fun g hg hl=>hc.block g hl z53a z53a),fun g hg=>by rw[Bb (Bg h.calls g hg)];exact h.callo g hg,h.frs.keep hk,hx.keep hk,
  B2 h.out (fun g hg hl=>hc.block g hl z55a z55a),fun g hg=>by rw[Bb (Bg h.out g hg)];exact h.outo g hg,h.arr.keep (fun g hl h7=>⟨hc.block g hl z4sa z4sa,Bb hl⟩),
  fun g hg=>⟨Nat.lt_of_lt_of_le (h.prot g hg).1 hc.size,by rw[Bb (h.prot g hg).1];exact(h.prot g hg).2⟩,⟨by rw[Bb h.lo.1];exact h.one.1,fun g hg=>?_⟩,h.Bz,h.vv⟩
 exact z12a
theorem Acx:∀{xs:List Eo} {fs:List Fr},Kh D w xs fs->Jp D w (xs.getLastD Np) (fs.getLastD ⟨[],0,0⟩):=by
 intro xs;induction xs with
 | nil=>intro fs h;cases fs with
  | nil=>exact⟨Om _ _ _ _,rfl,rfl⟩
  | cons=>exact h.elim
 | cons x xs ih=>intro fs h;cases fs with
  | nil=>exact h.elim
  | cons f fs=>
   cases xs with
   | nil=>cases fs with
    | nil=>exact h.1
    | cons=>exact h.2.elim
   | cons y ys=>cases fs with
    | nil=>exact h.2.elim
    | cons g gs=>
     have q:=ih (fs:=g::gs) h.2;simpa only[List.getLastD_cons]using q
theorem Kh.less:∀{xs:List Eo} {fs:List Fr},Kh D w xs fs->Kh D w xs.dropLast fs.dropLast:=by
 intro xs;induction xs with
 | nil=>intro fs h;cases fs with
  | nil=>trivial
  | cons=>exact h.elim
 | cons x xs ih=>intro fs h;cases fs with
  | nil=>exact h.elim
  | cons f fs=>
   cases xs with
   | nil=>cases fs with
    | nil=>trivial
    | cons=>exact h.2.elim
   | cons y ys=>cases fs with
    | nil=>exact h.2.elim
    | cons g gs=>exact⟨h.1,ih h.2⟩
def Rl(x:Eo):Value:=.agg #[.slice x.a x.n x.c,.int .i64 (x.pc:Nat),.int .i64 x.base]
theorem MC.Ms.A0u(h:C.Ms D X β w m):Calls Tryz.prog 202 #[.pointer (some ⟨C.mb,5,none⟩)] w fun e w'=>e=.returned (.int .i64 (m.calls.length:Nat))/\w'=w:=by
 obtain⟨ρ,s,x,fv,ab,lp,h⟩:=h;rw[←h.frs.len];exact Xh h.Zc
theorem MC.Ms.A10(h:C.Ms D X β w m):Calls Tryz.prog 206 #[.pointer (some ⟨C.mb,5,none⟩)] w fun e w'=>∃x,e=.returned (Rl x)/\Jp D w' x (m.calls.getLastD ⟨[],0,0⟩)/\C.Ms D X β w' { m with calls:=m.calls.dropLast }/\A2 (dx D X) w w':=by
 obtain⟨ρ,s,x,fv,ab,lp,h⟩:=h;have hfl:=h.frs.len;refine(Ad3 h.Zc (by have:=h.Bz.2.1;omega) z5pa (fv.getLastD Np) rfl).mono ?_;rintro e w1 ⟨rfl,hs,hf⟩;have hc:G7 5 ρ w w1:=Ra hf h.one.1 h.callo;have hbd:=h.Gg hc z4sa;refine⟨_,rfl,(Acx h.frs).keep (fun g hg _=>⟨hbd.block g (.inl hg),hg⟩),⟨_,{ s with ca:=s.ca,cn:=fv.length-1,cc:=s.cc },x,fv.take (fv.length-1),ab,lp,h.Ul hc ?_ hs.own (fun g hg=>.inl ((Nv _ _ _ _).trans hg)) h.now ?_ ?_⟩,hbd⟩
 ·rw[hs.blk];simp[MC.cells]
 ·rw[Zf];exact h.frs.less
 ·have:=h.Bz.2.1;simp;omega
theorem MC.Ms.Acw(h:C.Ms D X β w m)(u:Eo)(f:Fr)(hu:Jp D w u f)(hn:m.calls.length+1<=100):Calls Tryz.prog 203 #[.pointer (some ⟨C.mb,5,none⟩),Rl u] w (MP C D X β w { m with calls:=m.calls++[f] } (.tuple #[])):=by
 obtain⟨ρ,s,x,fv,ab,lp,h⟩:=h;have hfl:=h.frs.len;refine(Ad4 h.Zc z4sa u z5pa).mono ?_;rintro e w1 ⟨rfl,g,cap,hs,hat,hf⟩;have hc:G7 5 ρ w w1:=Ra hf h.one.1 h.callo;refine⟨rfl,⟨_,{ s with ca:=some ⟨g,0,none⟩,cn:=fv.length+1,cc:=cap },x,fv++[u],ab,lp,h.Ul hc ?_ hs.own ?_ h.now (h.frs.app hu) z4za⟩,h.Gg hc z4sa⟩
 ·rw[hs.blk];simp[MC.cells]
 ·exact z4ka
theorem MC.Ms.U1(h:C.Ms D X β w m):∃x,Jp D w x m.now/\w.cell? ⟨C.mb,6,none⟩=some (.slice x.a x.n x.c)/\w.cell? ⟨C.mb,7,none⟩=some (.int .i64 (x.pc:Nat))/\w.cell? ⟨C.mb,8,none⟩=some (.int .i64 x.base)/\(∀o,w.frozen? ⟨C.mb,o,none⟩=false):=by
 obtain⟨ρ,s,x,fv,ab,lp,h⟩:=h;exact⟨x,h.now,A7 h.cell 6 _ rfl,A7 h.cell 7 _ rfl,A7 h.cell 8 _ rfl,Ci h.cell⟩
theorem MC.Ms.Sd(h:C.Ms D X β w m)(u:Eo)(f:Fr)(hu:Jp D w u f):C.Ms D X β (((w.setCell ⟨C.mb,6,none⟩ (.slice u.a u.n u.c)).setCell ⟨C.mb,7,none⟩ (.int .i64 (u.pc:Nat))).setCell ⟨C.mb,8,none⟩ (.int .i64 u.base)) { m with now:=f }/\A2 (dx D X) w (((w.setCell ⟨C.mb,6,none⟩ (.slice u.a u.n u.c)).setCell ⟨C.mb,7,none⟩ (.int .i64 (u.pc:Nat))).setCell ⟨C.mb,8,none⟩ (.int .i64 u.base)):=by
 obtain⟨ρ,s,x,fv,ab,lp,hv⟩:=h;refine hv.plain (now:=f) (x':=u) hu ?_ (fun g _ hne=>?_) z57a (by simp only[Uf]) (by simp only[Uh]) (by simp only[Ug])
 ·rw[heap_set (j:=8) (heap_set (j:=7) (heap_set (j:=6) hv.cell _) _) _];simp[MC.cells]
 ·rw[Below.heap_setCell _ _ _ _ z5ha,Below.heap_setCell _ _ _ _ z5ha,Below.heap_setCell _ _ _ _ z5ha]
end
section
set_option maxRecDepth 100000
open Go.RowKit
open Go.Deep (BT)
variable {C:MC} {D X:Nat->Prop} {w w':World} {m:MS} {β:Nat->Nat}
theorem MC.Ms.A8k(h:C.Ms D X β w m):w.cell? ⟨C.mb,1,none⟩=some (.slice C.ba C.bn C.bc):=by
 obtain⟨ρ,s,x,fv,ab,lp,h⟩:=h;exact A7 h.cell 1 _ rfl
def A62(n c:Nat)(bets:List Da)(w:World)(e:Ending)(w':World):Prop:=Below w.heap.size w w'/\((e=.returned (.int .i64 (-1))/\taken n c bets=none)\/∃j,∃h:j<bets.length,e=.returned (.int .i64 (j:Nat))/\taken n c bets=some bets[j])
theorem z1ra {P:Prop} (h:P:=by
  go_wp2;go_roundg j
  case measure=>omega
  case rel=>
   refine⟨by omega,?_,HM.o,⟨HB.o.os,HB.o.tape,HB.o.output,HB.o.size,HB.o.block⟩⟩;cases j with
   | zero=>exact .inl ⟨rfl,by simp⟩
   | succ j=>exact .inr ⟨j,rfl,by simp⟩):P:=h
theorem Am6(h:C.Ms D X β w m){K:Nat->Prop}{bets:List Da}(hb:J9 K w (.slice C.ba C.bn C.bc) bets)(hl:bets.length<=1000)(n c:Nat) :
  Calls Tryz.prog 245 #[.pointer (some ⟨C.mb,0,none⟩),.int .i64 (n:Nat),.int .i64 (c:Nat)] w (A62 n c bets w):=by
 have c1:=h.A8k;have lb:=h.At;obtain⟨a,cc,ev,hcc,hbt⟩:=hb;injection ev with e1 e2 e3;have HBt:=A0 hbt;rw[e1,e2,e3]at c1;clear h hbt e1 e2 e3;go_enter Tryz.func245,Tryz.ntmps245;have hst:IntKind.i64.wrap ((bets.length:Int)-1)=(bets.length:Int)-1:=by rw[IntKind.wrap_i64];omega
 go_wp2;go_loopg [7] bets.length (fun k v wr=>k<=bets.length/\((k=0/\v=.int .i64 (-1))\/(∃j:Nat,k=j+1/\v=.int .i64 (j:Nat)))/\taken n c (bets.drop k)=none/\Below w.heap.size w wr)
 case atStart=>
  refine⟨Nat.le_refl _,?_,by rw[List.drop_length];rfl,Below.refl _ _⟩;cases hl9:bets.length with
  | zero=>exact .inl ⟨rfl,by simp⟩
  | succ j=>exact .inr ⟨j,rfl,by simp⟩
 case round=>
  obtain⟨hk,hv,htk,hbel⟩:=hrel;have c1r:=(World.cell?_of_block (hbel.block C.mb lb)).trans c1;have ls:=hbel.size;have lbr:C.mb<wr.heap.size:=by omega
  have HB:=A0 hbel;have HTk:=A0 htk;clear htk c1;rcases hv with⟨h0,rfl⟩|⟨j,hj,rfl⟩
  ·clear hbel;rw[h0,List.drop_zero]at HTk;go_wp2;exact bodyPost_ret (v:=.int .i64 (-1)) (by simp[results,Tryz.results245,go_sem]) rfl ⟨HB.o,.inl ⟨rfl,HTk.o⟩⟩
  ·have hjl:j<bets.length:=by omega
   obtain⟨g,o,rfl,_,hgl,hcell⟩:=HBt.o z4sa;obtain⟨q0,q1,kv,iv,_⟩:=hcell j hjl;have d0:=(World.cell?_of_block (hbel.block g hgl)).trans q0;have d1:=(World.cell?_of_block (hbel.block g hgl)).trans q1;have d1':=d1;rw[←Nat.add_assoc]at d1';have lg:g<wr.heap.size:=by omega
   rw[hj]at HTk;have hcl:=hcc;clear hbel q0 q1 hcell;generalize hbj:bets[j]=bj at *;have HBj:=A0 hbj;clear hbj;cases t1:(bj.fn==((n:Nat):Int))
   ·have HM:=A0 (A4j hjl HTk.o (fun q=>by rw[HBj.o]at q;rw[q.1]at t1;simp at t1));exact z1ra
   ·cases t2:(bj.after==((c:Nat):Int))
    ·have HM:=A0 (A4j hjl HTk.o (fun q=>by rw[HBj.o]at q;rw[q.2]at t2;simp at t2));exact z1ra
    ·have HM:=A0 (Am8 hjl HTk.o (by rw[HBj.o];exact eq_of_beq t1) (by rw[HBj.o];exact eq_of_beq t2));go_wp2;refine bodyPost_ret (v:=.int .i64 (j:Nat)) (by simp[results,Tryz.results245,go_sem]) rfl ⟨⟨HB.o.os,HB.o.tape,HB.o.output,HB.o.size,HB.o.block⟩,.inr ⟨j,hjl,rfl,HM.o⟩⟩
theorem Afn{T:TypeId}{sz n c g:Nat}{cs:List Value}(h:w.ownsRow 0 T sz (.slice (some ⟨g,0,none⟩) n c) n cs):∀o,w.frozen? ⟨g,o,none⟩=false:=by
 rcases h.2 with⟨h2,_⟩|⟨g',cap,cur,hv,_,hgc,_⟩
 ·cases h2
 ·injection hv with e1;injection e1 with e1;injection e1 with e1;subst e1;exact Ci hgc
end
section
open Go.RowKit
open Go.Deep (BT)
variable {C:MC} {D X:Nat->Prop} {w w':World} {m:MS} {β:Nat->Nat}
variable {α:Type} {T:TypeId} {sz:Nat} {f:α->List Value}
theorem Ai4(hf:∀x,(f x).length=sz):∀(xs:List α) (i:Nat) (h:i<xs.length),C5 f xs=(C5 f xs).take (i*sz)++f xs[i]++(C5 f xs).drop ((i+1)*sz):=by
 intro xs i h;have:=Ud hf xs[i] xs i h;rw[List.set_getElem_self]at this;exact this
theorem Ai3(hf:∀x,(f x).length=sz)(xs:List α)(i o:Nat)(h:i<xs.length)(ho:o<sz)(y:α)(v:Value)(hy:f y=(f xs[i]).set o v):C5 f (xs.set i y)=(C5 f xs).set (i*sz+o) v:=by
 have hl:=N6 hf xs;have hadd:(i+1)*sz=i*sz+sz:=by rw[Nat.add_mul,Nat.one_mul]
 have hin:(i+1)*sz<=xs.length*sz:=Nat.mul_le_mul_right _ h;rw[Ud hf y xs i h,hy];conv=>rhs;rw[Ai4 hf xs i h]
 have ht:((C5 f xs).take (i*sz)).length=i*sz:=by simp;omega
 rw[List.append_assoc,List.append_assoc,List.set_append_right _ _ z4sa,ht,show i*sz+o-i*sz=o by omega,List.set_append_left _ _ (by rw[hf];exact ho)]
theorem Afq{g c:Nat}{xs:List α}(ho:w.ownsRow 0 T sz (.slice (some ⟨g,0,none⟩) xs.length c) xs.length (C5 f xs))(hf:∀x,(f x).length=sz)(i o:Nat)(hi:i<xs.length)(hos:o<sz)(y:α)(v:Value)(hy:f y=(f xs[i]).set o v):(w.setCell ⟨g,i*sz+o,none⟩ v).ownsRow 0 T sz (.slice (some ⟨g,0,none⟩) (xs.set i y).length c) (xs.set i y).length (C5 f (xs.set i y)):=by
 obtain⟨hl,⟨h2,h3⟩|⟨g',cap,cur,hv,_,hgc,hcap,hmx,hsz,ht⟩⟩:=ho
 ·cases h2
 injection hv with e1 e2 e3;injection e1 with e1;injection e1 with e1;subst e1 e3;refine⟨by rw[N6 hf],.inr ⟨g,c,cur.setIfInBounds (i*sz+o) v,rfl,Nat.zero_le _,heap_set hgc v,by rw[List.length_set];exact hcap,hmx,by simp;exact hsz,?_⟩⟩;rw[List.length_set,Ai3 hf xs i o hi hos y v hy,←ht,Array.toList_setIfInBounds,List.take_set]
theorem MC.Ms.Xx(h:C.Ms D X β w m){n:Nat}(hn:n<m.lots.length):∃lb lc p,w.cell? ⟨C.mb,2,none⟩=some (.slice (some ⟨lb,0,none⟩) m.lots.length lc)/\m.lots.length<=lc/\lb<w.heap.size/\(lb≠C.mb/\∀g,dx D X g->lb≠g)/\(∀o,w.frozen? ⟨lb,o,none⟩=false)/\w.cell? ⟨lb,n*4,none⟩=some (.int .i64 (m.lots[n].calls:Nat))/\w.cell? ⟨lb,n*4+1,none⟩=some (.pointer p)/\w.cell? ⟨lb,n*4+2,none⟩=some (.int .i64 (m.lots[n].fast:Nat))/\w.cell? ⟨lb,n*4+3,none⟩=some (.int .i64 (m.lots[n].drops:Nat))/\Mn D w p m.lots[n].form/\
  ∀(o:Nat) (v:Value) (p':Option Addr) (l':Fs),o<4->L5 (p',l')=(L5 (p,m.lots[n])).set o v->Mn D w p' l'.form->C.Ms D X β (w.setCell ⟨lb,n*4+o,none⟩ v) { m with lots:=m.lots.set n l' }/\A2 (dx D X) w (w.setCell ⟨lb,n*4+o,none⟩ v)/\(w.setCell ⟨lb,n*4+o,none⟩ v).cell? ⟨lb,n*4+1,none⟩=some (.pointer p'):=by
 obtain⟨ρ,s,x,fv,ab,lp,h⟩:=h;have hlm:=h.lotm;have hll:m.lots.length=lp.length:=by rw[hlm];simp
 have hnl:n<lp.length:=by omega
 obtain⟨lb,k1,k2,hcap,lbl,hcell⟩:=Hg h.lots z4sa;have hown:=h.lots;have hlo:=h.loto lb (by rw[k1];rfl);have hne:lb≠C.mb:=fun e=>by rw[e,h.one.1]at hlo;cases hlo
 have hq:m.lots[n]=lp[n].2:=by simp[hlm]
 have c2:=A7 h.cell 2 (.slice s.la s.ln s.lc) rfl;rw[k1,k2,←hll]at c2;have hat:∀j v,j<4->(L5 lp[n])[j]?=some v->w.cell? ⟨lb,n*4+j,none⟩=some v:=fun j v hj hv=>hcell (n*4+j) v ((G5 (sz:=4) (fun _=>rfl) lp n j hnl hj).trans hv);rw[hq];have hfr:∀o,w.frozen? ⟨lb,o,none⟩=false:=by
  rw[k1,k2]at hown;exact Afn hown
 refine⟨lb,s.lc,lp[n].1,c2,by rw[hll];exact hcap,lbl,⟨hne,fun g hg e=>by have:=(h.prot g hg).2;rw[←e,hlo]at this;cases this⟩,hfr,hat 0 _ z4sa rfl,hat 1 _ z4sa rfl,hat 2 _ z4sa rfl,hat 3 _ z4sa rfl,h.forms _ (List.getElem_mem hnl),?_⟩;intro o v p' l' ho hlc hform;have hc:G7 2 ρ w (w.setCell ⟨lb,n*4+o,none⟩ v):=⟨rfl,rfl,rfl,by simp[World.setCell],fun k hk h1 h2=>Below.heap_setCell _ _ _ _ (by show k≠lb;exact fun e=>h2 (by rw[e];exact hlo))⟩;rw[k1,k2]at hown;have hrow:=Afq hown (fun _=>rfl) n o hnl ho (p',l') v hlc;have hfin:=h.Aj1 hc (la:=some ⟨lb,0,none⟩) (ln:=(lp.set n (p',l')).length) (lc:=s.lc) (lp':=lp.set n (p',l')) (x':=x) (now:=m.now) (fuel:=m.fuel) (cells:=m.cells) (code:=m.code) (line:=m.line)
  (by
   rw[Below.heap_setCell _ _ _ _ (by show C.mb≠lb;exact fun e=>hne e.symm),h.cell,List.length_set];simp only[MC.cells];rw[←k1,←k2])
  hrow (fun g hg=>.inl (by rw[k1];exact(Nv _ _ _ _).trans hg)) h.now
  (fun q hq=>by
   rcases List.mem_or_eq_of_mem_set hq with e|e
   ·exact h.forms q e
   ·rw[e];exact hform)
 have hmap:(lp.set n (p',l')).map Prod.snd=m.lots.set n l':=by rw[hlm,List.map_set]
 rw[hmap]at hfin;refine⟨⟨_,_,_,_,_,_,hfin⟩,h.Gg hc z4sa,?_⟩;have hnl':n<(lp.set n (p',l')).length:=by rw[List.length_set];exact hnl
 obtain⟨Eb,k3,_,_,_,hcell2⟩:=Hg hrow z4sa;injection k3 with k3;injection k3 with k3;subst k3;refine hcell2 (n*4+1) _ ((G5 (f:=L5) (sz:=4) (fun _=>rfl) (lp.set n (p',l')) n 1 hnl' z4sa).trans ?_);rw[List.getElem_set_self];rfl
end
section
open Go.RowKit
open Go.Deep (BT)
variable {C:MC} {D X:Nat->Prop} {w w':World} {m:MS} {β:Nat->Nat}
structure P0 (C : MC) (D X : Nat -> Prop) (β : Nat -> Nat) (w : World) (m : MS) (lb n : Nat) (p : Option Addr) (l : Fs) : Prop where
 st:C.Ms D X β w m
 cell:∃c,w.cell? ⟨C.mb,2,none⟩=some (.slice (some ⟨lb,0,none⟩) m.lots.length c)/\m.lots.length<=c
 lt:n<m.lots.length
 lot:m.lots[n]?=some l
 lbl:lb<w.heap.size
 ne:lb≠C.mb/\∀g,dx D X g->lb≠g
 fz:∀o,w.frozen? ⟨lb,o,none⟩=false
 c0:w.cell? ⟨lb,n*4,none⟩=some (.int .i64 (l.calls:Nat))
 c1:w.cell? ⟨lb,n*4+1,none⟩=some (.pointer p)
 c2:w.cell? ⟨lb,n*4+2,none⟩=some (.int .i64 (l.fast:Nat))
 c3:w.cell? ⟨lb,n*4+3,none⟩=some (.int .i64 (l.drops:Nat))
 form:Mn D w p l.form
theorem A1r(h:C.Ms D X β w m){n:Nat}{l:Fs}(hl:m.lots[n]?=some l):∃lb p,P0 C D X β w m lb n p l:=by
 have hn:n<m.lots.length:=(List.getElem?_eq_some_iff.1 hl).1;have e:m.lots[n]=l:=(List.getElem?_eq_some_iff.1 hl).2;obtain⟨lb,lc,p,q1,q2,q3,q4,q5,q6,q7,q8,q9,q10,_⟩:=h.Xx hn;rw[e]at q6 q8 q9 q10;exact⟨lb,p,h,⟨lc,q1,q2⟩,hn,hl,q3,q4,q5,q6,q7,q8,q9,q10⟩
theorem P0.same{lb n:Nat}{p:Option Addr}{l:Fs}(h:P0 C D X β w m lb n p l){D' X':Nat->Prop}{m':MS}(hs:C.Ms D' X' β w' m')(hl:m'.lots=m.lots)(hk:∀g,g<w.heap.size->w'.heap[g]?=w.heap[g]?):P0 C D' X' β w' m' lb n p l:=by
 obtain⟨c,hc,hcc⟩:=h.cell;have lm:=h.st.At;have hn:n<m'.lots.length:=by rw[hl];exact h.lt
 have hlot:m'.lots[n]?=some l:=by rw[hl];exact h.lot
 have e:m'.lots[n]=l:=(List.getElem?_eq_some_iff.1 hlot).2;obtain⟨lb',lc,p',q1,q2,q3,q4,q5,q6,q7,q8,q9,q10,_⟩:=hs.Xx hn;have hc':=(World.cell?_of_block (hk _ lm)).trans hc;rw[q1]at hc';simp only[Option.some.injEq,Value.slice.injEq,Addr.mk.injEq,and_true]at hc';obtain⟨e1,e2,e3⟩:=hc';subst e1 e3;have hp:=(World.cell?_of_block (hk _ h.lbl)).trans h.c1;rw[q7]at hp;simp only[Option.some.injEq,Value.pointer.injEq]at hp;subst hp;rw[e]at q6 q8 q9 q10;exact⟨hs,⟨lc,q1,q2⟩,hn,hlot,q3,q4,q5,q6,q7,q8,q9,q10⟩
theorem P0.set{lb n:Nat}{p:Option Addr}{l:Fs}(h:P0 C D X β w m lb n p l)(o:Nat)(v:Value)(p':Option Addr)(l':Fs)(ho:o<4)(hv:L5 (p',l')=(L5 (p,l)).set o v)(hf:Mn D w p' l'.form):P0 C D X β (w.setCell ⟨lb,n*4+o,none⟩ v) { m with lots:=m.lots.set n l' } lb n p' l'/\A2 (dx D X) w (w.setCell ⟨lb,n*4+o,none⟩ v):=by
 obtain⟨c,hc,hcc⟩:=h.cell;have hn:=h.lt;have e:m.lots[n]=l:=by have:=h.lot;rw[List.getElem?_eq_getElem h.lt]at this;exact Option.some.inj this
 obtain⟨lb',lc,q0,q1,q2,q3,q4,q5,q6,q7,q8,q9,q10,hset⟩:=h.st.Xx h.lt;rw[hc]at q1;simp only[Option.some.injEq,Value.slice.injEq,Addr.mk.injEq,and_true,true_and]at q1;obtain⟨e1,e2,e3⟩:=q1;subst e1;have hp:=h.c1;rw[q7]at hp;simp only[Option.some.injEq,Value.pointer.injEq]at hp;subst hp;obtain⟨s1,s2,s3⟩:=hset o v p' l' ho (by rw[e];exact hv) hf;refine⟨?_,s2⟩;have hn':n<(m.lots.set n l').length:=by rw[List.length_set];exact h.lt
 have hl':({ m with lots:=m.lots.set n l' }:MS).lots[n]?=some l':=by show(m.lots.set n l')[n]?=some l';rw[List.getElem?_set_self h.lt]
 obtain⟨Eb,p2,hL⟩:=A1r s1 hl';obtain⟨c2,hc2,hcc2⟩:=hL.cell;have hcm:(w.setCell ⟨lb,n*4+o,none⟩ v).cell? ⟨C.mb,2,none⟩=w.cell? ⟨C.mb,2,none⟩:=World.cell?_of_block (Below.heap_setCell _ _ _ _ (by show C.mb≠lb;exact fun q=>h.ne.1 q.symm));rw[hcm,hc]at hc2;simp only[Option.some.injEq,Value.slice.injEq,Addr.mk.injEq,and_true]at hc2;obtain⟨e4,_,_⟩:=hc2;subst e4;have hp2:p2=p':=by
  have h1:=hL.c1;rw[s3]at h1;simp only[Option.some.injEq,Value.pointer.injEq]at h1;exact h1.symm
 rw[hp2]at hL;exact hL
end
section
set_option maxRecDepth 100000
open Go.RowKit
open Go.Deep (BT)
variable {C:MC} {D X:Nat->Prop} {w w':World} {m:MS} {β:Nat->Nat}
structure Mm (D : Nat -> Prop) (w : World) (bb oo slots : Nat) (steps : List Af) (sa : Option Addr) (sn sc : Nat) : Prop where
 kept:D bb
 slots:w.cell? ⟨bb,oo,none⟩=some (.int .i64 (slots:Nat))
 row:w.cell? ⟨bb,oo+1,none⟩=some (.slice sa sn sc)
 own:Cr D w 251 8 (.slice sa sn sc) steps.length (Ez steps)
theorem Mm.keep{bb oo slots:Nat}{steps:List Af}{sa:Option Addr}{sn sc:Nat}(h:Mm D w bb oo slots steps sa sn sc)(hb:A2 (dx D X) w w'):Mm D w' bb oo slots steps sa sn sc:=
 ⟨h.kept,(World.cell?_of_block (hb.block bb (.inl h.kept))).trans h.slots,(World.cell?_of_block (hb.block bb (.inl h.kept))).trans h.row,h.own.keep (fun g hg _=>⟨hb.block g (.inl hg),hg⟩)⟩
theorem A1t(h:C.Ms D X β w m){bb oo slots args:Nat}{steps:List Af}{sa:Option Addr}{sn sc:Nat}(hB:Mm D w bb oo slots steps sa sn sc)(hs:slots<=10000)(ha:args<=10000)(hn:m.vals.length+slots<=90000000000) :
  Calls Tryz.prog 57 #[.pointer (some ⟨C.mb,0,none⟩),.pointer (some ⟨bb,oo,none⟩),.int .i64 (args:Nat)] w (MP C D X β w (m.begin slots steps args) (.tuple #[])):=by
 have c0:=hB.slots;have c1:=hB.row;have lb:=h.At;have lc:=block_lt_of_cell c0;have HL:=A0 h.Hy.len;obtain⟨x0,_,g6,g7,g8,gz⟩:=h.U1;have HS:=A0 h;have HBd:=A0 hB;clear h hB;go_enter Tryz.func57,Tryz.ntmps57;go_wp2;go_region_law (refine Fg rfl 98 _ _ rfl #[.pointer (some ⟨C.mb,4,none⟩)] z4va HL.o ?_;rintro e w1 ⟨rfl,Jd⟩;subst Jd;refine⟨_,rfl,?_⟩)
 all_goals
  have hw9:IntKind.i64.wrap ((m.vals.length:Int)-(args:Nat))=(m.vals.length:Int)-(args:Nat):=by rw[IntKind.wrap_i64];omega
  rw[hw9];obtain⟨W1,hW1⟩:∃W1,W1=(((w.setCell ⟨C.mb,6,none⟩ (.slice sa sn sc)).setCell ⟨C.mb,7,none⟩ (.int .i64 0)).setCell ⟨C.mb,8,none⟩ (.int .i64 ((m.vals.length:Int)-(args:Nat)))).drew:=⟨_,rfl⟩;rw[←hW1];have hq:=HS.o.Sd ⟨sa,sn,sc,0,(m.vals.length:Int)-(args:Nat)⟩ ⟨steps,0,(m.vals.length:Int)-(args:Nat)⟩ ⟨HBd.o.own,rfl,rfl⟩;have s1:C.Ms D X β W1 { m with now:=⟨steps,0,(m.vals.length:Int)-(args:Nat)⟩ }:=by rw[hW1];exact hq.1.Hy
  have s2:A2 (dx D X) w W1:=by rw[hW1];exact hq.2.trans (Dk _ _ 1)
  clear hq hw9 c0 c1 lc g6 g7 g8 gz;have c0:=(HBd.o.keep s2).slots;have Bk:=s1.At;have lc:=block_lt_of_cell c0;have A8:=A0 s1;have A4:=A0 s2;clear s1 s2 hW1 HL HS;go_wp2;go_loopg [26] (slots-args) (fun k v wr=>∃i:Nat,v=.int .i64 i/\i+k=slots-args/\C.Ms D X β wr { m with now:=⟨steps,0,(m.vals.length:Int)-(args:Nat)⟩,vals:=m.vals++Jw i }/\A2 (dx D X) w wr)
  case atStart=>exact⟨0,rfl,by omega,by simpa [Jw]using A8.o,A4.o⟩
  case round=>
   obtain⟨i,rfl,hik,hsr,hbr⟩:=hrel;have HBr:=A0 hbr;have HSr:=A0 hsr;have lbr:=hsr.At;clear hbr;by_cases hlt:i<slots-args
   ·have t0:((i:Nat):Int)<((slots:Nat):Int)-((args:Nat):Int):=by omega
    have HP:Hid (Calls Tryz.prog 99 #[.pointer (some ⟨C.mb,4,none⟩),.agg #[.int .i64 0,.bool false,.int .i64 0,.string ⟨#[]⟩,.pointer none]] wr (MP C D X β wr ({ m with now:=⟨steps,0,(m.vals.length:Int)-(args:Nat)⟩,vals:=m.vals++Jw i }.push Bp) (.tuple #[]))):=hsr.push Bp (by simp[Bs,Bp]) (by simp[Jw];omega);clear hsr;go_wp2_with fail
    refine HP.o.mono ?_;rintro e w2 ⟨rfl,h2,k2⟩;have Ah:=A0 h2;have Aa:Hid (A2 (dx D X) w w2):=HBr.o.trans k2;have Eb:=h2.At;clear h2 k2 HP;go_wp2;go_roundg (gk-1)
    case measure=>omega
    case rel=>
     refine⟨i+1,by simp,by omega,?_,Aa.o⟩;have:=Ah.o;rw[MS.push]at this;simpa [Jw,List.replicate_succ',List.append_assoc]using this
   ·have t0:¬((i:Nat):Int)<((slots:Nat):Int)-((args:Nat):Int):=by omega
    clear hsr;go_wp2;go_end0;have e:i=slots-args:=by omega
    refine⟨rfl,?_,HBr.o⟩;have:=HSr.o;rw[e]at this;exact this
end
end Go.Proofs.YtjdlndhfaaolaaaGreatDoor
