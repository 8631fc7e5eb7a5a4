import Derived.Test.YtjdlndhfaaolaaaGreatDoorV42
set_option maxHeartbeats 20000000
namespace Go.Proofs.YtjdlndhfaaolaaaGreatDoor
section
set_option maxRecDepth 100000
open Go.RowKit
open Go.Deep (BT)
variable {C:MC} {D X:Nat->Prop} {w w':World} {m:MS} {β:Nat->Nat}
theorem A7k(h:C.Ms D X β w m)(i:Ac){n:Nat}(hi:i.arg=(n:Nat))(hc:500<m.cells+n)(h5:m.cells<=500):Calls Tryz.prog 161 #[.pointer (some ⟨C.mb,0,none⟩),Ab i] w (MP C D X β w (m.fail 10 i) (.tuple #[])):=by
 obtain⟨w0,Am,Ap,Af,Al,Aq,n0,n1,n2,n3,n4,n5,n6,n7,ln,lb,Bz⟩:=h.C1 i;clear h;have HR:=A0 (fun(W:World) (hb:Below w0.heap.size w0 W)=>And.intro (A20 (Ap.o.below hb).1 n i hc h5) (Af.o.trans (Ae (Ap.o.below hb).2)));unfold Ab at HR;unfold Ab;rw[hi]at HR Am n1 ⊢;clear hc h5 hi;go_enter Tryz.func161,Tryz.ntmps161;go_wp2_with fail
 rw[←Am.o];go_wp2_with fail
 refine((HR.o _ z4ua).1).mono ?_;rintro e w2 ⟨rfl,h2,k2⟩;have Ai:=A0 h2.back;have Aa:Hid (A3 (dx D X) w w2):=(HR.o _ z4ua).2.trans (Ae k2);clear h2 k2;go_wp2;refine bodyPost_ret (v:=.tuple #[]) (by simp[results,Tryz.results161,go_sem]) rfl ?_;exact z38a
theorem MC.Ms.plt(h:C.Ms D X β w m):∀g,dx D X g->g<w.heap.size:=by
 obtain⟨ρ,s,x,fv,ab,lp,h⟩:=h;exact fun g hg=>(h.prot g hg).1
theorem MC.Ms.vvl(h:C.Ms D X β w m):∀v∈m.vals,C8 m.arr.length v:=by
 obtain⟨ρ,s,x,fv,ab,lp,h⟩:=h;exact h.vv.1
theorem Agt(p:Option Addr)(w:World):Calls Tryz.prog 208 #[.pointer p] w fun e w'=>e=.returned (.agg #[.int .i64 4,.bool false,.int .i64 0,.string ⟨#[]⟩,.pointer p])/\Below w.heap.size w w':=by
 go_enter Tryz.func208,Tryz.ntmps208;go_wp2;refine bodyPost_ret (v:=.agg #[.int .i64 4,.bool false,.int .i64 0,.string ⟨#[]⟩,.pointer p]) (by simp[results,Tryz.results208,go_sem]) rfl ⟨rfl,?_⟩;exact z04a
def Z2(C:MC)(D X Y:Nat->Prop)(β:Nat->Nat)(w:World)(m:MS)(n rb:Nat)(its:List PV)(k:Nat)(v:Value)(wr:World):Prop:=
 ∃j:Nat,v=.int .i64 j/\j+k=n/\C.Ms D Y β wr m/\Gi 225 5 (C7 β) rb wr n (its.take j)/\wr.heap[rb+1]?=some (.cells #[.slice (some ⟨rb,0,none⟩) n n] 356 (0,0))/\A3 (dx D X) w wr
def AL(C:MC)(D X:Nat->Prop)(β:Nat->Nat)(w:World)(k:Nat)(m':MS)(e:Ending)(w':World):Prop:=e=.returned (.tuple #[])/\∃b,C.Ms D X (Mx β k b) w' m'/\A3 (dx D X) w w'
theorem A7l(h:C.Ms D X β w m)(i:Ac){n:Nat}(hi:i.arg=(n:Nat))(hc:m.cells+n<=500)(hn:m.vals.length<=90000)(hnv:n<=m.vals.length):Calls Tryz.prog 161 #[.pointer (some ⟨C.mb,0,none⟩),Ab i] w (AL C D X β w m.arr.length (MS.push (Cf m.arr.length) { (MS.cut ((m.vals.length:Int)-n) { m with cells:=m.cells+n }) with arr:=m.arr++[m.vals.drop (m.vals.length-n)] })):=by
 obtain⟨w0,Am,Ap,Af,Al,Aq,n0,n1,n2,n3,n4,n5,n6,n7,ln,lb,Bz⟩:=h.C1 i;clear h;have HR:=A0 (A21 Ap.o n i hc);unfold Ab at HR;unfold Ab;rw[hi]at HR Am n1 Aq ⊢;clear hc;go_enter Tryz.func161,Tryz.ntmps161;go_wp2_with fail
 rw[←Am.o];go_wp2_with fail
 refine HR.o.mono ?_;rintro e w1 ⟨rfl,h1,k1⟩;have Ad:=(k1.block _ Al.o).trans Aq.o;have A4:Hid (A3 (dx D X) w w1):=Af.o.trans (Ae k1);have A7:=A0 h1;have Fb:=A0 h1.Hs.len;have Bj:=h1.Au;clear n0 n1 n2 n3 n4 n5 n6 n7 ln h1 k1;obtain⟨n0,n1,n2,n3,n4,n5,n6,n7,ln⟩:=B1 Ad;have Dq:IntKind.i64.wrap ((m.vals.length:Int)-(n:Nat))=(m.vals.length:Int)-(n:Nat):=by rw[IntKind.wrap_i64];omega
 go_wp2;go_region_law (refine Eo rfl 98 _ _ rfl #[.pointer (some ⟨C.mb,4,none⟩)] z4xa Fb.o ?_;rintro e w2 ⟨rfl,Fk⟩;subst Fk;refine⟨_,rfl,?_⟩)
 all_goals
  obtain⟨wm,hwm⟩:∃wm,wm=w1.drew.alloc (.cells (madeCells (Value.agg #[.int .i64 0,.bool false,.int .i64 0,.string ⟨#[]⟩,.pointer none]).cells (n*5)) 225):=⟨_,rfl⟩;have hmk:(Instr.makeSlice 158 (.int .i64 (n:Int)) (.int .i64 (n:Int))).run Tryz.prog w1.drew=.ok (.slice (some ⟨w1.heap.size,0,none⟩) n n) wm:=by
   rw[hwm];exact Pu (P:=Tryz.prog) 158 225 (.agg #[.int .i64 0,.bool false,.int .i64 0,.string ⟨#[]⟩,.pointer none]) 5 48 Tryz.underlying158 Uf .i64 .i64 n z4va z4va w1.drew
  have hrn:Gi 225 5 (C7 β) w1.heap.size wm n ([]:List PV):=by rw[hwm];exact Gi.start (T:=225) (sz:=5) (f:=C7 β) w1.drew _ n
  have hbm:Below w1.heap.size w1.drew wm:=by rw[hwm];exact Below.alloc (Below.refl _ _) (show w1.heap.size<=w1.drew.heap.size from Nat.le_refl _) _
  have hsm:wm.heap.size=w1.heap.size+1:=by rw[hwm,World.size_alloc];rfl
  clear hwm;have Bf:Below w1.heap.size w1 w1.drew:=⟨rfl,rfl,rfl,Nat.le_refl _,fun _ _=>rfl⟩;obtain⟨W,hW⟩:∃W,W=wm.alloc (.cells #[.slice (some ⟨w1.heap.size,0,none⟩) n n] 356):=⟨_,rfl⟩;have hbW:Below w1.heap.size w1 W:=by rw[hW];exact Below.alloc (Bf.trans hbm) z4va _
  have hsW:W.heap.size=w1.heap.size+2:=by rw[hW];simp;omega
  have hhd:W.heap[w1.heap.size+1]?=some (.cells #[.slice (some ⟨w1.heap.size,0,none⟩) n n] 356 (0,0)):=by rw[hW,←hsm];exact heap_alloc_new wm _
  have hrW:Gi 225 5 (C7 β) w1.heap.size W n ([]:List PV):=hrn.keep (by rw[hW];exact Below.heap_alloc _ _ _ z4va);have hMW:=A7.o.more hbW;have HRel:Hid (Z2 C D X (fun g=>Cp X w g\/(w1.heap.size<=g/\g<W.heap.size)) β w { m with cells:=m.cells+n } n w1.heap.size (m.vals.drop (m.vals.length-n)) n (.int .i64 0) W):=⟨0,rfl,by omega,hMW,by simpa using hrW,hhd,A4.o.trans (Ae (A7.o.below hbW).2)⟩;have HDl:Hid (∀g,dx D (Cp X w) g->g<w1.heap.size):=A7.o.plt;have HW:=A0 hW;have hil:(m.vals.drop (m.vals.length-n)).length=n:=by simp;omega
  have hix:∀j,j<n->∃x,(m.vals.drop (m.vals.length-n))[j]?=some x/\MS.at' { m with cells:=m.cells+n } ((m.vals.length:Int)-n+j)=x:=fun j hj=>by
   have hjl:m.vals.length-n+j<m.vals.length:=by omega
   refine⟨m.vals[m.vals.length-n+j],by rw[List.getElem?_drop,List.getElem?_eq_getElem hjl],?_⟩;unfold MS.at';rw[if_neg z4va,show((m.vals.length:Int)-n+j).toNat=m.vals.length-n+j by omega];show(m.vals[m.vals.length-n+j]?).getD Ag=_;rw[List.getElem?_eq_getElem hjl];rfl
  have HIx:=A0 hix;have HIl:=A0 hil;clear hW hbW hhd hrW hMW hrn Bf hix hil;go_wp2;rw[←HW.o];go_loopg [30] n (fun k v wr=>Z2 C D X (fun g=>Cp X w g\/(w1.heap.size<=g/\g<W.heap.size)) β w { m with cells:=m.cells+n } n w1.heap.size (m.vals.drop (m.vals.length-n)) k v wr)
  case atStart=>exact HRel.o
  case round=>
   obtain⟨j,rfl,hjk,hms,hrow,hhd,hbd⟩:=hrel;by_cases hlt:j<n
   ·obtain⟨x,E1,Fl⟩:=HIx.o j hlt;have hw10:IntKind.i64.wrap ((m.vals.length:Int)-(n:Nat)+(j:Nat))=(m.vals.length:Int)-(n:Nat)+(j:Nat):=by rw[IntKind.wrap_i64];omega
    have hat:=hms.Hs.at' ((m.vals.length:Int)-(n:Nat)+(j:Nat));rw[Fl]at hat;unfold Az at hat;have HAt:=A0 hat;have c0:=A2 hhd 0 _ rfl;have l0:=A5 hhd;have lmb:=hms.Au;have HMs:=A0 hms;have HRow:=A0 hrow;have HHd:=A0 hhd;have HBd:=A0 hbd;have I4:=A0 E1;have hsW':=hsW;have hY0:(fun g=>Cp X w g\/(w1.heap.size<=g/\g<W.heap.size)) w1.heap.size:=.inr ⟨Nat.le_refl _,by omega⟩;have hY1:(fun g=>Cp X w g\/(w1.heap.size<=g/\g<W.heap.size)) (w1.heap.size+1):=.inr ⟨by omega,by omega⟩;have HY0:=A0 hY0;have HY1:=A0 hY1;clear hat hms hrow hhd hbd E1 Fl hY0 hY1 hsW';go_wp2;go_region_law (refine Eo rfl 195 _ _ rfl #[.pointer (some ⟨C.mb,4,none⟩),.int .i64 ((m.vals.length:Int)-(n:Nat)+(j:Nat))] z4xa HAt.o ?_;rintro e w5 ⟨rfl,h5,k5⟩;refine⟨_,rfl,?_⟩;have hhd5:=(k5.block _ (.inr HY1.o)).trans HHd.o;have c5:=A2 hhd5 0 _ rfl;have l5:=A5 hhd5;have hrow5:=HRow.o.keep (k5.block _ (.inr HY0.o));have fz5:=hrow5.frozen;obtain⟨v0,y0⟩:=hrow5.cells j 0 hlt z4va;obtain⟨v1,y1⟩:=hrow5.cells j 1 hlt z4va;obtain⟨v2,y2⟩:=hrow5.cells j 2 hlt z4va;obtain⟨v3,y3⟩:=hrow5.cells j 3 hlt z4va;obtain⟨v4,y4⟩:=hrow5.cells j 4 hlt z4va;rw[Nat.add_zero]at y0;have HMs5:=A0 h5;have HRow5:=A0 hrow5;have HHd5:=A0 hhd5;have HBd5:Hid (A3 (dx D X) w w5):=HBd.o.trans ((Dw _ wr 1).trans (k5.weak (fun _ hg=>hg.imp id (fun q=>.inl (.inl q)))));clear h5 k5 hhd5 hrow5)
    all_goals
     go_wp2;rw[←Wy w5 w1.heap.size (j*5) x β];go_roundg (gk-1)
     case measure=>omega
     case rel=>
      obtain⟨q1,q2,q3,q4,q5⟩:=Kv w1.heap.size (C7 β x) (j*5) w5;have hjl:((m.vals.drop (m.vals.length-n)).take j).length=j:=by rw[List.length_take,HIl.o];omega
      refine⟨j+1,rfl,by omega,HMs5.o.less (fun _ q=>q) (fun g _ hyd=>q5 g (fun e=>?_)) q4,?_,(q5 _ z4va).trans HHd5.o,HBd5.o.trans ⟨q1,q2,q3,by omega,fun g hg=>q5 g (fun e=>?_)⟩⟩
      ·have:=HDl.o _ (.inl (hyd (by rw[e];exact HY0.o)));omega
      ·have hp:=HRow5.o.put (fun _=>rfl) (by rw[hjl];exact hlt) x;rw[hjl]at hp;rw[List.take_add_one,I4.o];exact hp
      ·have:=HDl.o g (hg.imp id .inl);omega
   ·have hjn:j=n:=by omega
    rw[List.take_of_length_le (by rw[HIl.o];omega)]at hrow;have HCt:=A0 (hms.cut ((m.vals.length:Int)-(n:Nat)));have hvv:=hms.vvl;have lmb:=hms.Au;have HRow:=A0 hrow;have HHd:=A0 hhd;have HBd:=A0 hbd;clear hms hrow hhd hbd;go_wp2_with fail
    refine HCt.o.mono ?_;rintro e w6 ⟨rfl,h6,k6⟩;have hY0:dx D (fun g=>Cp X w g\/(w1.heap.size<=g/\g<W.heap.size)) w1.heap.size:=.inr (.inr ⟨Nat.le_refl _,by omega⟩);have hY1:dx D (fun g=>Cp X w g\/(w1.heap.size<=g/\g<W.heap.size)) (w1.heap.size+1):=.inr (.inr ⟨by omega,by omega⟩);have hrow6:=(HRow.o.keep (k6.block _ hY0)).done (fun _=>rfl) HIl.o z4va;have hhd6:=(k6.block _ hY1).trans HHd.o;have hD:∀k,w1.heap.size<=k->¬D k/\¬Cp X w k:=fun k hk=>⟨fun q=>by have:=HDl.o k (.inl q);omega,fun q=>by have:=HDl.o k (.inr q);omega⟩;have hadd:=h6.A6u (X:=Cp X w) (b:=w1.heap.size+1) (rb:=w1.heap.size) (l:=m.vals.drop (m.vals.length-n)) (fun _ q=>.inl q) ⟨.inr ⟨by omega,by omega⟩,hD _ z4va⟩ ⟨.inr ⟨Nat.le_refl _,by omega⟩,hD _ (Nat.le_refl _)⟩ z4va (by rw[HIl.o];exact hhd6) (by rw[HIl.o]at hrow6 ⊢;exact hrow6) (fun v hv=>hvv v (List.mem_of_mem_drop hv));have er:Bk (Mx β m.arr.length (w1.heap.size+1)) (Cf m.arr.length)=some ⟨w1.heap.size+1,0,none⟩:=by simp[Bk,Cf,Mx]
    have ep:Az (Mx β m.arr.length (w1.heap.size+1)) (Cf m.arr.length)=.agg #[.int .i64 4,.bool false,.int .i64 0,.string ⟨#[]⟩,.pointer (some ⟨w1.heap.size+1,0,none⟩)]:=by unfold Az;rw[er];rfl
    have HP:=A0 (fun(V:World) (hb:Below w6.heap.size w6 V)=>(hadd.below hb).1.push (Cf m.arr.length) (by show(4:Nat)=4/\m.arr.length<(m.arr++[_]).length;simp) (by show(MS.cut _ _).vals.length+1<=100000;unfold MS.cut;split <;> simp <;> omega));rw[show(MS.cut ((m.vals.length:Int)-(n:Nat)) { m with cells:=m.cells+n }).arr=m.arr from rfl,ep]at HP;have HB:=A0 (fun(V:World) (hb:Below w6.heap.size w6 V)=>(HBd.o.trans (k6.weak (fun _ hg=>hg.imp id (fun q=>.inl (.inl q))))).trans (Ae (hadd.below hb).2));have lb6:=h6.Au;clear h6 k6 hrow6 hhd6 hadd ep er hY0 hY1 hD HCt;go_wp2;go_region_law (first
     | (refine Eo rfl 99 _ _ rfl #[.pointer (some ⟨C.mb,4,none⟩),.agg #[.int .i64 4,.bool false,.int .i64 0,.string ⟨#[]⟩,.pointer (some ⟨w1.heap.size+1,0,none⟩)]] z4xa Bv.o ?_;rintro e w8 ⟨rfl,h8,k8⟩;refine⟨_,rfl,?_⟩;have HS8:=A0 h8.back;have HB8:Hid (A3 (dx D X) w w8):=HB1'.o.trans (Ae k8);clear h8 k8)
     | (refine Eo rfl 208 _ _ rfl #[.pointer (some ⟨w1.heap.size+1,0,none⟩)] z4xa (Agt _ _) ?_;rintro e w7 ⟨rfl,hb1'⟩;refine⟨_,rfl,?_⟩;have A1:=Rv hb1';have Bv:=A0 (HP.o w7 A1);have HB1':=A0 (HB.o w7 A1);have lb7:=A1.size;clear A1 hb1'))
    all_goals go_wp2
    all_goals go_end0
    all_goals exact⟨rfl,_,HS8.o,HB8.o⟩
end
end Go.Proofs.YtjdlndhfaaolaaaGreatDoor
