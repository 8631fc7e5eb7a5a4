import Derived.Test.YtjdlndhfaaolaaaGreatDoorV16
import Derived.Test.YtjdlndhfaaolaaaGreatDoorV27
import Derived.Test.YtjdlndhfaaolaaaGreatDoorV34
set_option maxHeartbeats 20000000
namespace Go.Proofs.YtjdlndhfaaolaaaGreatDoor
section
set_option maxRecDepth 100000
open Go.RowKit
open Go.Deep (BT)
variable {C:MC} {D X:Nat->Prop} {w w':World} {m:MS} {β:Nat->Nat}
theorem MC.Ms.Zp(h:C.Ms D X β w m):w.cell? ⟨C.mb,1,none⟩=some (.slice C.ba C.bn C.bc):=by
 obtain⟨ρ,s,x,fv,ab,lp,h⟩:=h;exact A2 h.cell 1 _ rfl
def A5u(n c:Nat)(bets:List Cx)(w:World)(e:Ending)(w':World):Prop:=Below w.heap.size w w'/\((e=.returned (.int .i64 (-1))/\taken n c bets=none)\/∃j,∃h:j<bets.length,e=.returned (.int .i64 (j:Nat))/\taken n c bets=some bets[j])
theorem z1xa {P:Prop} (h:P:=by
  go_wp2;go_roundg j
  case measure=>omega
  case rel=>
   refine⟨by omega,?_,HM.o,⟨HB.o.os,HB.o.tape,HB.o.output,HB.o.size,HB.o.block⟩⟩;cases j with
   | zero=>exact .inl ⟨rfl,by simp⟩
   | succ j=>exact .inr ⟨j,rfl,by simp⟩):P:=h
theorem Aod(h:C.Ms D X β w m){K:Nat->Prop}{bets:List Cx}(hb:Ib K w (.slice C.ba C.bn C.bc) bets)(hl:bets.length<=1000)(n c:Nat) :
  Calls Tryz.prog 245 #[.pointer (some ⟨C.mb,0,none⟩),.int .i64 (n:Nat),.int .i64 (c:Nat)] w (A5u n c bets w):=by
 have c1:=h.Zp;have lb:=h.Au;obtain⟨a,cc,ev,hcc,hbt⟩:=hb;injection ev with e1 e2 e3;have HBt:=A0 hbt;rw[e1,e2,e3]at c1;clear h hbt e1 e2 e3;go_enter Tryz.func245,Tryz.ntmps245;have hst:IntKind.i64.wrap ((bets.length:Int)-1)=(bets.length:Int)-1:=by rw[IntKind.wrap_i64];omega
 go_wp2;go_loopg [7] bets.length (fun k v wr=>k<=bets.length/\((k=0/\v=.int .i64 (-1))\/(∃j:Nat,k=j+1/\v=.int .i64 (j:Nat)))/\taken n c (bets.drop k)=none/\Below w.heap.size w wr)
 case atStart=>
  refine⟨Nat.le_refl _,?_,by rw[List.drop_length];rfl,Below.refl _ _⟩;cases hl9:bets.length with
  | zero=>exact .inl ⟨rfl,by simp⟩
  | succ j=>exact .inr ⟨j,rfl,by simp⟩
 case round=>
  obtain⟨hk,hv,htk,hbel⟩:=hrel;have c1r:=(World.cell?_of_block (hbel.block C.mb lb)).trans c1;have ls:=hbel.size;have lbr:C.mb<wr.heap.size:=by omega
  have HB:=A0 hbel;have HTk:=A0 htk;clear htk c1;rcases hv with⟨h0,rfl⟩|⟨j,hj,rfl⟩
  ·clear hbel;rw[h0,List.drop_zero]at HTk;go_wp2;exact bodyPost_ret (v:=.int .i64 (-1)) (by simp[results,Tryz.results245,go_sem]) rfl ⟨HB.o,.inl ⟨rfl,HTk.o⟩⟩
  ·have hjl:j<bets.length:=by omega
   obtain⟨g,o,rfl,_,hgl,hcell⟩:=HBt.o z4va;obtain⟨q0,q1,kv,iv,_⟩:=hcell j hjl;have d0:=(World.cell?_of_block (hbel.block g hgl)).trans q0;have d1:=(World.cell?_of_block (hbel.block g hgl)).trans q1;have d1':=d1;rw[←Nat.add_assoc]at d1';have lg:g<wr.heap.size:=by omega
   rw[hj]at HTk;have hcl:=hcc;clear hbel q0 q1 hcell;generalize hbj:bets[j]=bj at *;have HBj:=A0 hbj;clear hbj;cases t1:(bj.fn==((n:Nat):Int))
   ·have HM:=A0 (A4f hjl HTk.o (fun q=>by rw[HBj.o]at q;rw[q.1]at t1;simp at t1));exact z1xa
   ·cases t2:(bj.after==((c:Nat):Int))
    ·have HM:=A0 (A4f hjl HTk.o (fun q=>by rw[HBj.o]at q;rw[q.2]at t2;simp at t2));exact z1xa
    ·have HM:=A0 (Aog hjl HTk.o (by rw[HBj.o];exact eq_of_beq t1) (by rw[HBj.o];exact eq_of_beq t2));go_wp2;refine bodyPost_ret (v:=.int .i64 (j:Nat)) (by simp[results,Tryz.results245,go_sem]) rfl ⟨⟨HB.o.os,HB.o.tape,HB.o.output,HB.o.size,HB.o.block⟩,.inr ⟨j,hjl,rfl,HM.o⟩⟩
structure L0 (D : Nat -> Prop) (w : World) (bb oo slots : Nat) (steps : List Ac) (sa : Option Addr) (sn sc : Nat) : Prop where
 kept:D bb
 slots:w.cell? ⟨bb,oo,none⟩=some (.int .i64 (slots:Nat))
 row:w.cell? ⟨bb,oo+1,none⟩=some (.slice sa sn sc)
 own:Cw D w 251 8 (.slice sa sn sc) steps.length (Ek steps)
theorem L0.keep{bb oo slots:Nat}{steps:List Ac}{sa:Option Addr}{sn sc:Nat}(h:L0 D w bb oo slots steps sa sn sc)(hb:A3 (dx D X) w w'):L0 D w' bb oo slots steps sa sn sc:=
 ⟨h.kept,(World.cell?_of_block (hb.block bb (.inl h.kept))).trans h.slots,(World.cell?_of_block (hb.block bb (.inl h.kept))).trans h.row,h.own.keep (fun g hg _=>⟨hb.block g (.inl hg),hg⟩)⟩
theorem A1r(h:C.Ms D X β w m){bb oo slots args:Nat}{steps:List Ac}{sa:Option Addr}{sn sc:Nat}(hB:L0 D w bb oo slots steps sa sn sc)(hs:slots<=10000)(ha:args<=10000)(hn:m.vals.length+slots<=90000) :
  Calls Tryz.prog 57 #[.pointer (some ⟨C.mb,0,none⟩),.pointer (some ⟨bb,oo,none⟩),.int .i64 (args:Nat)] w (MP C D X β w (m.begin slots steps args) (.tuple #[])):=by
 have c0:=hB.slots;have c1:=hB.row;have lb:=h.Au;have lc:=block_lt_of_cell c0;have HL:=A0 h.Hs.len;obtain⟨x0,_,g6,g7,g8,gz⟩:=h.Ul;have HS:=A0 h;have HBd:=A0 hB;clear h hB;go_enter Tryz.func57,Tryz.ntmps57;go_wp2;go_region_law (refine Eo rfl 98 _ _ rfl #[.pointer (some ⟨C.mb,4,none⟩)] z4xa HL.o ?_;rintro e w1 ⟨rfl,Fu⟩;subst Fu;refine⟨_,rfl,?_⟩)
 all_goals
  have Dq:IntKind.i64.wrap ((m.vals.length:Int)-(args:Nat))=(m.vals.length:Int)-(args:Nat):=by rw[IntKind.wrap_i64];omega
  rw[Dq];obtain⟨W1,hW1⟩:∃W1,W1=(((w.setCell ⟨C.mb,6,none⟩ (.slice sa sn sc)).setCell ⟨C.mb,7,none⟩ (.int .i64 0)).setCell ⟨C.mb,8,none⟩ (.int .i64 ((m.vals.length:Int)-(args:Nat)))).drew:=⟨_,rfl⟩;rw[←hW1];have hq:=HS.o.T0 ⟨sa,sn,sc,0,(m.vals.length:Int)-(args:Nat)⟩ ⟨steps,0,(m.vals.length:Int)-(args:Nat)⟩ ⟨HBd.o.own,rfl,rfl⟩;have s1:C.Ms D X β W1 { m with now:=⟨steps,0,(m.vals.length:Int)-(args:Nat)⟩ }:=by rw[hW1];exact hq.1.Hs
  have s2:A3 (dx D X) w W1:=by rw[hW1];exact hq.2.trans (Dw _ _ 1)
  clear hq Dq c0 c1 lc g6 g7 g8 gz;have c0:=(HBd.o.keep s2).slots;have Bj:=s1.Au;have lc:=block_lt_of_cell c0;have A7:=A0 s1;have A4:=A0 s2;clear s1 s2 hW1 HL HS;go_wp2;go_loopg [26] (slots-args) (fun k v wr=>∃i:Nat,v=.int .i64 i/\i+k=slots-args/\C.Ms D X β wr { m with now:=⟨steps,0,(m.vals.length:Int)-(args:Nat)⟩,vals:=m.vals++K6 i }/\A3 (dx D X) w wr)
  case atStart=>exact⟨0,rfl,by omega,by simpa [K6]using A7.o,A4.o⟩
  case round=>
   obtain⟨i,rfl,hik,hsr,hbr⟩:=hrel;have HBr:=A0 hbr;have HSr:=A0 hsr;have lbr:=hsr.Au;clear hbr;by_cases hlt:i<slots-args
   ·have t0:((i:Nat):Int)<((slots:Nat):Int)-((args:Nat):Int):=by omega
    have HP:Hid (Calls Tryz.prog 99 #[.pointer (some ⟨C.mb,4,none⟩),.agg #[.int .i64 0,.bool false,.int .i64 0,.string ⟨#[]⟩,.pointer none]] wr (MP C D X β wr ({ m with now:=⟨steps,0,(m.vals.length:Int)-(args:Nat)⟩,vals:=m.vals++K6 i }.push Ag) (.tuple #[]))):=hsr.push Ag (by simp[C8,Ag]) (by simp[K6];omega);clear hsr;go_wp2_with fail
    refine HP.o.mono ?_;rintro e w2 ⟨rfl,h2,k2⟩;have Ai:=A0 h2;have Aa:Hid (A3 (dx D X) w w2):=HBr.o.trans k2;have E2:=h2.Au;clear h2 k2 HP;go_wp2;go_roundg (gk-1)
    case measure=>omega
    case rel=>
     refine⟨i+1,by simp,by omega,?_,Aa.o⟩;have:=Ai.o;rw[MS.push]at this;simpa [K6,List.replicate_succ',List.append_assoc]using this
   ·have t0:¬((i:Nat):Int)<((slots:Nat):Int)-((args:Nat):Int):=by omega
    clear hsr;go_wp2;go_end0;have e:i=slots-args:=by omega
    refine⟨rfl,?_,HBr.o⟩;have:=HSr.o;rw[e]at this;exact this
def Xa(X:Nat->Prop)(w w1:World):Nat->Prop:=fun g=>Cp X w g\/(w1.heap.size<=g/\g<w1.heap.size+1)
theorem MC.Ms.Zm{w1:World}(h:C.Ms D (Xa X w w1) β w' m):C.Ms D X β w' m:=h.less (fun _ h=>.inl (.inl h)) (fun _ _ _=>rfl) rfl
theorem Ox{w1 w2 w3:World}(h:A3 (dx D (Xa X w w1)) w2 w3):A3 (dx D X) w2 w3:=h.weak (fun _ hg=>hg.imp id (fun q=>.inl (.inl q)))
theorem MC.Ms.A1d(h:C.Ms D (Cp X w) β w' m)(o:Obj):C.Ms D (Xa X w w') β (w'.alloc o) m/\A3 (dx D (Cp X w)) w' (w'.alloc o):=by
 have hb:Below w'.heap.size w' (w'.alloc o):=Below.alloc (Below.refl _ _) (Nat.le_refl _) _;have:=h.more hb;rw[World.size_alloc]at this;exact⟨this,(h.below hb).2⟩
theorem z0pa {P:Prop} (h:P:=by
  unfold Az at HP;clear h2 k2 F1;go_wp2;refine Ih 4 z4xa z4xa ?_;simp only[List.take_succ_cons,List.take_zero,List.drop_succ_cons,List.drop_zero];iterate 4 (refine Ez (fun K' hK'=>?_);go_simp;refine hK' _ ?_;clear hK' K')
  refine Ig ?_;go_wp2_with fail
  refine HP.o.mono ?_;rintro e w3 ⟨rfl,h3,k3⟩;have lb3:=h3.Au;have Av:Hid (A3 (dx D X) w w3):=Aa.o.trans ((Dw _ w2 1).trans (Ox k3));have HF:=A0 h3.A10;clear h3 k3;go_wp2_with fail
  refine HF.o.mono ?_;rintro e w4 ⟨y,rfl,hy,h4,k4⟩;obtain⟨x4,_,g6,g7,g8,gz⟩:=h4.Ul;have lb4:=h4.Au;obtain⟨s1,s2⟩:=h4.T0 y _ hy;have Gp:=A0 s1.Zm;have E4:Hid (A3 (dx D X) w _):=Av.o.trans ((Ox k4).trans (Ox s2));clear h4 k4 s1 s2 hy;unfold Sf;go_wp2;go_end0;exact⟨rfl,Gp.o,E4.o⟩):P:=h
theorem A87(h:C.Ms D X β w m)(i:Ac)(ho:i.op=44)(hv:C8 m.arr.length m.top)(hn:m.vals.length+1<=100000):Calls Tryz.prog 160 #[.pointer (some ⟨C.mb,0,none⟩),Ab i] w (MP C D X β w ({ (m.pop.cut m.now.base).push m.top with now:=m.calls.getLastD ⟨[],0,0⟩,calls:=m.calls.dropLast }) (.tuple #[])):=by
 obtain⟨w0,Am,Ap,Af,Al,Aq,n0,n1,n2,n3,n4,n5,n6,n7,ln,lb,Bz⟩:=h.C1 i;clear h;have t43:((i.op:Int)==43)=false:=by rw[ho];rfl
 have t44:((i.op:Int)==44)=true:=by rw[ho];rfl
 have HT:=A0 Ap.o.pop;have cb:=Ap.o.base;generalize hu:m.top=u at *;have HV:=A0 hv;unfold Az at HT;clear ho hv hu;unfold Ab;go_enter Tryz.func160,Tryz.ntmps160;go_wp2_with fail
 rw[←Am.o];refine HT.o.mono ?_;rintro e w1 ⟨rfl,h1,k1⟩;have Bj:=h1.Au;have A7:=A0 h1;have A4:Hid (A3 (dx D X) w w1):=Af.o.trans (Ae k1);have Ad:=(k1.block _ Al.o).trans Aq.o;have Bo:=A0 Ad;clear n0 n1 n2 n3 n4 n5 n6 n7 ln;obtain⟨n0,n1,n2,n3,n4,n5,n6,n7,ln⟩:=B1 Ad;clear h1 k1 Ad;have cb1:=A7.o.base;obtain⟨wa,hwa⟩:∃wa,wa=w1.alloc (.cells #[.int .i64 (u.k:Nat),.bool u.y,.int .i64 u.n,.string ⟨u.t.toArray⟩,.pointer (Bk β u)] 225):=⟨_,rfl⟩;have hka:=A7.o.A1d (.cells #[.int .i64 (u.k:Nat),.bool u.y,.int .i64 u.n,.string ⟨u.t.toArray⟩,.pointer (Bk β u)] 225);have hqa:=heap_alloc_new w1 (.cells #[.int .i64 (u.k:Nat),.bool u.y,.int .i64 u.n,.string ⟨u.t.toArray⟩,.pointer (Bk β u)] 225);rw[←hwa]at hka hqa;have HBa:Hid (A3 (dx D X) w wa):=A4.o.trans (Ae hka.2);have cba:=hka.1.base;have lba:=hka.1.Au;have HC:=A0 (hka.1.Hs.cut m.now.base);have HQa:=A0 hqa;have HWa:=A0 hwa;clear hka hqa hwa;go_wp2;rw[←HWa.o];refine Ih 8 z4xa z4xa ?_;simp only[List.take_succ_cons,List.take_zero,List.drop_succ_cons,List.drop_zero];iterate 8 (refine Ez (fun K' hK'=>?_);go_simp;refine hK' _ ?_;clear hK' K')
 refine Ig ?_;go_wp2_with fail
 refine HC.o.mono ?_;rintro e w2 ⟨rfl,h2,k2⟩;have F1:=(k2.block _ (.inr (.inr ⟨Nat.le_refl _,by omega⟩))).trans HQa.o;obtain⟨p0,p1,p2,p3,p4,fp,lp⟩:=My F1;have E2:=h2.Au;have Aa:Hid (A3 (dx D X) w w2):=HBa.o.trans ((Dw _ wa 1).trans (Ox k2));have HP:=A0 (h2.Hs.push u HV.o (by have:=hn;simp[MS.cut,MS.pop];split <;> simp <;> omega));exact z0pa
theorem A7x(h:C.Ms D X β w m)(i:Ac)(ho:i.op=43)(hn:m.vals.length+1<=100000):Calls Tryz.prog 160 #[.pointer (some ⟨C.mb,0,none⟩),Ab i] w (MP C D X β w ({ (m.cut m.now.base).push Ag with now:=m.calls.getLastD ⟨[],0,0⟩,calls:=m.calls.dropLast }) (.tuple #[])):=by
 obtain⟨w0,Am,Ap,Af,Al,Aq,n0,n1,n2,n3,n4,n5,n6,n7,ln,lb,Bz⟩:=h.C1 i;clear h;have t43:((i.op:Int)==43)=true:=by rw[ho];rfl
 have HP0:=A0 (Ap.o.push Ag (by simp[C8,Ag]) hn);unfold Az at HP0;clear ho;unfold Ab;go_enter Tryz.func160,Tryz.ntmps160;go_wp2_with fail
 rw[←Am.o];refine HP0.o.mono ?_;rintro e w1 ⟨rfl,h1,k1⟩;have Bj:=h1.Au;have A7:=A0 h1;have A4:Hid (A3 (dx D X) w w1):=Af.o.trans (Ae k1);have Ad:=(k1.block _ Al.o).trans Aq.o;have Bo:=A0 Ad;clear n0 n1 n2 n3 n4 n5 n6 n7 ln;obtain⟨n0,n1,n2,n3,n4,n5,n6,n7,ln⟩:=B1 Ad;clear h1 k1 Ad;have hpp:=A7.o.pop;have e1:(m.push Ag).pop=m:=by simp[MS.push,MS.pop]
 have e2:(m.push Ag).top=Ag:=by simp[MS.push,MS.top]
 rw[e1,e2]at hpp;have HT:=A0 hpp;unfold Az at HT;clear hpp e1 e2;go_wp2_with fail
 refine HT.o.mono ?_;rintro e w1 ⟨rfl,h1,k1⟩;have Bj:=h1.Au;have A7:=A0 h1;have A4:Hid (A3 (dx D X) w w1):=A4.o.trans (Ae k1);have Ad:=(k1.block _ Al.o).trans Bo.o;have Bo:=A0 Ad;clear n0 n1 n2 n3 n4 n5 n6 n7 ln;obtain⟨n0,n1,n2,n3,n4,n5,n6,n7,ln⟩:=B1 Ad;clear h1 k1 Ad;have cb1:=A7.o.base;obtain⟨wa,hwa⟩:∃wa,wa=w1.alloc (.cells #[.int .i64 (Ag.k:Nat),.bool Ag.y,.int .i64 Ag.n,.string ⟨Ag.t.toArray⟩,.pointer (Bk β Ag)] 225):=⟨_,rfl⟩;have hka:=A7.o.A1d (.cells #[.int .i64 (Ag.k:Nat),.bool Ag.y,.int .i64 Ag.n,.string ⟨Ag.t.toArray⟩,.pointer (Bk β Ag)] 225);have hqa:=heap_alloc_new w1 (.cells #[.int .i64 (Ag.k:Nat),.bool Ag.y,.int .i64 Ag.n,.string ⟨Ag.t.toArray⟩,.pointer (Bk β Ag)] 225);rw[←hwa]at hka hqa;have HBa:Hid (A3 (dx D X) w wa):=A4.o.trans (Ae hka.2);have cba:=hka.1.base;have lba:=hka.1.Au;have HC:=A0 (hka.1.Hs.cut m.now.base);have HQa:=A0 hqa;have HWa:=A0 hwa;clear hka hqa hwa;go_wp2;rw[←HWa.o];refine Ih 8 z4xa z4xa ?_;simp only[List.take_succ_cons,List.take_zero,List.drop_succ_cons,List.drop_zero];iterate 8 (refine Ez (fun K' hK'=>?_);go_simp;refine hK' _ ?_;clear hK' K')
 refine Ig ?_;go_wp2_with fail
 refine HC.o.mono ?_;rintro e w2 ⟨rfl,h2,k2⟩;have F1:=(k2.block _ (.inr (.inr ⟨Nat.le_refl _,by omega⟩))).trans HQa.o;obtain⟨p0,p1,p2,p3,p4,fp,lp⟩:=My F1;have E2:=h2.Au;have Aa:Hid (A3 (dx D X) w w2):=HBa.o.trans ((Dw _ wa 1).trans (Ox k2));have HP:=A0 (h2.Hs.push Ag (by simp[C8,Ag]) (by simp only[MS.cut];split;exact hn;simp only[List.length_take];omega));exact z0pa
def K0:Nat:=4
theorem Yk:Tryz.prog.globalNamed "internal/strconv.uint64pow10"=some K0:=by kernel_rfl
theorem G3.of{w w':World}(h:G3 w)(hb:w'.heap[K0]?=w.heap[K0]?):G3 w':=by
 unfold G3 Lib.TabIs World.var? at *;rw[Yk]at h ⊢;simp only[Option.bind_some]at h ⊢;rw[hb];exact h
theorem G3.Bq{w w':World}(h:G3 w)(hD:D K0)(hb:A3 (dx D X) w w'):G3 w':=h.of (hb.block _ (.inl hD))
theorem MC.Ms.Qx(h:C.Ms D X β w m):∃oa oc,w.cell? ⟨C.mb,11,none⟩=some (.slice oa m.out.length oc)/\(∀o,w.frozen? ⟨C.mb,o,none⟩=false):=by
 obtain⟨ρ,s,x,fv,ab,lp,h⟩:=h;have hv:s.on=m.out.length:=(C9 h.out).1;have:=A2 h.cell 11 (.slice s.oa s.on s.oc) rfl;rw[hv]at this;exact⟨_,_,this,Bd h.cell⟩
def Tl(v:PV):Prop:=v.k≠4/\D4 v.n/\v.t.length<=100000
theorem z0ra {P:Prop} (h:P:=by
  have Bi:=A0 (fun(W:World) (hb:Below w2.heap.size w2 W)=>And.intro ((fun hs=>Gw hs 10 i) (Ai.o.below hb).1) (Aa.o.trans (Ae (Ai.o.below hb).2)));unfold Ab at Bi;go_wp2_with fail
  refine((Bi.o _ z4ua).1).mono ?_;rintro e w3 ⟨rfl,h3,k3⟩;have Bc:=A0 h3.back;have Av:Hid (A3 (dx D X) w w3):=(Bi.o _ z4ua).2.trans (Ae k3);clear h3 k3;go_wp2;refine bodyPost_ret (v:=.tuple #[]) (by simp[results,Tryz.results158,go_sem]) rfl ?_;exact⟨rfl,Bc.o,Av.o⟩):P:=h
theorem A8j(h:C.Ms D X β w m)(i:Ac)(hf:Tl m.top)(ht:G3 w)(hD:D K0)(hz:500<(G1 m.arr 4 [] m.top).length):Calls Tryz.prog 158 #[.pointer (some ⟨C.mb,0,none⟩),Ab i] w (MP C D X β w (m.pop.fail 10 i) (.tuple #[])):=by
 obtain⟨w0,Am,Ap,Af,Al,Aq,n0,n1,n2,n3,n4,n5,n6,n7,ln,lb,Bz⟩:=h.C1 i;clear h;have HTp:=A0 Ap.o.pop;have HT0:=A0 ht;have hq:N6 (G1 m.arr 4 [] m.top)=.tuple #[.string ⟨#[]⟩,.bool false]:=by unfold N6;rw[if_pos hz]
 unfold Az at HTp;clear ht;generalize hl:G1 m.arr 4 [] m.top=l at *;unfold Ab;go_enter Tryz.func158,Tryz.ntmps158;go_wp2_with fail
 rw[←Am.o];refine HTp.o.mono ?_;rintro e w1 ⟨rfl,h1,k1⟩;have Bj:=h1.Au;have A7:=A0 h1;have A4:Hid (A3 (dx D X) w w1):=Af.o.trans (Ae k1);have Ad:=(k1.block _ Al.o).trans Aq.o;have Bo:=A0 Ad;clear n0 n1 n2 n3 n4 n5 n6 n7 ln;obtain⟨n0,n1,n2,n3,n4,n5,n6,n7,ln⟩:=B1 Ad;clear h1 k1 Ad;have HL:=A0 (Xn m.top (Bk β m.top) hf.1 hf.2.1 hf.2.2 m.arr w1 (HT0.o.Bq hD A4.o));rw[hl,hq]at HL;have HF:=A0 hf;clear hf hq hl HT0;obtain⟨oa,oc,o11,oz⟩:=A7.o.Qx;go_wp2_with fail
 refine HL.o.mono ?_;rintro e w2 ⟨rfl,A8⟩;have B0:=A7.o.below A8;have Aw:=(A8.block _ (A5 Bo.o)).trans Bo.o;have Ai:=A0 B0.1;have Aa:Hid (A3 (dx D X) w w2):=A4.o.trans (Ae B0.2);have Ee:=A0 Aw;clear n0 n1 n2 n3 n4 n5 n6 n7 ln o11 oz;obtain⟨n0,n1,n2,n3,n4,n5,n6,n7,ln⟩:=B1 Aw;have E2:=Ai.o.Au;obtain⟨oa2,oc2,o11,oz⟩:=Ai.o.Qx;clear A8 B0 Aw HL;exact z0ra
theorem A8k(h:C.Ms D X β w m)(i:Ac)(hf:Tl m.top)(ht:G3 w)(hD:D K0)(hz:(G1 m.arr 4 [] m.top).length<=500)(ho:m.out.length=100):Calls Tryz.prog 158 #[.pointer (some ⟨C.mb,0,none⟩),Ab i] w (MP C D X β w (m.pop.fail 10 i) (.tuple #[])):=by
 obtain⟨w0,Am,Ap,Af,Al,Aq,n0,n1,n2,n3,n4,n5,n6,n7,ln,lb,Bz⟩:=h.C1 i;clear h;have HTp:=A0 Ap.o.pop;have HT0:=A0 ht;have hq:N6 (G1 m.arr 4 [] m.top)=.tuple #[.string ⟨(G1 m.arr 4 [] m.top).toArray⟩,.bool true]:=by unfold N6;rw[if_neg z4va]
 unfold Az at HTp;clear ht;generalize hl:G1 m.arr 4 [] m.top=l at *;unfold Ab;go_enter Tryz.func158,Tryz.ntmps158;go_wp2_with fail
 rw[←Am.o];refine HTp.o.mono ?_;rintro e w1 ⟨rfl,h1,k1⟩;have Bj:=h1.Au;have A7:=A0 h1;have A4:Hid (A3 (dx D X) w w1):=Af.o.trans (Ae k1);have Ad:=(k1.block _ Al.o).trans Aq.o;have Bo:=A0 Ad;clear n0 n1 n2 n3 n4 n5 n6 n7 ln;obtain⟨n0,n1,n2,n3,n4,n5,n6,n7,ln⟩:=B1 Ad;clear h1 k1 Ad;have HL:=A0 (Xn m.top (Bk β m.top) hf.1 hf.2.1 hf.2.2 m.arr w1 (HT0.o.Bq hD A4.o));rw[hl,hq]at HL;have HF:=A0 hf;clear hf hq hl HT0;obtain⟨oa,oc,o11,oz⟩:=A7.o.Qx;go_wp2_with fail
 refine HL.o.mono ?_;rintro e w2 ⟨rfl,A8⟩;have B0:=A7.o.below A8;have Aw:=(A8.block _ (A5 Bo.o)).trans Bo.o;have Ai:=A0 B0.1;have Aa:Hid (A3 (dx D X) w w2):=A4.o.trans (Ae B0.2);have Ee:=A0 Aw;clear n0 n1 n2 n3 n4 n5 n6 n7 ln o11 oz;obtain⟨n0,n1,n2,n3,n4,n5,n6,n7,ln⟩:=B1 Aw;have E2:=Ai.o.Au;obtain⟨oa2,oc2,o11,oz⟩:=Ai.o.Qx;clear A8 B0 Aw HL;have t0:(((m.pop.out.length:Nat):Int)==100)=true:=by show(((m.out.length:Nat):Int)==100)=true;rw[ho];rfl
 exact z0ra
theorem A8l(h:C.Ms D X β w m)(i:Ac)(hf:Tl m.top)(ht:G3 w)(hD:D K0)(hz:(G1 m.arr 4 [] m.top).length<=500)(ho:m.out.length<100):Calls Tryz.prog 158 #[.pointer (some ⟨C.mb,0,none⟩),Ab i] w (MP C D X β w ({ m.pop with out:=m.out++[G1 m.arr 4 [] m.top] }) (.tuple #[])):=by
 obtain⟨w0,Am,Ap,Af,Al,Aq,n0,n1,n2,n3,n4,n5,n6,n7,ln,lb,Bz⟩:=h.C1 i;clear h;have HTp:=A0 Ap.o.pop;have HT0:=A0 ht;have hq:N6 (G1 m.arr 4 [] m.top)=.tuple #[.string ⟨(G1 m.arr 4 [] m.top).toArray⟩,.bool true]:=by unfold N6;rw[if_neg z4va]
 unfold Az at HTp;clear ht;generalize hl:G1 m.arr 4 [] m.top=l at *;unfold Ab;go_enter Tryz.func158,Tryz.ntmps158;go_wp2_with fail
 rw[←Am.o];refine HTp.o.mono ?_;rintro e w1 ⟨rfl,h1,k1⟩;have Bj:=h1.Au;have A7:=A0 h1;have A4:Hid (A3 (dx D X) w w1):=Af.o.trans (Ae k1);have Ad:=(k1.block _ Al.o).trans Aq.o;have Bo:=A0 Ad;clear n0 n1 n2 n3 n4 n5 n6 n7 ln;obtain⟨n0,n1,n2,n3,n4,n5,n6,n7,ln⟩:=B1 Ad;clear h1 k1 Ad;have HL:=A0 (Xn m.top (Bk β m.top) hf.1 hf.2.1 hf.2.2 m.arr w1 (HT0.o.Bq hD A4.o));rw[hl,hq]at HL;have HF:=A0 hf;clear hf hq hl HT0;obtain⟨oa,oc,o11,oz⟩:=A7.o.Qx;go_wp2_with fail
 refine HL.o.mono ?_;rintro e w2 ⟨rfl,A8⟩;have B0:=A7.o.below A8;have Aw:=(A8.block _ (A5 Bo.o)).trans Bo.o;have Ai:=A0 B0.1;have Aa:Hid (A3 (dx D X) w w2):=A4.o.trans (Ae B0.2);have Ee:=A0 Aw;clear n0 n1 n2 n3 n4 n5 n6 n7 ln o11 oz;obtain⟨n0,n1,n2,n3,n4,n5,n6,n7,ln⟩:=B1 Aw;have E2:=Ai.o.Au;obtain⟨oa2,oc2,o11,oz⟩:=Ai.o.Qx;clear A8 B0 Aw HL;have t0:(((m.pop.out.length:Nat):Int)==100)=false:=by show(((m.out.length:Nat):Int)==100)=false;rw[beq_eq_false_iff_ne];omega
 clear oa2 oc2 o11 oz;obtain⟨ρ,s,x,fv,ab,lp,hv⟩:=Ai.o;have hvn:s.on=m.pop.out.length:=(C9 hv.out).1;have o11:=A2 hv.cell 11 (.slice s.oa s.on s.oc) rfl;have hown:=hv.out;rw[hvn]at o11 hown;have HV:=A0 hv;have HNe:Hid (∀g,(Value.slice s.oa m.pop.out.length s.oc).ownBlock=some g->g≠C.mb):=fun g hg e=>by
  have:=hv.outo g (by rw[hvn];exact hg);rw[e,hv.one.1]at this;cases this
 have HVn:=A0 hvn;have hlen:m.pop.out.length<=1000000:=by show m.out.length<=1000000;omega
 clear hv hvn;go_wp2_with (at_builtin;refine Kj w2 #[.string ⟨l.toArray⟩] 9 rfl (.tmp 31) (.tmp 33) 37 rfl 0 1 16 (.string ⟨#[]⟩) Tryz.underlying37 Xf rfl z4va _ _ _ rfl rfl hown rfl z6da hlen z4va (Nat.zero_le _) ?_;intro g cap w3 F0 hgrow hat hg;have Aj:=(hgrow.block C.mb E2 (fun e=>HNe.o _ e.symm rfl)).trans HV.o.cell;have c11:=A2 Aj 11 (.slice s.oa s.on s.oc) rfl;have fz:=Bd Aj;have lb3:=A5 Aj;have Av:=A0 Aj;have HO:=A0 F0;have HG:=A0 hgrow;have HA:=A0 hat;clear hown F0 hgrow hat Aj o11)
 go_wp2;go_end0;have hgb:g≠C.mb:=by
  rcases HA.o with e|e
  ·exact HNe.o g e
  ·omega
 have hset:∀k,k≠C.mb->(w3.setCell ⟨C.mb,11,none⟩ (.slice (some ⟨g,0,none⟩) (m.pop.out.length+1) cap)).heap[k]?=w3.heap[k]?:=fun k hk=>Below.heap_setCell _ _ _ _ z5sa;have hc:G9 6 ρ w2 (w3.setCell ⟨C.mb,11,none⟩ (.slice (some ⟨g,0,none⟩) (m.pop.out.length+1) cap)):=⟨by rw[R8];exact HG.o.os,by rw[Ra];exact HG.o.tape,by rw[R9];exact HG.o.output,by simp[World.setCell];exact HG.o.size,fun k hk h1 h2=>(hset k (fun e=>h1 (by rw[e];exact HV.o.one.1))).trans (HG.o.block k hk (fun e=>h2 (HV.o.outo k (by rw[HVn.o];exact e.symm))))⟩;have hfin:=HV.o.Akt hc (oa:=some ⟨g,0,none⟩) (on:=m.pop.out.length+1) (oc:=cap) (out:=m.pop.out++[l]) (x':=x) (now:=m.pop.now) (fuel:=m.pop.fuel) (cells:=m.pop.cells) (code:=m.pop.code) (line:=m.pop.line) (by rw[heap_set (j:=11) Av.o];simp[MC.cells])
  (by rw[List.length_append,R7,Sz];exact B4 HO.o (fun k hk _=>hset k (by simp only[Value.ownBlock,Option.some.injEq]at hk;rw[←hk];exact hgb)))
  (fun k hk=>by
   simp only[Value.ownBlock,Option.some.injEq]at hk;rw[←hk,HVn.o];rcases HA.o with e|e
   ·exact .inl e
   ·exact .inr z4va) HV.o.now (by show(m.out++[l]).length<=100;simp;omega)
 exact⟨rfl,MC.Ms.back ⟨_,_,_,_,_,_,hfin⟩,Aa.o.trans (Ae (HV.o.F7 hc z4va))⟩
theorem A8b(h:C.Ms D X β w m)(i:Ac)(ho:i.op=7)(hy:m.top.y=true)(hf:m.fuel=0):Calls Tryz.prog 155 #[.pointer (some ⟨C.mb,0,none⟩),Ab i] w (MP C D X β w (m.pop.fail 8 i) (.tuple #[])):=by
 obtain⟨w0,Am,Ap,Af,Al,Aq,n0,n1,n2,n3,n4,n5,n6,n7,ln,lb,Bz⟩:=h.C1 i;clear h;have HT:=A0 Ap.o.pop;have t7:((i.op:Int)==7)=true:=by rw[ho];rfl
 unfold Az at HT;clear ho;unfold Ab;go_enter Tryz.func155,Tryz.ntmps155;go_wp2_with fail
 rw[←Am.o];refine HT.o.mono ?_;rintro e w1 ⟨rfl,h1,k1⟩;have Bj:=h1.Au;have A7:=A0 h1;have A4:Hid (A3 (dx D X) w w1):=Af.o.trans (Ae k1);have Ad:=(k1.block _ Al.o).trans Aq.o;have Bo:=A0 Ad;clear n0 n1 n2 n3 n4 n5 n6 n7 ln;obtain⟨n0,n1,n2,n3,n4,n5,n6,n7,ln⟩:=B1 Ad;clear h1 k1 Ad;have HSp:=A0 (fun(W:World) (hb:Below w1.heap.size w1 W)=>And.intro (A23 (A7.o.below hb).1 i hf) (A4.o.trans (Ae (A7.o.below hb).2)));unfold Ab at HSp;have hbi2:∀(W:World) (hb:Below w1.heap.size w1 W),W.heap[w.heap.size]?=w1.heap[w.heap.size]?:=fun W hb=>hb.block _ (A5 Bo.o);have HBI:=A0 hbi2;clear hbi2;go_wp2_with fail
 refine((HSp.o _ z4ua).1).mono ?_;rintro e w2 ⟨rfl,h2,k2⟩;have E2:=h2.Au;have Ai:=A0 h2;have Aa:Hid (A3 (dx D X) w w2):=(HSp.o _ z4ua).2.trans (Ae k2);have Aw:=(k2.block _ Al.o).trans ((HBI.o _ z4ua).trans Bo.o);have Ee:=A0 Aw;clear h2 k2 Aw;have HSb:=A0 Ai.o.back;go_wp2;refine bodyPost_ret (v:=.tuple #[]) (by simp[results,Tryz.results155,go_sem]) rfl ?_;exact⟨rfl,HSb.o,Aa.o⟩
theorem z0fa {P:Prop} (h:P:=by
  go_wp2_with fail
  rw[←Am.o];refine HT.o.mono ?_;rintro e w1 ⟨rfl,h1,k1⟩;have Bj:=h1.Au;have A7:=A0 h1;have A4:Hid (A3 (dx D X) w w1):=Af.o.trans (Ae k1);have Ad:=(k1.block _ Al.o).trans Aq.o;have Bo:=A0 Ad;clear n0 n1 n2 n3 n4 n5 n6 n7 ln;obtain⟨n0,n1,n2,n3,n4,n5,n6,n7,ln⟩:=B1 Ad;clear h1 k1 Ad;obtain⟨⟨v7,c7⟩,f7⟩:=A7.o.Uq;obtain⟨s1,s2⟩:=A7.o.T2 i.arg ha;have HQ:=A0 (fun(W:World) (hb:Below (w1.setCell ⟨C.mb,7,none⟩ (.int .i64 i.arg)).heap.size (w1.setCell ⟨C.mb,7,none⟩ (.int .i64 i.arg)) W)=>And.intro (s1.below hb).1.back (A4.o.trans ((Ae s2).trans (Ae (s1.below hb).2))));clear s1 s2;go_wp2;go_end0;exact⟨rfl,HQ.o _ (Below.alloc (Below.refl _ _) (Nat.le_refl _) _)⟩):P:=h
theorem A8a(h:C.Ms D X β w m)(i:Ac)(ho:i.op=7)(hk:m.top.k=1)(hy:m.top.y=false)(ha:0<=i.arg):Calls Tryz.prog 155 #[.pointer (some ⟨C.mb,0,none⟩),Ab i] w (MP C D X β w (m.pop.jump i.arg) (.tuple #[])):=by
 obtain⟨w0,Am,Ap,Af,Al,Aq,n0,n1,n2,n3,n4,n5,n6,n7,ln,lb,Bz⟩:=h.C1 i;clear h;have HT:=A0 Ap.o.pop;have t7:((i.op:Int)==7)=true:=by rw[ho];rfl
 have tk:(((m.top.k:Nat):Int) !=1)=false:=by rw[hk];rfl
 unfold Az at HT;clear ho hk;unfold Ab;go_enter Tryz.func155,Tryz.ntmps155;exact z0fa
theorem z1ba {P:Prop} (h:P:=by
  go_wp2_with fail
  rw[←Am.o];refine HT.o.mono ?_;rintro e w1 ⟨rfl,h1,k1⟩;have Bj:=h1.Au;have A7:=A0 h1;have A4:Hid (A3 (dx D X) w w1):=Af.o.trans (Ae k1);have Ad:=(k1.block _ Al.o).trans Aq.o;have Bo:=A0 Ad;clear n0 n1 n2 n3 n4 n5 n6 n7 ln;obtain⟨n0,n1,n2,n3,n4,n5,n6,n7,ln⟩:=B1 Ad;clear h1 k1 Ad;have B2:=A0 (fun(W:World) (hb:Below w1.heap.size w1 W)=>And.intro ((fun hs=>Gw hs 5 i) (A7.o.below hb).1) (A4.o.trans (Ae (A7.o.below hb).2)));unfold Ab at B2;exact z01a):P:=h
theorem A88(h:C.Ms D X β w m)(i:Ac)(ho:i.op=7)(hk:m.top.k≠1)(hy:m.top.y=false):Calls Tryz.prog 155 #[.pointer (some ⟨C.mb,0,none⟩),Ab i] w (MP C D X β w (m.pop.fail 5 i) (.tuple #[])):=by
 obtain⟨w0,Am,Ap,Af,Al,Aq,n0,n1,n2,n3,n4,n5,n6,n7,ln,lb,Bz⟩:=h.C1 i;clear h;have HT:=A0 Ap.o.pop;have t7:((i.op:Int)==7)=true:=by rw[ho];rfl
 have tk:(((m.top.k:Nat):Int) !=1)=true:=by rw[bne_iff_ne];omega
 unfold Az at HT;clear ho hk;unfold Ab;go_enter Tryz.func155,Tryz.ntmps155;exact z1ba
theorem MC.Ms.A1c(h:C.Ms D (Cp X w) β w' m)(o:Obj):C.Ms D (fun g=>Cp X w g\/(w'.heap.size<=g/\g<w'.heap.size+1)) β (w'.alloc o) m:=by
 have hb:Below w'.heap.size w' (w'.alloc o):=Below.alloc (Below.refl _ _) (Nat.le_refl _) _;have:=h.more hb;rw[World.size_alloc]at this;exact this
theorem A8c(h:C.Ms D X β w m)(i:Ac)(ho:i.op=7)(hk:m.top.k=1)(hy:m.top.y=true)(hf:m.fuel≠0)(hf2:m.fuel<=100000):Calls Tryz.prog 155 #[.pointer (some ⟨C.mb,0,none⟩),Ab i] w (MP C D X β w ({ m.pop with fuel:=m.fuel-1 }) (.tuple #[])):=by
 obtain⟨w0,Am,Ap,Af,Al,Aq,n0,n1,n2,n3,n4,n5,n6,n7,ln,lb,Bz⟩:=h.C1 i;clear h;have HT:=A0 Ap.o.pop;have t7:((i.op:Int)==7)=true:=by rw[ho];rfl
 have tk:(((m.top.k:Nat):Int) !=1)=false:=by rw[hk];rfl
 unfold Az at HT;clear ho hk;unfold Ab;go_enter Tryz.func155,Tryz.ntmps155;go_wp2_with fail
 rw[←Am.o];refine HT.o.mono ?_;rintro e w1 ⟨rfl,h1,k1⟩;have Bj:=h1.Au;have A7:=A0 h1;have A4:Hid (A3 (dx D X) w w1):=Af.o.trans (Ae k1);have Ad:=(k1.block _ Al.o).trans Aq.o;have Bo:=A0 Ad;clear n0 n1 n2 n3 n4 n5 n6 n7 ln;obtain⟨n0,n1,n2,n3,n4,n5,n6,n7,ln⟩:=B1 Ad;clear h1 k1 Ad;have I3:=A0 (A7.o.A1c (.cells #[.int .i64 (m.top.k:Nat),.bool true,.int .i64 m.top.n,.string ⟨m.top.t.toArray⟩,.pointer (Bk β m.top)] 225));have hbz:Below w1.heap.size w1 (w1.alloc (.cells #[.int .i64 (m.top.k:Nat),.bool true,.int .i64 m.top.n,.string ⟨m.top.t.toArray⟩,.pointer (Bk β m.top)] 225)):=Below.alloc (Below.refl _ _) (Nat.le_refl _) _;have HB1a:Hid (A3 (dx D X) w (w1.alloc (.cells #[.int .i64 (m.top.k:Nat),.bool true,.int .i64 m.top.n,.string ⟨m.top.t.toArray⟩,.pointer (Bk β m.top)] 225))):=A4.o.trans (Ae (A7.o.below hbz).2);have HI1a:=A0 ((hbz.block _ (A5 Bo.o)).trans Bo.o);have HV1:=A0 (heap_alloc_new w1 (.cells #[.int .i64 (m.top.k:Nat),.bool true,.int .i64 m.top.n,.string ⟨m.top.t.toArray⟩,.pointer (Bk β m.top)] 225));clear hbz;have HSp:=A0 (Uj I3.o i hf hf2);unfold Ab at HSp;go_wp2_with fail
 refine HSp.o.mono ?_;rintro e w2 ⟨rfl,h2,k2⟩;have E2:=h2.Au;have Ai:Hid (C.Ms D (Cp X w) β w2 { m.pop with fuel:=m.fuel-1 }):=h2.less (fun _ h=>.inl h) (fun _ _ _=>rfl) rfl;have Aa:Hid (A3 (dx D X) w w2):=HB1a.o.trans (k2.weak (fun _ hg=>hg.imp id (fun q=>.inl (.inl q))));have Aw:=(k2.block w.heap.size (.inr (.inl (.inr ⟨Nat.le_refl _,by omega⟩)))).trans HI1a.o;have Ft:=(k2.block w1.heap.size (.inr (.inr ⟨Nat.le_refl _,by omega⟩))).trans HV1.o;clear n0 n1 n2 n3 n4 n5 n6 n7 ln;obtain⟨n0,n1,n2,n3,n4,n5,n6,n7,ln⟩:=B1 Aw;obtain⟨p0,p1,p2,p3,p4,fp,lp⟩:=My Ft;clear h2 k2 Aw Ft;have HSb:=A0 Ai.o.back;go_wp2;go_end0;exact⟨rfl,HSb.o,Aa.o⟩
theorem z19a {P:Prop} (h:P:=by
  (try unfold Ab at Bi);go_wp2_with fail
  refine((Bi.o _ z4ua).1).mono ?_;rintro e w3 ⟨rfl,h3,k3⟩;have Bc:=A0 h3.back;have Av:Hid (A3 (dx D X) w w3):=(Bi.o _ z4ua).2.trans (Ae k3);clear h3 k3;go_wp2;go_end0;exact⟨rfl,Bc.o,Av.o⟩):P:=h
theorem A89(h:C.Ms D X β w m)(i:Ac)(ho:i.op=7)(hk:m.top.k≠1)(hy:m.top.y=true)(hf:m.fuel≠0)(hf2:m.fuel<=100000):Calls Tryz.prog 155 #[.pointer (some ⟨C.mb,0,none⟩),Ab i] w (MP C D X β w ({ m.pop with fuel:=m.fuel-1 }.fail 5 i) (.tuple #[])):=by
 obtain⟨w0,Am,Ap,Af,Al,Aq,n0,n1,n2,n3,n4,n5,n6,n7,ln,lb,Bz⟩:=h.C1 i;clear h;have HT:=A0 Ap.o.pop;have t7:((i.op:Int)==7)=true:=by rw[ho];rfl
 have tk:(((m.top.k:Nat):Int) !=1)=true:=by rw[bne_iff_ne];omega
 unfold Az at HT;clear ho hk;unfold Ab;go_enter Tryz.func155,Tryz.ntmps155;go_wp2_with fail
 rw[←Am.o];refine HT.o.mono ?_;rintro e w1 ⟨rfl,h1,k1⟩;have Bj:=h1.Au;have A7:=A0 h1;have A4:Hid (A3 (dx D X) w w1):=Af.o.trans (Ae k1);have Ad:=(k1.block _ Al.o).trans Aq.o;have Bo:=A0 Ad;clear n0 n1 n2 n3 n4 n5 n6 n7 ln;obtain⟨n0,n1,n2,n3,n4,n5,n6,n7,ln⟩:=B1 Ad;clear h1 k1 Ad;have I3:=A0 (A7.o.A1c (.cells #[.int .i64 (m.top.k:Nat),.bool true,.int .i64 m.top.n,.string ⟨m.top.t.toArray⟩,.pointer (Bk β m.top)] 225));have hbz:Below w1.heap.size w1 (w1.alloc (.cells #[.int .i64 (m.top.k:Nat),.bool true,.int .i64 m.top.n,.string ⟨m.top.t.toArray⟩,.pointer (Bk β m.top)] 225)):=Below.alloc (Below.refl _ _) (Nat.le_refl _) _;have HB1a:Hid (A3 (dx D X) w (w1.alloc (.cells #[.int .i64 (m.top.k:Nat),.bool true,.int .i64 m.top.n,.string ⟨m.top.t.toArray⟩,.pointer (Bk β m.top)] 225))):=A4.o.trans (Ae (A7.o.below hbz).2);have HI1a:=A0 ((hbz.block _ (A5 Bo.o)).trans Bo.o);have HV1:=A0 (heap_alloc_new w1 (.cells #[.int .i64 (m.top.k:Nat),.bool true,.int .i64 m.top.n,.string ⟨m.top.t.toArray⟩,.pointer (Bk β m.top)] 225));clear hbz;have HSp:=A0 (Uj I3.o i hf hf2);unfold Ab at HSp;go_wp2_with fail
 refine HSp.o.mono ?_;rintro e w2 ⟨rfl,h2,k2⟩;have E2:=h2.Au;have Ai:Hid (C.Ms D (Cp X w) β w2 { m.pop with fuel:=m.fuel-1 }):=h2.less (fun _ h=>.inl h) (fun _ _ _=>rfl) rfl;have Aa:Hid (A3 (dx D X) w w2):=HB1a.o.trans (k2.weak (fun _ hg=>hg.imp id (fun q=>.inl (.inl q))));have Aw:=(k2.block w.heap.size (.inr (.inl (.inr ⟨Nat.le_refl _,by omega⟩)))).trans HI1a.o;have Ft:=(k2.block w1.heap.size (.inr (.inr ⟨Nat.le_refl _,by omega⟩))).trans HV1.o;clear n0 n1 n2 n3 n4 n5 n6 n7 ln;obtain⟨n0,n1,n2,n3,n4,n5,n6,n7,ln⟩:=B1 Aw;obtain⟨p0,p1,p2,p3,p4,fp,lp⟩:=My Ft;clear h2 k2 Aw Ft;have Bi:=A0 (fun(W:World) (hb:Below w2.heap.size w2 W)=>And.intro ((fun hs=>Gw hs 5 i) (Ai.o.below hb).1) (Aa.o.trans (Ae (Ai.o.below hb).2)));exact z19a
theorem Zh(h:C.Ms D X β w m)(i:Ac)(hk:m.top.k≠1):Calls Tryz.prog 156 #[.pointer (some ⟨C.mb,0,none⟩),Ab i] w (MP C D X β w (m.fail 5 i) (.tuple #[])):=by
 obtain⟨w0,Am,Ap,Af,Al,Aq,n0,n1,n2,n3,n4,n5,n6,n7,ln,lb,Bz⟩:=h.C1 i;clear h;have HT:=A0 Ap.o.top;have tk:(((m.top.k:Nat):Int) !=1)=true:=by rw[bne_iff_ne];omega
 unfold Az at HT;clear hk;unfold Ab;go_enter Tryz.func156,Tryz.ntmps156;exact z1ba
theorem z0na {P:Prop} (h:P:=by
  unfold Az at HT;clear ho hk;unfold Ab;go_enter Tryz.func156,Tryz.ntmps156;go_wp2_with fail
  rw[←Am.o];refine HT.o.mono ?_;rintro e w1 ⟨rfl,h1,k1⟩;have Bj:=h1.Au;have A7:=A0 h1;have A4:Hid (A3 (dx D X) w w1):=Af.o.trans (Ae k1);have Ad:=(k1.block _ Al.o).trans Aq.o;have Bo:=A0 Ad;clear n0 n1 n2 n3 n4 n5 n6 n7 ln;obtain⟨n0,n1,n2,n3,n4,n5,n6,n7,ln⟩:=B1 Ad;clear h1 k1 Ad;have B2:=A0 (fun(W:World) (hb:Below w1.heap.size w1 W)=>And.intro ((fun hs=>MC.Ms.pop hs) (A7.o.below hb).1) (A4.o.trans (Ae (A7.o.below hb).2)));unfold Ab at B2;go_wp2_with fail
  refine((B2.o _ z4ua).1).mono ?_;rintro e w2 ⟨rfl,h2,k2⟩;have Ai:=A0 h2.back;have Aa:Hid (A3 (dx D X) w w2):=(B2.o _ z4ua).2.trans (Ae k2);clear h2 k2;unfold Az;go_wp2;go_end0;exact⟨rfl,Ai.o,Aa.o⟩):P:=h
theorem A6z(h:C.Ms D X β w m)(i:Ac)(ho:i.op=9)(hk:m.top.k=1)(hy:m.top.y=true):Calls Tryz.prog 156 #[.pointer (some ⟨C.mb,0,none⟩),Ab i] w (MP C D X β w (m.pop) (.tuple #[])):=by
 obtain⟨w0,Am,Ap,Af,Al,Aq,n0,n1,n2,n3,n4,n5,n6,n7,ln,lb,Bz⟩:=h.C1 i;clear h;have HT:=A0 Ap.o.top;have tk:(((m.top.k:Nat):Int) !=1)=false:=by rw[hk];rfl
 have t10:((i.op:Int)==10)=false:=by rw[ho];rfl
 exact z0na
theorem z4ba {P:Prop} (h:P:=by
  unfold Az at HT;clear ho hk;unfold Ab;go_enter Tryz.func156,Tryz.ntmps156;exact z0fa):P:=h
theorem A6y(h:C.Ms D X β w m)(i:Ac)(ho:i.op=9)(hk:m.top.k=1)(hy:m.top.y=false)(ha:0<=i.arg):Calls Tryz.prog 156 #[.pointer (some ⟨C.mb,0,none⟩),Ab i] w (MP C D X β w (m.jump i.arg) (.tuple #[])):=by
 obtain⟨w0,Am,Ap,Af,Al,Aq,n0,n1,n2,n3,n4,n5,n6,n7,ln,lb,Bz⟩:=h.C1 i;clear h;have HT:=A0 Ap.o.top;have tk:(((m.top.k:Nat):Int) !=1)=false:=by rw[hk];rfl
 have t10:((i.op:Int)==10)=false:=by rw[ho];rfl
 exact z4ba
theorem A6x(h:C.Ms D X β w m)(i:Ac)(ho:i.op=10)(hk:m.top.k=1)(hy:m.top.y=true)(ha:0<=i.arg):Calls Tryz.prog 156 #[.pointer (some ⟨C.mb,0,none⟩),Ab i] w (MP C D X β w (m.jump i.arg) (.tuple #[])):=by
 obtain⟨w0,Am,Ap,Af,Al,Aq,n0,n1,n2,n3,n4,n5,n6,n7,ln,lb,Bz⟩:=h.C1 i;clear h;have HT:=A0 Ap.o.top;have tk:(((m.top.k:Nat):Int) !=1)=false:=by rw[hk];rfl
 have t10:((i.op:Int)==10)=true:=by rw[ho];rfl
 exact z4ba
theorem A6w(h:C.Ms D X β w m)(i:Ac)(ho:i.op=10)(hk:m.top.k=1)(hy:m.top.y=false):Calls Tryz.prog 156 #[.pointer (some ⟨C.mb,0,none⟩),Ab i] w (MP C D X β w (m.pop) (.tuple #[])):=by
 obtain⟨w0,Am,Ap,Af,Al,Aq,n0,n1,n2,n3,n4,n5,n6,n7,ln,lb,Bz⟩:=h.C1 i;clear h;have HT:=A0 Ap.o.top;have tk:(((m.top.k:Nat):Int) !=1)=false:=by rw[hk];rfl
 have t10:((i.op:Int)==10)=true:=by rw[ho];rfl
 exact z0na
theorem Zi(h:C.Ms D X β w m)(i:Ac)(hva:C8 m.arr.length m.pop.top)(hvb:C8 m.arr.length m.top)(hn:m.vals.length+1<=100000):Calls Tryz.prog 219 #[.pointer (some ⟨C.mb,0,none⟩),Ab i] w (MP C D X β w (m.pop.pop.push (ofBool (m.pop.top.same m.top))) (.tuple #[])):=by
 cases hk:(m.pop.top.k==m.top.k)
 ·have e:m.pop.top.same m.top=false:=by unfold PV.same;rw[hk];rfl
  rw[e];exact A74 h i hva hvb hn hk
 cases hy:(m.pop.top.y==m.top.y)
 ·have e:m.pop.top.same m.top=false:=by unfold PV.same;rw[hk,hy];rfl
  rw[e];exact A79 h i hva hvb hn hk hy
 cases hnn:(m.pop.top.n==m.top.n)
 ·have e:m.pop.top.same m.top=false:=by unfold PV.same;rw[hk,hy,hnn];rfl
  rw[e];exact A75 h i hva hvb hn hk hy hnn
 cases ht:(m.pop.top.t==m.top.t)
 ·have e:m.pop.top.same m.top=false:=by unfold PV.same;rw[hk,hy,hnn,ht];rfl
  rw[e];exact A78 h i hva hvb hn hk hy hnn ht
 cases hr:(m.pop.top.r==m.top.r)
 ·have e:m.pop.top.same m.top=false:=by unfold PV.same;rw[hk,hy,hnn,ht,hr];rfl
  rw[e];exact A76 h i hva hvb hn hk hy hnn ht hr
 have e:m.pop.top.same m.top=true:=by unfold PV.same;rw[hk,hy,hnn,ht,hr];rfl
 rw[e];refine A77 h i hva hvb hn ?_;rw[beq_iff_eq]at hk hy hnn ht hr;generalize m.pop.top=u at *;generalize m.top=v at *;cases u;cases v;simp only at hk hy hnn ht hr;rw[hk,hy,hnn,ht,hr]
theorem A7w(h:C.Ms D X β w m)(i:Ac)(ho:i.op=26)(hva:C8 m.arr.length m.pop.top)(hvb:C8 m.arr.length m.top)(hn:m.vals.length+1<=100000):Calls Tryz.prog 220 #[.pointer (some ⟨C.mb,0,none⟩),Ab i] w (MP C D X β w (m.pop.pop.push (ofBool (!m.pop.top.same m.top))) (.tuple #[])):=by
 obtain⟨w0,Am,Ap,Af,Al,Aq,n0,n1,n2,n3,n4,n5,n6,n7,ln,lb,Bz⟩:=h.C1 i;clear h;have t26:((i.op:Int)==26)=true:=by rw[ho];rfl
 clear ho;have tpush:(m.pop.pop.push (ofBool (m.pop.top.same m.top))).top=ofBool (m.pop.top.same m.top):=by simp[MS.push,MS.top]
 have tpop:(m.pop.pop.push (ofBool (m.pop.top.same m.top))).pop=m.pop.pop:=by simp[MS.push,MS.pop]
 have HE:=A0 (Zi Ap.o i hva hvb hn);unfold Ab at HE;generalize m.pop.top.same m.top=q at *;have HTu:=A0 tpush;have HTo:=A0 tpop;clear tpush tpop;unfold Ab;go_enter Tryz.func220,Tryz.ntmps220;go_wp2_with fail
 rw[←Am.o];refine HE.o.mono ?_;rintro e w1 ⟨rfl,h1,k1⟩;have Bj:=h1.Au;have A7:=A0 h1;have A4:Hid (A3 (dx D X) w w1):=Af.o.trans (Ae k1);have Ad:=(k1.block _ Al.o).trans Aq.o;have Bo:=A0 Ad;clear n0 n1 n2 n3 n4 n5 n6 n7 ln;obtain⟨n0,n1,n2,n3,n4,n5,n6,n7,ln⟩:=B1 Ad;clear h1 k1 Ad;have HQ:=A0 A7.o.pop;rw[HTu.o,HTo.o]at HQ;unfold Az ofBool at HQ;go_wp2_with fail
 refine HQ.o.mono ?_;rintro e w2 ⟨rfl,h2,k2⟩;have E2:=h2.Au;have Ai:=A0 h2;have Aa:Hid (A3 (dx D X) w w2):=A4.o.trans (Ae k2);have Aw:=(k2.block _ Al.o).trans Bo.o;have Ee:=A0 Aw;clear n0 n1 n2 n3 n4 n5 n6 n7 ln;obtain⟨n0,n1,n2,n3,n4,n5,n6,n7,ln⟩:=B1 Aw;clear h2 k2 Aw;have Bi:=A0 (fun(W:World) (hb:Below w2.heap.size w2 W)=>And.intro ((fun hs=>Ji hs (!q) z52a) (Ai.o.below hb).1) (Aa.o.trans (Ae (Ai.o.below hb).2)));exact z19a
theorem z0ca {P:Prop} (h:P:=by
  go_wp2_with fail
  refine(HBf.o _).mono ?_;rintro e w3 ⟨rfl,hb3'⟩;have Aj:Below w2.heap.size w2 w3:=Below.trans z4ua (Below.mono hb3' z4ya);have C3:=A0 (Bi.o _ Aj);have lb3:=Aj.size;clear Aj hb3';go_wp2_with fail
  refine C3.o.1.mono ?_;rintro e w4 ⟨rfl,h4,k4⟩;have Er:=A0 h4.back;have Cn:Hid (A3 (dx D X) w w4):=C3.o.2.trans (Ae k4);clear h4 k4;go_wp2;go_end0;exact⟨rfl,Er.o,Cn.o⟩):P:=h
theorem Aac(h:C.Ms D X β w m)(i:Ac)(ho:i.op=28)(h2:m.both 2=true)(hn:m.vals.length+1<=100000):Calls Tryz.prog 221 #[.pointer (some ⟨C.mb,0,none⟩),Ab i] w (MP C D X β w (m.pop.pop.push (ofBool (before m.top m.pop.top))) (.tuple #[])):=by
 obtain⟨w0,Am,Ap,Af,Al,Aq,n0,n1,n2,n3,n4,n5,n6,n7,ln,lb,Bz⟩:=h.C1 i;clear h;have HBo:=A0 (Jh Ap.o 2);rw[h2]at HBo;have t28:((i.op:Int)==28)=true:=by rw[ho];rfl
 clear ho h2;unfold Ab;go_enter Tryz.func221,Tryz.ntmps221;go_wp2_with fail
 rw[←Am.o];refine HBo.o.mono ?_;rintro e w1 ⟨rfl,h1,k1⟩;have Bj:=h1.Au;have A7:=A0 h1;have A4:Hid (A3 (dx D X) w w1):=Af.o.trans (Ae k1);have Ad:=(k1.block _ Al.o).trans Aq.o;have Bo:=A0 Ad;clear n0 n1 n2 n3 n4 n5 n6 n7 ln;obtain⟨n0,n1,n2,n3,n4,n5,n6,n7,ln⟩:=B1 Ad;clear h1 k1 Ad;have HT:=A0 (Eh A7.o);go_wp2_with fail
 refine HT.o.mono ?_;rintro e w2 ⟨rfl,h2,k2⟩;unfold Az;have E2:=h2.Au;have Ai:=A0 h2;have Aa:Hid (A3 (dx D X) w w2):=A4.o.trans (Ae k2);have Aw:=(k2.block _ Al.o).trans Bo.o;have Ee:=A0 Aw;clear n0 n1 n2 n3 n4 n5 n6 n7 ln;obtain⟨n0,n1,n2,n3,n4,n5,n6,n7,ln⟩:=B1 Aw;clear h2 k2 Aw;have HBf:=A0 (fun(W:World)=>Oi m.top m.pop.top β W);unfold Az at HBf;have Bi:=A0 (fun(W:World) (hb:Below w2.heap.size w2 W)=>And.intro (Ji (Ai.o.below hb).1 (before m.top m.pop.top) z52a) (Aa.o.trans (Ae (Ai.o.below hb).2)));generalize before m.top m.pop.top=q at *;exact z0ca
theorem z0da {P:Prop} (h:P:=by
  go_wp2_with fail
  refine(HBf.o _).mono ?_;rintro e w4 ⟨rfl,hb4'⟩;have B8:Below w3.heap.size w3 w4:=Below.trans z4ua (Below.mono hb4' z4ya);have Cu:=A0 (Cq.o _ B8);have lb4:=B8.size;clear B8 hb4';go_wp2_with fail
  refine Cu.o.1.mono ?_;rintro e w5 ⟨rfl,h5,k5⟩;have Gp:=A0 h5.back;have E4:Hid (A3 (dx D X) w w5):=Cu.o.2.trans (Ae k5);clear h5 k5;go_wp2;go_end0;exact⟨rfl,Gp.o,E4.o⟩):P:=h
theorem Aad(h:C.Ms D X β w m)(i:Ac)(ho:i.op=28)(h2:m.both 2=false)(h3:m.both 3=true)(hn:m.vals.length+1<=100000):Calls Tryz.prog 221 #[.pointer (some ⟨C.mb,0,none⟩),Ab i] w (MP C D X β w (m.pop.pop.push (ofBool (before m.top m.pop.top))) (.tuple #[])):=by
 obtain⟨w0,Am,Ap,Af,Al,Aq,n0,n1,n2,n3,n4,n5,n6,n7,ln,lb,Bz⟩:=h.C1 i;clear h;have HBo:=A0 (Jh Ap.o 2);rw[h2]at HBo;have t28:((i.op:Int)==28)=true:=by rw[ho];rfl
 clear ho h2;unfold Ab;go_enter Tryz.func221,Tryz.ntmps221;go_wp2_with fail
 rw[←Am.o];refine HBo.o.mono ?_;rintro e w1 ⟨rfl,h1,k1⟩;have Bj:=h1.Au;have A7:=A0 h1;have A4:Hid (A3 (dx D X) w w1):=Af.o.trans (Ae k1);have Ad:=(k1.block _ Al.o).trans Aq.o;have Bo:=A0 Ad;clear n0 n1 n2 n3 n4 n5 n6 n7 ln;obtain⟨n0,n1,n2,n3,n4,n5,n6,n7,ln⟩:=B1 Ad;clear h1 k1 Ad;have HBo2:=A0 (Jh A7.o 3);rw[h3]at HBo2;clear h3;go_wp2_with fail
 refine HBo2.o.mono ?_;rintro e w2 ⟨rfl,h2,k2⟩;have E2:=h2.Au;have Ai:=A0 h2;have Aa:Hid (A3 (dx D X) w w2):=A4.o.trans (Ae k2);have Aw:=(k2.block _ Al.o).trans Bo.o;have Ee:=A0 Aw;clear n0 n1 n2 n3 n4 n5 n6 n7 ln;obtain⟨n0,n1,n2,n3,n4,n5,n6,n7,ln⟩:=B1 Aw;clear h2 k2 Aw;have HT:=A0 (Eh Ai.o);go_wp2_with fail
 refine HT.o.mono ?_;rintro e w3 ⟨rfl,h3,k3⟩;unfold Az;have lb3:=h3.Au;have Bc:=A0 h3;have Av:Hid (A3 (dx D X) w w3):=Aa.o.trans (Ae k3);have Cy:=(k3.block _ Al.o).trans Ee.o;have HI3:=A0 Cy;clear n0 n1 n2 n3 n4 n5 n6 n7 ln;obtain⟨n0,n1,n2,n3,n4,n5,n6,n7,ln⟩:=B1 Cy;clear h3 k3 Cy;have HBf:=A0 (fun(W:World)=>Oi m.top m.pop.top β W);unfold Az at HBf;have Cq:=A0 (fun(W:World) (hb:Below w3.heap.size w3 W)=>And.intro (Ji (Bc.o.below hb).1 (before m.top m.pop.top) z52a) (Av.o.trans (Ae (Bc.o.below hb).2)));generalize before m.top m.pop.top=q at *;exact z0da
theorem Aai(h:C.Ms D X β w m)(i:Ac)(ho:i.op=29)(h2:m.both 2=true)(hn:m.vals.length+1<=100000):Calls Tryz.prog 221 #[.pointer (some ⟨C.mb,0,none⟩),Ab i] w (MP C D X β w (m.pop.pop.push (ofBool (before m.pop.top m.top))) (.tuple #[])):=by
 obtain⟨w0,Am,Ap,Af,Al,Aq,n0,n1,n2,n3,n4,n5,n6,n7,ln,lb,Bz⟩:=h.C1 i;clear h;have HBo:=A0 (Jh Ap.o 2);rw[h2]at HBo;have t28:((i.op:Int)==28)=false:=by rw[ho];rfl
 have t29:((i.op:Int)==29)=true:=by rw[ho];rfl
 clear ho h2;unfold Ab;go_enter Tryz.func221,Tryz.ntmps221;go_wp2_with fail
 rw[←Am.o];refine HBo.o.mono ?_;rintro e w1 ⟨rfl,h1,k1⟩;have Bj:=h1.Au;have A7:=A0 h1;have A4:Hid (A3 (dx D X) w w1):=Af.o.trans (Ae k1);have Ad:=(k1.block _ Al.o).trans Aq.o;have Bo:=A0 Ad;clear n0 n1 n2 n3 n4 n5 n6 n7 ln;obtain⟨n0,n1,n2,n3,n4,n5,n6,n7,ln⟩:=B1 Ad;clear h1 k1 Ad;have HT:=A0 (Eh A7.o);go_wp2_with fail
 refine HT.o.mono ?_;rintro e w2 ⟨rfl,h2,k2⟩;unfold Az;have E2:=h2.Au;have Ai:=A0 h2;have Aa:Hid (A3 (dx D X) w w2):=A4.o.trans (Ae k2);have Aw:=(k2.block _ Al.o).trans Bo.o;have Ee:=A0 Aw;clear n0 n1 n2 n3 n4 n5 n6 n7 ln;obtain⟨n0,n1,n2,n3,n4,n5,n6,n7,ln⟩:=B1 Aw;clear h2 k2 Aw;have HBf:=A0 (fun(W:World)=>Oi m.pop.top m.top β W);unfold Az at HBf;have Bi:=A0 (fun(W:World) (hb:Below w2.heap.size w2 W)=>And.intro (Ji (Ai.o.below hb).1 (before m.pop.top m.top) z52a) (Aa.o.trans (Ae (Ai.o.below hb).2)));generalize before m.pop.top m.top=q at *;exact z0ca
theorem Aaj(h:C.Ms D X β w m)(i:Ac)(ho:i.op=29)(h2:m.both 2=false)(h3:m.both 3=true)(hn:m.vals.length+1<=100000):Calls Tryz.prog 221 #[.pointer (some ⟨C.mb,0,none⟩),Ab i] w (MP C D X β w (m.pop.pop.push (ofBool (before m.pop.top m.top))) (.tuple #[])):=by
 obtain⟨w0,Am,Ap,Af,Al,Aq,n0,n1,n2,n3,n4,n5,n6,n7,ln,lb,Bz⟩:=h.C1 i;clear h;have HBo:=A0 (Jh Ap.o 2);rw[h2]at HBo;have t28:((i.op:Int)==28)=false:=by rw[ho];rfl
 have t29:((i.op:Int)==29)=true:=by rw[ho];rfl
 clear ho h2;unfold Ab;go_enter Tryz.func221,Tryz.ntmps221;go_wp2_with fail
 rw[←Am.o];refine HBo.o.mono ?_;rintro e w1 ⟨rfl,h1,k1⟩;have Bj:=h1.Au;have A7:=A0 h1;have A4:Hid (A3 (dx D X) w w1):=Af.o.trans (Ae k1);have Ad:=(k1.block _ Al.o).trans Aq.o;have Bo:=A0 Ad;clear n0 n1 n2 n3 n4 n5 n6 n7 ln;obtain⟨n0,n1,n2,n3,n4,n5,n6,n7,ln⟩:=B1 Ad;clear h1 k1 Ad;have HBo2:=A0 (Jh A7.o 3);rw[h3]at HBo2;clear h3;go_wp2_with fail
 refine HBo2.o.mono ?_;rintro e w2 ⟨rfl,h2,k2⟩;have E2:=h2.Au;have Ai:=A0 h2;have Aa:Hid (A3 (dx D X) w w2):=A4.o.trans (Ae k2);have Aw:=(k2.block _ Al.o).trans Bo.o;have Ee:=A0 Aw;clear n0 n1 n2 n3 n4 n5 n6 n7 ln;obtain⟨n0,n1,n2,n3,n4,n5,n6,n7,ln⟩:=B1 Aw;clear h2 k2 Aw;have HT:=A0 (Eh Ai.o);go_wp2_with fail
 refine HT.o.mono ?_;rintro e w3 ⟨rfl,h3,k3⟩;unfold Az;have lb3:=h3.Au;have Bc:=A0 h3;have Av:Hid (A3 (dx D X) w w3):=Aa.o.trans (Ae k3);have Cy:=(k3.block _ Al.o).trans Ee.o;have HI3:=A0 Cy;clear n0 n1 n2 n3 n4 n5 n6 n7 ln;obtain⟨n0,n1,n2,n3,n4,n5,n6,n7,ln⟩:=B1 Cy;clear h3 k3 Cy;have HBf:=A0 (fun(W:World)=>Oi m.pop.top m.top β W);unfold Az at HBf;have Cq:=A0 (fun(W:World) (hb:Below w3.heap.size w3 W)=>And.intro (Ji (Bc.o.below hb).1 (before m.pop.top m.top) z52a) (Av.o.trans (Ae (Bc.o.below hb).2)));generalize before m.pop.top m.top=q at *;exact z0da
theorem Aaa(h:C.Ms D X β w m)(i:Ac)(ho:i.op=30)(h2:m.both 2=true)(hn:m.vals.length+1<=100000):Calls Tryz.prog 221 #[.pointer (some ⟨C.mb,0,none⟩),Ab i] w (MP C D X β w (m.pop.pop.push (ofBool (!before m.pop.top m.top))) (.tuple #[])):=by
 obtain⟨w0,Am,Ap,Af,Al,Aq,n0,n1,n2,n3,n4,n5,n6,n7,ln,lb,Bz⟩:=h.C1 i;clear h;have HBo:=A0 (Jh Ap.o 2);rw[h2]at HBo;have t28:((i.op:Int)==28)=false:=by rw[ho];rfl
 have t29:((i.op:Int)==29)=false:=by rw[ho];rfl
 have t30:((i.op:Int)==30)=true:=by rw[ho];rfl
 clear ho h2;unfold Ab;go_enter Tryz.func221,Tryz.ntmps221;go_wp2_with fail
 rw[←Am.o];refine HBo.o.mono ?_;rintro e w1 ⟨rfl,h1,k1⟩;have Bj:=h1.Au;have A7:=A0 h1;have A4:Hid (A3 (dx D X) w w1):=Af.o.trans (Ae k1);have Ad:=(k1.block _ Al.o).trans Aq.o;have Bo:=A0 Ad;clear n0 n1 n2 n3 n4 n5 n6 n7 ln;obtain⟨n0,n1,n2,n3,n4,n5,n6,n7,ln⟩:=B1 Ad;clear h1 k1 Ad;have HT:=A0 (Eh A7.o);go_wp2_with fail
 refine HT.o.mono ?_;rintro e w2 ⟨rfl,h2,k2⟩;unfold Az;have E2:=h2.Au;have Ai:=A0 h2;have Aa:Hid (A3 (dx D X) w w2):=A4.o.trans (Ae k2);have Aw:=(k2.block _ Al.o).trans Bo.o;have Ee:=A0 Aw;clear n0 n1 n2 n3 n4 n5 n6 n7 ln;obtain⟨n0,n1,n2,n3,n4,n5,n6,n7,ln⟩:=B1 Aw;clear h2 k2 Aw;have HBf:=A0 (fun(W:World)=>Oi m.pop.top m.top β W);unfold Az at HBf;have Bi:=A0 (fun(W:World) (hb:Below w2.heap.size w2 W)=>And.intro (Ji (Ai.o.below hb).1 (!before m.pop.top m.top) z52a) (Aa.o.trans (Ae (Ai.o.below hb).2)));generalize before m.pop.top m.top=q at *;exact z0ca
theorem Aab(h:C.Ms D X β w m)(i:Ac)(ho:i.op=30)(h2:m.both 2=false)(h3:m.both 3=true)(hn:m.vals.length+1<=100000):Calls Tryz.prog 221 #[.pointer (some ⟨C.mb,0,none⟩),Ab i] w (MP C D X β w (m.pop.pop.push (ofBool (!before m.pop.top m.top))) (.tuple #[])):=by
 obtain⟨w0,Am,Ap,Af,Al,Aq,n0,n1,n2,n3,n4,n5,n6,n7,ln,lb,Bz⟩:=h.C1 i;clear h;have HBo:=A0 (Jh Ap.o 2);rw[h2]at HBo;have t28:((i.op:Int)==28)=false:=by rw[ho];rfl
 have t29:((i.op:Int)==29)=false:=by rw[ho];rfl
 have t30:((i.op:Int)==30)=true:=by rw[ho];rfl
 clear ho h2;unfold Ab;go_enter Tryz.func221,Tryz.ntmps221;go_wp2_with fail
 rw[←Am.o];refine HBo.o.mono ?_;rintro e w1 ⟨rfl,h1,k1⟩;have Bj:=h1.Au;have A7:=A0 h1;have A4:Hid (A3 (dx D X) w w1):=Af.o.trans (Ae k1);have Ad:=(k1.block _ Al.o).trans Aq.o;have Bo:=A0 Ad;clear n0 n1 n2 n3 n4 n5 n6 n7 ln;obtain⟨n0,n1,n2,n3,n4,n5,n6,n7,ln⟩:=B1 Ad;clear h1 k1 Ad;have HBo2:=A0 (Jh A7.o 3);rw[h3]at HBo2;clear h3;go_wp2_with fail
 refine HBo2.o.mono ?_;rintro e w2 ⟨rfl,h2,k2⟩;have E2:=h2.Au;have Ai:=A0 h2;have Aa:Hid (A3 (dx D X) w w2):=A4.o.trans (Ae k2);have Aw:=(k2.block _ Al.o).trans Bo.o;have Ee:=A0 Aw;clear n0 n1 n2 n3 n4 n5 n6 n7 ln;obtain⟨n0,n1,n2,n3,n4,n5,n6,n7,ln⟩:=B1 Aw;clear h2 k2 Aw;have HT:=A0 (Eh Ai.o);go_wp2_with fail
 refine HT.o.mono ?_;rintro e w3 ⟨rfl,h3,k3⟩;unfold Az;have lb3:=h3.Au;have Bc:=A0 h3;have Av:Hid (A3 (dx D X) w w3):=Aa.o.trans (Ae k3);have Cy:=(k3.block _ Al.o).trans Ee.o;have HI3:=A0 Cy;clear n0 n1 n2 n3 n4 n5 n6 n7 ln;obtain⟨n0,n1,n2,n3,n4,n5,n6,n7,ln⟩:=B1 Cy;clear h3 k3 Cy;have HBf:=A0 (fun(W:World)=>Oi m.pop.top m.top β W);unfold Az at HBf;have Cq:=A0 (fun(W:World) (hb:Below w3.heap.size w3 W)=>And.intro (Ji (Bc.o.below hb).1 (!before m.pop.top m.top) z52a) (Av.o.trans (Ae (Bc.o.below hb).2)));generalize before m.pop.top m.top=q at *;exact z0da
theorem Aaf(h:C.Ms D X β w m)(i:Ac)(ho:i.op=31)(h2:m.both 2=true)(hn:m.vals.length+1<=100000):Calls Tryz.prog 221 #[.pointer (some ⟨C.mb,0,none⟩),Ab i] w (MP C D X β w (m.pop.pop.push (ofBool (!before m.top m.pop.top))) (.tuple #[])):=by
 obtain⟨w0,Am,Ap,Af,Al,Aq,n0,n1,n2,n3,n4,n5,n6,n7,ln,lb,Bz⟩:=h.C1 i;clear h;have HBo:=A0 (Jh Ap.o 2);rw[h2]at HBo;have t28:((i.op:Int)==28)=false:=by rw[ho];rfl
 have t29:((i.op:Int)==29)=false:=by rw[ho];rfl
 have t30:((i.op:Int)==30)=false:=by rw[ho];rfl
 have t31:((i.op:Int)==31)=true:=by rw[ho];rfl
 clear ho h2;unfold Ab;go_enter Tryz.func221,Tryz.ntmps221;go_wp2_with fail
 rw[←Am.o];refine HBo.o.mono ?_;rintro e w1 ⟨rfl,h1,k1⟩;have Bj:=h1.Au;have A7:=A0 h1;have A4:Hid (A3 (dx D X) w w1):=Af.o.trans (Ae k1);have Ad:=(k1.block _ Al.o).trans Aq.o;have Bo:=A0 Ad;clear n0 n1 n2 n3 n4 n5 n6 n7 ln;obtain⟨n0,n1,n2,n3,n4,n5,n6,n7,ln⟩:=B1 Ad;clear h1 k1 Ad;have HT:=A0 (Eh A7.o);go_wp2_with fail
 refine HT.o.mono ?_;rintro e w2 ⟨rfl,h2,k2⟩;unfold Az;have E2:=h2.Au;have Ai:=A0 h2;have Aa:Hid (A3 (dx D X) w w2):=A4.o.trans (Ae k2);have Aw:=(k2.block _ Al.o).trans Bo.o;have Ee:=A0 Aw;clear n0 n1 n2 n3 n4 n5 n6 n7 ln;obtain⟨n0,n1,n2,n3,n4,n5,n6,n7,ln⟩:=B1 Aw;clear h2 k2 Aw;have HBf:=A0 (fun(W:World)=>Oi m.top m.pop.top β W);unfold Az at HBf;have Bi:=A0 (fun(W:World) (hb:Below w2.heap.size w2 W)=>And.intro (Ji (Ai.o.below hb).1 (!before m.top m.pop.top) z52a) (Aa.o.trans (Ae (Ai.o.below hb).2)));generalize before m.top m.pop.top=q at *;exact z0ca
theorem Aag(h:C.Ms D X β w m)(i:Ac)(ho:i.op=31)(h2:m.both 2=false)(h3:m.both 3=true)(hn:m.vals.length+1<=100000):Calls Tryz.prog 221 #[.pointer (some ⟨C.mb,0,none⟩),Ab i] w (MP C D X β w (m.pop.pop.push (ofBool (!before m.top m.pop.top))) (.tuple #[])):=by
 obtain⟨w0,Am,Ap,Af,Al,Aq,n0,n1,n2,n3,n4,n5,n6,n7,ln,lb,Bz⟩:=h.C1 i;clear h;have HBo:=A0 (Jh Ap.o 2);rw[h2]at HBo;have t28:((i.op:Int)==28)=false:=by rw[ho];rfl
 have t29:((i.op:Int)==29)=false:=by rw[ho];rfl
 have t30:((i.op:Int)==30)=false:=by rw[ho];rfl
 have t31:((i.op:Int)==31)=true:=by rw[ho];rfl
 clear ho h2;unfold Ab;go_enter Tryz.func221,Tryz.ntmps221;go_wp2_with fail
 rw[←Am.o];refine HBo.o.mono ?_;rintro e w1 ⟨rfl,h1,k1⟩;have Bj:=h1.Au;have A7:=A0 h1;have A4:Hid (A3 (dx D X) w w1):=Af.o.trans (Ae k1);have Ad:=(k1.block _ Al.o).trans Aq.o;have Bo:=A0 Ad;clear n0 n1 n2 n3 n4 n5 n6 n7 ln;obtain⟨n0,n1,n2,n3,n4,n5,n6,n7,ln⟩:=B1 Ad;clear h1 k1 Ad;have HBo2:=A0 (Jh A7.o 3);rw[h3]at HBo2;clear h3;go_wp2_with fail
 refine HBo2.o.mono ?_;rintro e w2 ⟨rfl,h2,k2⟩;have E2:=h2.Au;have Ai:=A0 h2;have Aa:Hid (A3 (dx D X) w w2):=A4.o.trans (Ae k2);have Aw:=(k2.block _ Al.o).trans Bo.o;have Ee:=A0 Aw;clear n0 n1 n2 n3 n4 n5 n6 n7 ln;obtain⟨n0,n1,n2,n3,n4,n5,n6,n7,ln⟩:=B1 Aw;clear h2 k2 Aw;have HT:=A0 (Eh Ai.o);go_wp2_with fail
 refine HT.o.mono ?_;rintro e w3 ⟨rfl,h3,k3⟩;unfold Az;have lb3:=h3.Au;have Bc:=A0 h3;have Av:Hid (A3 (dx D X) w w3):=Aa.o.trans (Ae k3);have Cy:=(k3.block _ Al.o).trans Ee.o;have HI3:=A0 Cy;clear n0 n1 n2 n3 n4 n5 n6 n7 ln;obtain⟨n0,n1,n2,n3,n4,n5,n6,n7,ln⟩:=B1 Cy;clear h3 k3 Cy;have HBf:=A0 (fun(W:World)=>Oi m.top m.pop.top β W);unfold Az at HBf;have Cq:=A0 (fun(W:World) (hb:Below w3.heap.size w3 W)=>And.intro (Ji (Bc.o.below hb).1 (!before m.top m.pop.top) z52a) (Av.o.trans (Ae (Bc.o.below hb).2)));generalize before m.top m.pop.top=q at *;exact z0da
theorem Tz(h:C.Ms D X β w m)(i:Ac)(h2:m.both 2=false)(h3:m.both 3=false):Calls Tryz.prog 221 #[.pointer (some ⟨C.mb,0,none⟩),Ab i] w (MP C D X β w (m.fail 5 i) (.tuple #[])):=by
 obtain⟨w0,Am,Ap,Af,Al,Aq,n0,n1,n2,n3,n4,n5,n6,n7,ln,lb,Bz⟩:=h.C1 i;clear h;have HBo:=A0 (Jh Ap.o 2);rw[h2]at HBo;clear h2;unfold Ab;go_enter Tryz.func221,Tryz.ntmps221;go_wp2_with fail
 rw[←Am.o];refine HBo.o.mono ?_;rintro e w1 ⟨rfl,h1,k1⟩;have Bj:=h1.Au;have A7:=A0 h1;have A4:Hid (A3 (dx D X) w w1):=Af.o.trans (Ae k1);have Ad:=(k1.block _ Al.o).trans Aq.o;have Bo:=A0 Ad;clear n0 n1 n2 n3 n4 n5 n6 n7 ln;obtain⟨n0,n1,n2,n3,n4,n5,n6,n7,ln⟩:=B1 Ad;clear h1 k1 Ad;have HBo2:=A0 (Jh A7.o 3);rw[h3]at HBo2;clear h3;go_wp2_with fail
 refine HBo2.o.mono ?_;rintro e w2 ⟨rfl,h2,k2⟩;have E2:=h2.Au;have Ai:=A0 h2;have Aa:Hid (A3 (dx D X) w w2):=A4.o.trans (Ae k2);have Aw:=(k2.block _ Al.o).trans Bo.o;have Ee:=A0 Aw;clear n0 n1 n2 n3 n4 n5 n6 n7 ln;obtain⟨n0,n1,n2,n3,n4,n5,n6,n7,ln⟩:=B1 Aw;clear h2 k2 Aw;have Bi:=A0 (fun(W:World) (hb:Below w2.heap.size w2 W)=>And.intro ((fun hs=>Gw hs 5 i) (Ai.o.below hb).1) (Aa.o.trans (Ae (Ai.o.below hb).2)));unfold Ab at Bi;go_wp2_with fail
 refine((Bi.o _ z4ua).1).mono ?_;rintro e w3 ⟨rfl,h3,k3⟩;have Bc:=A0 h3.back;have Av:Hid (A3 (dx D X) w w3):=(Bi.o _ z4ua).2.trans (Ae k3);clear h3 k3;go_wp2;refine bodyPost_ret (v:=.tuple #[]) (by simp[results,Tryz.results221,go_sem]) rfl ?_;exact z4ra
theorem Ant(a b:List UInt8)(ha:a.length<=100)(hb:b.length<=100)(w:World):(Op.stringOp .add ⟨a.toArray⟩ ⟨b.toArray⟩).run Tryz.prog w=.ok (.string ⟨(a++b).toArray⟩) w:=run_string_add_lists w a b z4va z4va
theorem Zj(h:C.Ms D X β w m)(i:Ac)(hl1:m.pop.top.t.length<=100000)(Gs:m.top.t.length<=100000)(hz:100<m.pop.top.t.length+m.top.t.length):Calls Tryz.prog 213 #[.pointer (some ⟨C.mb,0,none⟩),Ab i] w (MP C D X β w (m.pop.pop.fail 10 i) (.tuple #[])):=by
 obtain⟨w0,Am,Ap,Af,Al,Aq,n0,n1,n2,n3,n4,n5,n6,n7,ln,lb,Bz⟩:=h.C1 i;clear h;have tz:decide ((100:Int)<(m.pop.top.t.length:Int)+(m.top.t.length:Int))=true:=by rw[decide_eq_true_iff];omega
 have HT:=A0 (Eh Ap.o);clear hz;unfold Ab;go_enter Tryz.func213,Tryz.ntmps213;go_wp2_with fail
 rw[←Am.o];refine HT.o.mono ?_;rintro e w1 ⟨rfl,h1,k1⟩;unfold Az;have Bj:=h1.Au;have A7:=A0 h1;have A4:Hid (A3 (dx D X) w w1):=Af.o.trans (Ae k1);have Ad:=(k1.block _ Al.o).trans Aq.o;have Bo:=A0 Ad;clear n0 n1 n2 n3 n4 n5 n6 n7 ln;obtain⟨n0,n1,n2,n3,n4,n5,n6,n7,ln⟩:=B1 Ad;clear h1 k1 Ad;have B2:=A0 (fun(W:World) (hb:Below w1.heap.size w1 W)=>And.intro ((fun hs=>Gw hs 10 i) (A7.o.below hb).1) (A4.o.trans (Ae (A7.o.below hb).2)));unfold Ab at B2;go_wp2_with fail
 refine((B2.o _ z4ua).1).mono ?_;rintro e w2 ⟨rfl,h2,k2⟩;have Ai:=A0 h2.back;have Aa:Hid (A3 (dx D X) w w2):=(B2.o _ z4ua).2.trans (Ae k2);clear h2 k2;go_wp2;refine bodyPost_ret (v:=.tuple #[]) (by simp[results,Tryz.results213,go_sem]) rfl ?_;exact z38a
theorem Zk(h:C.Ms D X β w m)(i:Ac)(hz:m.pop.top.t.length+m.top.t.length<=100)(hn:m.vals.length+1<=100000):Calls Tryz.prog 213 #[.pointer (some ⟨C.mb,0,none⟩),Ab i] w (MP C D X β w (m.pop.pop.push (ofStr (m.pop.top.t++m.top.t))) (.tuple #[])):=by
 obtain⟨w0,Am,Ap,Af,Al,Aq,n0,n1,n2,n3,n4,n5,n6,n7,ln,lb,Bz⟩:=h.C1 i;clear h;have tz:decide ((100:Int)<(m.pop.top.t.length:Int)+(m.top.t.length:Int))=false:=by rw[decide_eq_false_iff_not];omega
 have hl1:m.pop.top.t.length<=100:=by omega
 have Gs:m.top.t.length<=100:=by omega
 have HT:=A0 (Eh Ap.o);clear hz;unfold Ab;go_enter Tryz.func213,Tryz.ntmps213;go_wp2_with fail
 rw[←Am.o];refine HT.o.mono ?_;rintro e w1 ⟨rfl,h1,k1⟩;unfold Az;have Bj:=h1.Au;have A7:=A0 h1;have A4:Hid (A3 (dx D X) w w1):=Af.o.trans (Ae k1);have Ad:=(k1.block _ Al.o).trans Aq.o;have Bo:=A0 Ad;clear n0 n1 n2 n3 n4 n5 n6 n7 ln;obtain⟨n0,n1,n2,n3,n4,n5,n6,n7,ln⟩:=B1 Ad;clear h1 k1 Ad;have HPs:=A0 (fun(W:World) (hb:Below w1.heap.size w1 W)=>And.intro ((A7.o.below hb).1.push (ofStr (m.pop.top.t++m.top.t)) (by simp[C8,ofStr]) z52a) (A4.o.trans (Ae (A7.o.below hb).2)));unfold Az ofStr at HPs;dsimp only[Bk]at HPs;go_wp2;have sa:=Ant m.pop.top.t m.top.t hl1 Gs;generalize hu:m.pop.top.t++m.top.t=u at *;have HU:=A0 hu;clear hu;go_region_law (first
  | (refine Eo rfl 99 _ _ rfl #[.pointer (some ⟨C.mb,4,none⟩),.agg #[.int .i64 3,.bool false,.int .i64 0,.string ⟨u.toArray⟩,.pointer none]] z4xa HQ.o.1 ?_;rintro e w3 ⟨rfl,h3,k3⟩;refine⟨_,rfl,?_⟩;have Bc:=A0 h3.back;have Av:Hid (A3 (dx D X) w w3):=HQ.o.2.trans (Ae k3);clear h3 k3)
  | (refine Eo rfl 86 _ _ rfl #[.string ⟨u.toArray⟩] z4xa (A26 _ _) ?_;rintro e w2 ⟨rfl,hb2'⟩;refine⟨_,rfl,?_⟩;have A8:Below w1.heap.size w1 w2:=Below.trans z4ua (Below.mono (Rv hb2') z4ya);have HQ:=A0 (HPs.o w2 A8);have E2:=A8.size;clear A8 hb2'))
 all_goals go_wp2
 all_goals go_end0
 all_goals exact⟨rfl,Bc.o,Av.o⟩
theorem A5x(h:C.Ms D X β w m)(i:Ac)(ho:i.op=13)(hn:m.vals.length+1<=100000):Calls Tryz.prog 212 #[.pointer (some ⟨C.mb,0,none⟩),Ab i] w (MP C D X β w (m.two fun a b m'=>m'.push (ofInt (wr (a.n+b.n)))) (.tuple #[])):=by
 obtain⟨w0,Am,Ap,Af,Al,Aq,n0,n1,n2,n3,n4,n5,n6,n7,ln,lb,Bz⟩:=h.C1 i;clear h;have t12:((i.op:Int)==12)=false:=by rw[ho];rfl
 have t13:((i.op:Int)==13)=true:=by rw[ho];rfl
 have HT:=A0 (Eh Ap.o);clear ho;unfold Ab;go_enter Tryz.func212,Tryz.ntmps212;go_wp2_with fail
 rw[←Am.o];refine HT.o.mono ?_;rintro e w1 ⟨rfl,h1,k1⟩;unfold Az;have Bj:=h1.Au;have A7:=A0 h1;have A4:Hid (A3 (dx D X) w w1):=Af.o.trans (Ae k1);have Ad:=(k1.block _ Al.o).trans Aq.o;have Bo:=A0 Ad;clear n0 n1 n2 n3 n4 n5 n6 n7 ln;obtain⟨n0,n1,n2,n3,n4,n5,n6,n7,ln⟩:=B1 Ad;clear h1 k1 Ad;have B2:=A0 (fun(W:World) (hb:Below w1.heap.size w1 W)=>And.intro ((fun hs=>M7 hs (wr (m.pop.top.n+m.top.n)) z52a) (A7.o.below hb).1) (A4.o.trans (Ae (A7.o.below hb).2)));unfold Ab at B2;exact z01a
theorem z0la {P:Prop} (h:P:=by
  (try unfold Ab at B2);go_wp2_with fail
  refine((B2.o _ z4ua).1).mono ?_;rintro e w2 ⟨rfl,h2,k2⟩;have Ai:=A0 h2.back;have Aa:Hid (A3 (dx D X) w w2):=(B2.o _ z4ua).2.trans (Ae k2);clear h2 k2;go_wp2;refine bodyPost_ret (v:=.tuple #[]) (by simp[results,Tryz.results212,go_sem]) rfl ?_;exact⟨rfl,Ai.o,Aa.o⟩):P:=h
theorem A5z(h:C.Ms D X β w m)(i:Ac)(ho:i.op=12)(h3:m.both 3=true)(hz:m.pop.top.t.length+m.top.t.length<=100)(hn:m.vals.length+1<=100000):Calls Tryz.prog 212 #[.pointer (some ⟨C.mb,0,none⟩),Ab i] w (MP C D X β w (m.pop.pop.push (ofStr (m.pop.top.t++m.top.t))) (.tuple #[])):=by
 obtain⟨w0,Am,Ap,Af,Al,Aq,n0,n1,n2,n3,n4,n5,n6,n7,ln,lb,Bz⟩:=h.C1 i;clear h;have HBo:=A0 (Jh Ap.o 3);rw[h3]at HBo;have t0:((i.op:Int)==12)=true:=by rw[ho];rfl
 clear ho h3;unfold Ab;go_enter Tryz.func212,Tryz.ntmps212;go_wp2_with fail
 rw[←Am.o];refine HBo.o.mono ?_;rintro e w1 ⟨rfl,h1,k1⟩;have Bj:=h1.Au;have A7:=A0 h1;have A4:Hid (A3 (dx D X) w w1):=Af.o.trans (Ae k1);have Ad:=(k1.block _ Al.o).trans Aq.o;have Bo:=A0 Ad;clear n0 n1 n2 n3 n4 n5 n6 n7 ln;obtain⟨n0,n1,n2,n3,n4,n5,n6,n7,ln⟩:=B1 Ad;clear h1 k1 Ad;have B2:=A0 (fun(W:World) (hb:Below w1.heap.size w1 W)=>And.intro ((fun hs=>Zk hs i hz hn) (A7.o.below hb).1) (A4.o.trans (Ae (A7.o.below hb).2)));exact z0la
theorem A5y(h:C.Ms D X β w m)(i:Ac)(ho:i.op=12)(h3:m.both 3=true)(hl1:m.pop.top.t.length<=100000)(Gs:m.top.t.length<=100000)(hz:100<m.pop.top.t.length+m.top.t.length):Calls Tryz.prog 212 #[.pointer (some ⟨C.mb,0,none⟩),Ab i] w (MP C D X β w (m.pop.pop.fail 10 i) (.tuple #[])):=by
 obtain⟨w0,Am,Ap,Af,Al,Aq,n0,n1,n2,n3,n4,n5,n6,n7,ln,lb,Bz⟩:=h.C1 i;clear h;have HBo:=A0 (Jh Ap.o 3);rw[h3]at HBo;have t0:((i.op:Int)==12)=true:=by rw[ho];rfl
 clear ho h3;unfold Ab;go_enter Tryz.func212,Tryz.ntmps212;go_wp2_with fail
 rw[←Am.o];refine HBo.o.mono ?_;rintro e w1 ⟨rfl,h1,k1⟩;have Bj:=h1.Au;have A7:=A0 h1;have A4:Hid (A3 (dx D X) w w1):=Af.o.trans (Ae k1);have Ad:=(k1.block _ Al.o).trans Aq.o;have Bo:=A0 Ad;clear n0 n1 n2 n3 n4 n5 n6 n7 ln;obtain⟨n0,n1,n2,n3,n4,n5,n6,n7,ln⟩:=B1 Ad;clear h1 k1 Ad;have B2:=A0 (fun(W:World) (hb:Below w1.heap.size w1 W)=>And.intro ((fun hs=>Zj hs i hl1 Gs hz) (A7.o.below hb).1) (A4.o.trans (Ae (A7.o.below hb).2)));exact z0la
theorem A5w(h:C.Ms D X β w m)(i:Ac)(ho:i.op=12)(h3:m.both 3=false)(h2:m.both 2=false):Calls Tryz.prog 212 #[.pointer (some ⟨C.mb,0,none⟩),Ab i] w (MP C D X β w (m.fail 5 i) (.tuple #[])):=by
 obtain⟨w0,Am,Ap,Af,Al,Aq,n0,n1,n2,n3,n4,n5,n6,n7,ln,lb,Bz⟩:=h.C1 i;clear h;have HBo:=A0 (Jh Ap.o 3);rw[h3]at HBo;have t0:((i.op:Int)==12)=true:=by rw[ho];rfl
 clear ho h3;unfold Ab;go_enter Tryz.func212,Tryz.ntmps212;go_wp2_with fail
 rw[←Am.o];refine HBo.o.mono ?_;rintro e w1 ⟨rfl,h1,k1⟩;have Bj:=h1.Au;have A7:=A0 h1;have A4:Hid (A3 (dx D X) w w1):=Af.o.trans (Ae k1);have Ad:=(k1.block _ Al.o).trans Aq.o;have Bo:=A0 Ad;clear n0 n1 n2 n3 n4 n5 n6 n7 ln;obtain⟨n0,n1,n2,n3,n4,n5,n6,n7,ln⟩:=B1 Ad;clear h1 k1 Ad;have B2:=A0 (fun(W:World) (hb:Below w1.heap.size w1 W)=>And.intro ((fun hs=>Sm hs i h2) (A7.o.below hb).1) (A4.o.trans (Ae (A7.o.below hb).2)));exact z0la
theorem A60(h:C.Ms D X β w m)(i:Ac)(ho:i.op=12)(h3:m.both 3=false)(h2:m.both 2=true)(hn:m.vals.length+1<=100000):Calls Tryz.prog 212 #[.pointer (some ⟨C.mb,0,none⟩),Ab i] w (MP C D X β w (m.pop.pop.push (ofInt (wr (m.pop.top.n+m.top.n)))) (.tuple #[])):=by
 obtain⟨w0,Am,Ap,Af,Al,Aq,n0,n1,n2,n3,n4,n5,n6,n7,ln,lb,Bz⟩:=h.C1 i;clear h;have HBo:=A0 (Jh Ap.o 3);rw[h3]at HBo;have t0:((i.op:Int)==12)=true:=by rw[ho];rfl
 clear ho h3;unfold Ab;go_enter Tryz.func212,Tryz.ntmps212;go_wp2_with fail
 rw[←Am.o];refine HBo.o.mono ?_;rintro e w1 ⟨rfl,h1,k1⟩;have Bj:=h1.Au;have A7:=A0 h1;have A4:Hid (A3 (dx D X) w w1):=Af.o.trans (Ae k1);have Ad:=(k1.block _ Al.o).trans Aq.o;have Bo:=A0 Ad;clear n0 n1 n2 n3 n4 n5 n6 n7 ln;obtain⟨n0,n1,n2,n3,n4,n5,n6,n7,ln⟩:=B1 Ad;clear h1 k1 Ad;have HA:=A0 (Sn A7.o i h2);unfold Ab at HA;go_wp2_with fail
 refine HA.o.mono ?_;rintro e w2 ⟨rfl,h2,k2⟩;have E2:=h2.Au;have Ai:=A0 h2;have Aa:Hid (A3 (dx D X) w w2):=A4.o.trans (Ae k2);have Aw:=(k2.block _ Al.o).trans Bo.o;have Ee:=A0 Aw;clear n0 n1 n2 n3 n4 n5 n6 n7 ln;obtain⟨n0,n1,n2,n3,n4,n5,n6,n7,ln⟩:=B1 Aw;clear h2 k2 Aw;have HT:=A0 (Eh Ai.o);go_wp2_with fail
 refine HT.o.mono ?_;rintro e w3 ⟨rfl,h3,k3⟩;unfold Az;have lb3:=h3.Au;have Bc:=A0 h3;have Av:Hid (A3 (dx D X) w w3):=Aa.o.trans (Ae k3);have Cy:=(k3.block _ Al.o).trans Ee.o;have HI3:=A0 Cy;clear n0 n1 n2 n3 n4 n5 n6 n7 ln;obtain⟨n0,n1,n2,n3,n4,n5,n6,n7,ln⟩:=B1 Cy;clear h3 k3 Cy;have Cq:=A0 (fun(W:World) (hb:Below w3.heap.size w3 W)=>And.intro ((fun hs=>M7 hs (wr (m.pop.top.n+m.top.n)) z52a) (Bc.o.below hb).1) (Av.o.trans (Ae (Bc.o.below hb).2)));unfold Ab at Cq;go_wp2_with fail
 refine((Cq.o _ z4ua).1).mono ?_;rintro e w4 ⟨rfl,h4,k4⟩;have Er:=A0 h4.back;have Cn:Hid (A3 (dx D X) w w4):=(Cq.o _ z4ua).2.trans (Ae k4);clear h4 k4;exact z39a
end
end Go.Proofs.YtjdlndhfaaolaaaGreatDoor
