import Derived.Test.YtjdlndhfaaolaaaGreatDoorQ15
import Derived.Test.YtjdlndhfaaolaaaGreatDoorQ30
import Derived.Test.YtjdlndhfaaolaaaGreatDoorQ39
set_option maxHeartbeats 20000000
namespace Go.Proofs.YtjdlndhfaaolaaaGreatDoor
section
set_option maxRecDepth 100000
open Go.RowKit
open Go.Deep (BT)
variable {C:MC} {D X:Nat->Prop} {w w':World} {m:MS} {β:Nat->Nat}
theorem MC.Ms.X0(h:C.Ms D X β w m):w.cell? ⟨C.mb,1,none⟩=some (.slice C.ba C.bn C.bc):=by
 obtain⟨ρ,s,x,fv,ab,lp,h⟩:=h;exact A2 h.cell 1 _ rfl
def Afy(n c:Nat)(bets:List Dg)(w:World)(e:Ending)(w':World):Prop:=Below w.heap.size w w'/\((e=.returned (.int .i64 (-1))/\taken n c bets=none)\/∃j,∃h:j<bets.length,e=.returned (.int .i64 (j:Nat))/\taken n c bets=some bets[j])
theorem Ajv(h:C.Ms D X β w m){K:Nat->Prop}{bets:List Dg}(hb:It K w (.slice C.ba C.bn C.bc) bets)(hl:bets.length<=1000)(n c:Nat) :
  Calls Tryz.prog 245 #[.pointer (some ⟨C.mb,0,none⟩),.int .i64 (n:Nat),.int .i64 (c:Nat)] w (Afy n c bets w):=by
 have c1:=h.X0;have lb:=h.B7;obtain⟨a,cc,ev,hcc,hbt⟩:=hb;injection ev with e1 e2 e3;have HBt:=A0 hbt;rw[e1,e2,e3]at c1;clear h hbt e1 e2 e3;go_enter Tryz.func245,Tryz.ntmps245;have hst:IntKind.i64.wrap ((bets.length:Int)-1)=(bets.length:Int)-1:=by rw[IntKind.wrap_i64];omega
 go_wp2;go_loopg [7] bets.length (fun k v wr=>k<=bets.length/\((k=0/\v=.int .i64 (-1))\/(∃j:Nat,k=j+1/\v=.int .i64 (j:Nat)))/\taken n c (bets.drop k)=none/\Below w.heap.size w wr)
 case atStart=>
  refine⟨Nat.le_refl _,?_,by rw[List.drop_length];rfl,Below.refl _ _⟩;cases hl9:bets.length with
  | zero=>exact .inl ⟨rfl,by simp⟩
  | succ j=>exact .inr ⟨j,rfl,by simp⟩
 case round=>
  obtain⟨hk,hv,htk,hbel⟩:=hrel;have c1r:=(World.cell?_of_block (hbel.block C.mb lb)).trans c1;have ls:=hbel.size;have lbr:C.mb<wr.heap.size:=by omega
  have HB:=A0 hbel;have HTk:=A0 htk;clear htk c1;rcases hv with⟨h0,rfl⟩|⟨j,hj,rfl⟩
  ·clear hbel;rw[h0,List.drop_zero]at HTk;go_wp2;exact bodyPost_ret (v:=.int .i64 (-1)) (by simp[results,Tryz.results245,go_sem]) rfl ⟨HB.o,.inl ⟨rfl,HTk.o⟩⟩
  ·have hjl:j<bets.length:=by omega
   obtain⟨g,o,rfl,_,hgl,hcell⟩:=HBt.o (by omega);obtain⟨q0,q1,kv,iv,_⟩:=hcell j hjl;have d0:=(World.cell?_of_block (hbel.block g hgl)).trans q0;have d1:=(World.cell?_of_block (hbel.block g hgl)).trans q1;have d1':=d1;rw[←Nat.add_assoc]at d1';have lg:g<wr.heap.size:=by omega
   rw[hj]at HTk;have hcl:=hcc;clear hbel q0 q1 hcell;generalize hbj:bets[j]=bj at *;have HBj:=A0 hbj;clear hbj;cases t1:(bj.fn==((n:Nat):Int))
   ·have HM:=A0 (A1l hjl HTk.o (fun q=>by rw[HBj.o]at q;rw[q.1]at t1;simp at t1));go_wp2;go_roundg j
    case measure=>omega
    case rel=>
     refine⟨by omega,?_,HM.o,⟨HB.o.os,HB.o.tape,HB.o.output,HB.o.size,HB.o.block⟩⟩;cases j with
     | zero=>exact .inl ⟨rfl,by simp⟩
     | succ j=>exact .inr ⟨j,rfl,by simp⟩
   ·cases t2:(bj.after==((c:Nat):Int))
    ·have HM:=A0 (A1l hjl HTk.o (fun q=>by rw[HBj.o]at q;rw[q.2]at t2;simp at t2));go_wp2;go_roundg j
     case measure=>omega
     case rel=>
      refine⟨by omega,?_,HM.o,⟨HB.o.os,HB.o.tape,HB.o.output,HB.o.size,HB.o.block⟩⟩;cases j with
      | zero=>exact .inl ⟨rfl,by simp⟩
      | succ j=>exact .inr ⟨j,rfl,by simp⟩
    ·have HM:=A0 (Ak4 hjl HTk.o (by rw[HBj.o];exact eq_of_beq t1) (by rw[HBj.o];exact eq_of_beq t2));go_wp2;refine bodyPost_ret (v:=.int .i64 (j:Nat)) (by simp[results,Tryz.results245,go_sem]) rfl ⟨⟨HB.o.os,HB.o.tape,HB.o.output,HB.o.size,HB.o.block⟩,.inr ⟨j,hjl,rfl,HM.o⟩⟩
structure Km (D : Nat -> Prop) (w : World) (bb oo slots : Nat) (steps : List Ad) (sa : Option Addr) (sn sc : Nat) : Prop where
 kept:D bb
 slots:w.cell? ⟨bb,oo,none⟩=some (.int .i64 (slots:Nat))
 row:w.cell? ⟨bb,oo+1,none⟩=some (.slice sa sn sc)
 own:Co D w 251 8 (.slice sa sn sc) steps.length (Eh steps)
theorem Km.keep{bb oo slots:Nat}{steps:List Ad}{sa:Option Addr}{sn sc:Nat}(h:Km D w bb oo slots steps sa sn sc)(hb:A3 (dx D X) w w'):Km D w' bb oo slots steps sa sn sc:=
 ⟨h.kept,(World.cell?_of_block (hb.block bb (.inl h.kept))).trans h.slots,(World.cell?_of_block (hb.block bb (.inl h.kept))).trans h.row,h.own.keep (fun g hg _=>⟨hb.block g (.inl hg),hg⟩)⟩
theorem A1w(h:C.Ms D X β w m){bb oo slots args:Nat}{steps:List Ad}{sa:Option Addr}{sn sc:Nat}(hB:Km D w bb oo slots steps sa sn sc)(hs:slots<=10000)(ha:args<=10000)(hn:m.vals.length+slots<=90000) :
  Calls Tryz.prog 57 #[.pointer (some ⟨C.mb,0,none⟩),.pointer (some ⟨bb,oo,none⟩),.int .i64 (args:Nat)] w (MP C D X β w (m.begin slots steps args) (.tuple #[])):=by
 have c0:=hB.slots;have c1:=hB.row;have lb:=h.B7;have lc:=block_lt_of_cell c0;have HL:=A0 h.Jo.len;obtain⟨x0,_,g6,g7,g8,gz⟩:=h.Rt;have HS:=A0 h;have HBd:=A0 hB;clear h hB;go_enter Tryz.func57,Tryz.ntmps57;go_wp2;go_region_law (refine Fj rfl 98 _ _ rfl #[.pointer (some ⟨C.mb,4,none⟩)] (by kernel_rfl) HL.o ?_;rintro e w1 ⟨rfl,Fs⟩;subst Fs;refine⟨_,rfl,?_⟩)
 all_goals
  have Dj:IntKind.i64.wrap ((m.vals.length:Int)-(args:Nat))=(m.vals.length:Int)-(args:Nat):=by rw[IntKind.wrap_i64];omega
  rw[Dj];obtain⟨W1,hW1⟩:∃W1,W1=(((w.setCell ⟨C.mb,6,none⟩ (.slice sa sn sc)).setCell ⟨C.mb,7,none⟩ (.int .i64 0)).setCell ⟨C.mb,8,none⟩ (.int .i64 ((m.vals.length:Int)-(args:Nat)))).drew:=⟨_,rfl⟩;rw[←hW1];have hq:=HS.o.Qc ⟨sa,sn,sc,0,(m.vals.length:Int)-(args:Nat)⟩ ⟨steps,0,(m.vals.length:Int)-(args:Nat)⟩ ⟨HBd.o.own,rfl,rfl⟩;have s1:C.Ms D X β W1 { m with now:=⟨steps,0,(m.vals.length:Int)-(args:Nat)⟩ }:=by rw[hW1];exact hq.1.Jo
  have s2:A3 (dx D X) w W1:=by rw[hW1];exact hq.2.trans (E6 _ _ 1)
  clear hq Dj c0 c1 lc g6 g7 g8 gz;have c0:=(HBd.o.keep s2).slots;have Bt:=s1.B7;have lc:=block_lt_of_cell c0;have A9:=A0 s1;have A5:=A0 s2;clear s1 s2 hW1 HL HS;go_wp2;go_loopg [26] (slots-args) (fun k v wr=>∃i:Nat,v=.int .i64 i/\i+k=slots-args/\C.Ms D X β wr { m with now:=⟨steps,0,(m.vals.length:Int)-(args:Nat)⟩,vals:=m.vals++Ju i }/\A3 (dx D X) w wr)
  case atStart=>exact⟨0,rfl,by omega,by simpa [Ju]using A9.o,A5.o⟩
  case round=>
   obtain⟨i,rfl,hik,hsr,hbr⟩:=hrel;have HBr:=A0 hbr;have HSr:=A0 hsr;have lbr:=hsr.B7;clear hbr;by_cases hlt:i<slots-args
   ·have t0:((i:Nat):Int)<((slots:Nat):Int)-((args:Nat):Int):=by omega
    have HP:Hid (Calls Tryz.prog 99 #[.pointer (some ⟨C.mb,4,none⟩),.agg #[.int .i64 0,.bool false,.int .i64 0,.string ⟨#[]⟩,.pointer none]] wr (MP C D X β wr ({ m with now:=⟨steps,0,(m.vals.length:Int)-(args:Nat)⟩,vals:=m.vals++Ju i }.push Ai) (.tuple #[]))):=hsr.push Ai (by simp[Dy,Ai]) (by simp[Ju];omega);clear hsr;go_wp2_with fail
    refine HP.o.mono ?_;rintro e w2 ⟨rfl,h2,k2⟩;have Ak:=A0 h2;have Aa:Hid (A3 (dx D X) w w2):=HBr.o.trans k2;have Ek:=h2.B7;clear h2 k2 HP;go_wp2;go_roundg (gk-1)
    case measure=>omega
    case rel=>
     refine⟨i+1,by simp,by omega,?_,Aa.o⟩;have:=Ak.o;rw[MS.push]at this;simpa [Ju,List.replicate_succ',List.append_assoc]using this
   ·have t0:¬((i:Nat):Int)<((slots:Nat):Int)-((args:Nat):Int):=by omega
    clear hsr;go_wp2;go_end0;have e:i=slots-args:=by omega
    refine⟨rfl,?_,HBr.o⟩;have:=HSr.o;rw[e]at this;exact this
def Ub(X:Nat->Prop)(w w1:World):Nat->Prop:=fun g=>E9 X w g\/(w1.heap.size<=g/\g<w1.heap.size+1)
theorem MC.Ms.A2a{w1:World}(h:C.Ms D (Ub X w w1) β w' m):C.Ms D X β w' m:=h.less (fun _ h=>.inl (.inl h)) (fun _ _ _=>rfl) rfl
theorem Nz{w1 w2 w3:World}(h:A3 (dx D (Ub X w w1)) w2 w3):A3 (dx D X) w2 w3:=h.weak (fun _ hg=>hg.imp id (fun q=>.inl (.inl q)))
theorem MC.Ms.A1h(h:C.Ms D (E9 X w) β w' m)(o:Obj):C.Ms D (Ub X w w') β (w'.alloc o) m/\A3 (dx D (E9 X w)) w' (w'.alloc o):=by
 have hb:Below w'.heap.size w' (w'.alloc o):=Below.alloc (Below.refl _ _) (Nat.le_refl _) _;have:=h.more hb;rw[World.size_alloc]at this;exact⟨this,(h.below hb).2⟩
theorem A5u(h:C.Ms D X β w m)(i:Ad)(ho:i.op=44)(hv:Dy m.arr.length m.top)(hn:m.vals.length+1<=100000):Calls Tryz.prog 160 #[.pointer (some ⟨C.mb,0,none⟩),Ac i] w (MP C D X β w ({ (m.pop.cut m.now.base).push m.top with now:=m.calls.getLastD ⟨[],0,0⟩,calls:=m.calls.dropLast }) (.tuple #[])):=by
 obtain⟨w0,Aq,Av,Ae,As,Aw,n0,n1,n2,n3,n4,n5,n6,n7,ln,lb,Ce⟩:=h.Ch i;clear h;have t43:((i.op:Int)==43)=false:=by rw[ho];rfl
 have t44:((i.op:Int)==44)=true:=by rw[ho];rfl
 have HT:=A0 Av.o.pop;have cb:=Av.o.base;generalize hu:m.top=u at *;have HV:=A0 hv;unfold Bg at HT;clear ho hv hu;unfold Ac;go_enter Tryz.func160,Tryz.ntmps160;go_wp2_with fail
 rw[←Aq.o];refine HT.o.mono ?_;rintro e w1 ⟨rfl,h1,k1⟩;have Bt:=h1.B7;have A9:=A0 h1;have A5:Hid (A3 (dx D X) w w1):=Ae.o.trans (Ag k1);have Ab:=(k1.block _ As.o).trans Aw.o;have Br:=A0 Ab;clear n0 n1 n2 n3 n4 n5 n6 n7 ln;obtain⟨n0,n1,n2,n3,n4,n5,n6,n7,ln⟩:=B9 Ab;clear h1 k1 Ab;have cb1:=A9.o.base;obtain⟨wa,hwa⟩:∃wa,wa=w1.alloc (.cells #[.int .i64 (u.k:Nat),.bool u.y,.int .i64 u.n,.string ⟨u.t.toArray⟩,.pointer (Ca β u)] 225):=⟨_,rfl⟩;have hka:=A9.o.A1h (.cells #[.int .i64 (u.k:Nat),.bool u.y,.int .i64 u.n,.string ⟨u.t.toArray⟩,.pointer (Ca β u)] 225);have hqa:=heap_alloc_new w1 (.cells #[.int .i64 (u.k:Nat),.bool u.y,.int .i64 u.n,.string ⟨u.t.toArray⟩,.pointer (Ca β u)] 225);rw[←hwa]at hka hqa;have HBa:Hid (A3 (dx D X) w wa):=A5.o.trans (Ag hka.2);have cba:=hka.1.base;have lba:=hka.1.B7;have HC:=A0 (hka.1.Jo.cut m.now.base);have HQa:=A0 hqa;have HWa:=A0 hwa;clear hka hqa hwa;go_wp2;rw[←HWa.o];refine Ji 8 (by kernel_rfl) (by kernel_rfl) ?_;simp only[List.take_succ_cons,List.take_zero,List.drop_succ_cons,List.drop_zero];iterate 8 (refine Fa (fun K' hK'=>?_);go_simp;refine hK' _ ?_;clear hK' K')
 refine Jk ?_;go_wp2_with fail
 refine HC.o.mono ?_;rintro e w2 ⟨rfl,h2,k2⟩;have En:=(k2.block _ (.inr (.inr ⟨Nat.le_refl _,by omega⟩))).trans HQa.o;obtain⟨p0,p1,p2,p3,p4,fp,lp⟩:=Mj En;have Ek:=h2.B7;have Aa:Hid (A3 (dx D X) w w2):=HBa.o.trans ((E6 _ wa 1).trans (Nz k2));have HP:=A0 (h2.Jo.push u HV.o (by have:=hn;simp[MS.cut,MS.pop];split <;> simp <;> omega));unfold Bg at HP;clear h2 k2 En;go_wp2;refine Ji 4 (by kernel_rfl) (by kernel_rfl) ?_;simp only[List.take_succ_cons,List.take_zero,List.drop_succ_cons,List.drop_zero];iterate 4 (refine Fa (fun K' hK'=>?_);go_simp;refine hK' _ ?_;clear hK' K')
 refine Jk ?_;go_wp2_with fail
 refine HP.o.mono ?_;rintro e w3 ⟨rfl,h3,k3⟩;have lb3:=h3.B7;have At:Hid (A3 (dx D X) w w3):=Aa.o.trans ((E6 _ w2 1).trans (Nz k3));have HF:=A0 h3.A1a;clear h3 k3;go_wp2_with fail
 refine HF.o.mono ?_;rintro e w4 ⟨y,rfl,hy,h4,k4⟩;obtain⟨x4,_,g6,g7,g8,gz⟩:=h4.Rt;have lb4:=h4.B7;obtain⟨s1,s2⟩:=h4.Qc y _ hy;have Hg:=A0 s1.A2a;have Dn:Hid (A3 (dx D X) w _):=At.o.trans ((Nz k4).trans (Nz s2));clear h4 k4 s1 s2 hy;unfold R6;go_wp2;go_end0;exact⟨rfl,Hg.o,Dn.o⟩
theorem A8c(h:C.Ms D X β w m)(i:Ad)(ho:i.op=43)(hn:m.vals.length+1<=100000):Calls Tryz.prog 160 #[.pointer (some ⟨C.mb,0,none⟩),Ac i] w (MP C D X β w ({ (m.cut m.now.base).push Ai with now:=m.calls.getLastD ⟨[],0,0⟩,calls:=m.calls.dropLast }) (.tuple #[])):=by
 obtain⟨w0,Aq,Av,Ae,As,Aw,n0,n1,n2,n3,n4,n5,n6,n7,ln,lb,Ce⟩:=h.Ch i;clear h;have t43:((i.op:Int)==43)=true:=by rw[ho];rfl
 have HP0:=A0 (Av.o.push Ai (by simp[Dy,Ai]) hn);unfold Bg at HP0;clear ho;unfold Ac;go_enter Tryz.func160,Tryz.ntmps160;go_wp2_with fail
 rw[←Aq.o];refine HP0.o.mono ?_;rintro e w1 ⟨rfl,h1,k1⟩;have Bt:=h1.B7;have A9:=A0 h1;have A5:Hid (A3 (dx D X) w w1):=Ae.o.trans (Ag k1);have Ab:=(k1.block _ As.o).trans Aw.o;have Br:=A0 Ab;clear n0 n1 n2 n3 n4 n5 n6 n7 ln;obtain⟨n0,n1,n2,n3,n4,n5,n6,n7,ln⟩:=B9 Ab;clear h1 k1 Ab;have hpp:=A9.o.pop;have e1:(m.push Ai).pop=m:=by simp[MS.push,MS.pop]
 have e2:(m.push Ai).top=Ai:=by simp[MS.push,MS.top]
 rw[e1,e2]at hpp;have HT:=A0 hpp;unfold Bg at HT;clear hpp e1 e2;go_wp2_with fail
 refine HT.o.mono ?_;rintro e w1 ⟨rfl,h1,k1⟩;have Bt:=h1.B7;have A9:=A0 h1;have A5:Hid (A3 (dx D X) w w1):=A5.o.trans (Ag k1);have Ab:=(k1.block _ As.o).trans Br.o;have Br:=A0 Ab;clear n0 n1 n2 n3 n4 n5 n6 n7 ln;obtain⟨n0,n1,n2,n3,n4,n5,n6,n7,ln⟩:=B9 Ab;clear h1 k1 Ab;have cb1:=A9.o.base;obtain⟨wa,hwa⟩:∃wa,wa=w1.alloc (.cells #[.int .i64 (Ai.k:Nat),.bool Ai.y,.int .i64 Ai.n,.string ⟨Ai.t.toArray⟩,.pointer (Ca β Ai)] 225):=⟨_,rfl⟩;have hka:=A9.o.A1h (.cells #[.int .i64 (Ai.k:Nat),.bool Ai.y,.int .i64 Ai.n,.string ⟨Ai.t.toArray⟩,.pointer (Ca β Ai)] 225);have hqa:=heap_alloc_new w1 (.cells #[.int .i64 (Ai.k:Nat),.bool Ai.y,.int .i64 Ai.n,.string ⟨Ai.t.toArray⟩,.pointer (Ca β Ai)] 225);rw[←hwa]at hka hqa;have HBa:Hid (A3 (dx D X) w wa):=A5.o.trans (Ag hka.2);have cba:=hka.1.base;have lba:=hka.1.B7;have HC:=A0 (hka.1.Jo.cut m.now.base);have HQa:=A0 hqa;have HWa:=A0 hwa;clear hka hqa hwa;go_wp2;rw[←HWa.o];refine Ji 8 (by kernel_rfl) (by kernel_rfl) ?_;simp only[List.take_succ_cons,List.take_zero,List.drop_succ_cons,List.drop_zero];iterate 8 (refine Fa (fun K' hK'=>?_);go_simp;refine hK' _ ?_;clear hK' K')
 refine Jk ?_;go_wp2_with fail
 refine HC.o.mono ?_;rintro e w2 ⟨rfl,h2,k2⟩;have En:=(k2.block _ (.inr (.inr ⟨Nat.le_refl _,by omega⟩))).trans HQa.o;obtain⟨p0,p1,p2,p3,p4,fp,lp⟩:=Mj En;have Ek:=h2.B7;have Aa:Hid (A3 (dx D X) w w2):=HBa.o.trans ((E6 _ wa 1).trans (Nz k2));have HP:=A0 (h2.Jo.push Ai (by simp[Dy,Ai]) (by simp only[MS.cut];split;exact hn;simp only[List.length_take];omega));unfold Bg at HP;clear h2 k2 En;go_wp2;refine Ji 4 (by kernel_rfl) (by kernel_rfl) ?_;simp only[List.take_succ_cons,List.take_zero,List.drop_succ_cons,List.drop_zero];iterate 4 (refine Fa (fun K' hK'=>?_);go_simp;refine hK' _ ?_;clear hK' K')
 refine Jk ?_;go_wp2_with fail
 refine HP.o.mono ?_;rintro e w3 ⟨rfl,h3,k3⟩;have lb3:=h3.B7;have At:Hid (A3 (dx D X) w w3):=Aa.o.trans ((E6 _ w2 1).trans (Nz k3));have HF:=A0 h3.A1a;clear h3 k3;go_wp2_with fail
 refine HF.o.mono ?_;rintro e w4 ⟨y,rfl,hy,h4,k4⟩;obtain⟨x4,_,g6,g7,g8,gz⟩:=h4.Rt;have lb4:=h4.B7;obtain⟨s1,s2⟩:=h4.Qc y _ hy;have Hg:=A0 s1.A2a;have Dn:Hid (A3 (dx D X) w _):=At.o.trans ((Nz k4).trans (Nz s2));clear h4 k4 s1 s2 hy;unfold R6;go_wp2;go_end0;exact⟨rfl,Hg.o,Dn.o⟩
def Js:Nat:=4
theorem Ud:Tryz.prog.globalNamed "internal/strconv.uint64pow10"=some Js:=by kernel_rfl
theorem G8.of{w w':World}(h:G8 w)(hb:w'.heap[Js]?=w.heap[Js]?):G8 w':=by
 unfold G8 Lib.TabIs World.var? at *;rw[Ud]at h ⊢;simp only[Option.bind_some]at h ⊢;rw[hb];exact h
theorem G8.Bn{w w':World}(h:G8 w)(hD:D Js)(hb:A3 (dx D X) w w'):G8 w':=h.of (hb.block _ (.inl hD))
theorem MC.Ms.P7(h:C.Ms D X β w m):∃oa oc,w.cell? ⟨C.mb,11,none⟩=some (.slice oa m.out.length oc)/\(∀o,w.frozen? ⟨C.mb,o,none⟩=false):=by
 obtain⟨ρ,s,x,fv,ab,lp,h⟩:=h;have hv:s.on=m.out.length:=(C8 h.out).1;have:=A2 h.cell 11 (.slice s.oa s.on s.oc) rfl;rw[hv]at this;exact⟨_,_,this,Bd h.cell⟩
def Rn(v:PV):Prop:=v.k≠4/\D7 v.n/\v.t.length<=100000
theorem A42(h:C.Ms D X β w m)(i:Ad)(hf:Rn m.top)(ht:G8 w)(hD:D Js)(hz:500<(Fk m.arr 4 [] m.top).length):Calls Tryz.prog 158 #[.pointer (some ⟨C.mb,0,none⟩),Ac i] w (MP C D X β w (m.pop.fail 10 i) (.tuple #[])):=by
 obtain⟨w0,Aq,Av,Ae,As,Aw,n0,n1,n2,n3,n4,n5,n6,n7,ln,lb,Ce⟩:=h.Ch i;clear h;have HTp:=A0 Av.o.pop;have HT0:=A0 ht;have hq:Mn (Fk m.arr 4 [] m.top)=.tuple #[.string ⟨#[]⟩,.bool false]:=by unfold Mn;rw[if_pos hz]
 unfold Bg at HTp;clear ht;generalize hl:Fk m.arr 4 [] m.top=l at *;unfold Ac;go_enter Tryz.func158,Tryz.ntmps158;go_wp2_with fail
 rw[←Aq.o];refine HTp.o.mono ?_;rintro e w1 ⟨rfl,h1,k1⟩;have Bt:=h1.B7;have A9:=A0 h1;have A5:Hid (A3 (dx D X) w w1):=Ae.o.trans (Ag k1);have Ab:=(k1.block _ As.o).trans Aw.o;have Br:=A0 Ab;clear n0 n1 n2 n3 n4 n5 n6 n7 ln;obtain⟨n0,n1,n2,n3,n4,n5,n6,n7,ln⟩:=B9 Ab;clear h1 k1 Ab;have HL:=A0 (Ui m.top (Ca β m.top) hf.1 hf.2.1 hf.2.2 m.arr w1 (HT0.o.Bn hD A5.o));rw[hl,hq]at HL;have HF:=A0 hf;clear hf hq hl HT0;obtain⟨oa,oc,o11,oz⟩:=A9.o.P7;go_wp2_with fail
 refine HL.o.mono ?_;rintro e w2 ⟨rfl,A8⟩;have Au:=A9.o.below A8;have Ax:=(A8.block _ (A4 Br.o)).trans Br.o;have Ak:=A0 Au.1;have Aa:Hid (A3 (dx D X) w w2):=A5.o.trans (Ag Au.2);have Ec:=A0 Ax;clear n0 n1 n2 n3 n4 n5 n6 n7 ln o11 oz;obtain⟨n0,n1,n2,n3,n4,n5,n6,n7,ln⟩:=B9 Ax;have Ek:=Ak.o.B7;obtain⟨oa2,oc2,o11,oz⟩:=Ak.o.P7;clear A8 Au Ax HL;have Bl:=A0 (fun(W:World) (hb:Below w2.heap.size w2 W)=>And.intro ((fun hs=>Jg hs 10 i) (Ak.o.below hb).1) (Aa.o.trans (Ag (Ak.o.below hb).2)));unfold Ac at Bl;go_wp2_with fail
 refine((Bl.o _ (by repeat (first|exact Below.refl _ _|refine Below.alloc ?_ (by simp) _|refine Below.setCell ?_ (by simp) _|refine Below.drew ?_))).1).mono ?_;rintro e w3 ⟨rfl,h3,k3⟩;have Bh:=A0 h3.back;have At:Hid (A3 (dx D X) w w3):=(Bl.o _ (by repeat (first|exact Below.refl _ _|refine Below.alloc ?_ (by simp) _|refine Below.setCell ?_ (by simp) _|refine Below.drew ?_))).2.trans (Ag k3);clear h3 k3;go_wp2;refine bodyPost_ret (v:=.tuple #[]) (by simp[results,Tryz.results158,go_sem]) rfl ?_;exact⟨rfl,Bh.o,At.o⟩
theorem Akx(h:C.Ms D X β w m)(i:Ad)(hf:Rn m.top)(ht:G8 w)(hD:D Js)(hz:(Fk m.arr 4 [] m.top).length<=500)(ho:m.out.length=100):Calls Tryz.prog 158 #[.pointer (some ⟨C.mb,0,none⟩),Ac i] w (MP C D X β w (m.pop.fail 10 i) (.tuple #[])):=by
 obtain⟨w0,Aq,Av,Ae,As,Aw,n0,n1,n2,n3,n4,n5,n6,n7,ln,lb,Ce⟩:=h.Ch i;clear h;have HTp:=A0 Av.o.pop;have HT0:=A0 ht;have hq:Mn (Fk m.arr 4 [] m.top)=.tuple #[.string ⟨(Fk m.arr 4 [] m.top).toArray⟩,.bool true]:=by unfold Mn;rw[if_neg (by omega)]
 unfold Bg at HTp;clear ht;generalize hl:Fk m.arr 4 [] m.top=l at *;unfold Ac;go_enter Tryz.func158,Tryz.ntmps158;go_wp2_with fail
 rw[←Aq.o];refine HTp.o.mono ?_;rintro e w1 ⟨rfl,h1,k1⟩;have Bt:=h1.B7;have A9:=A0 h1;have A5:Hid (A3 (dx D X) w w1):=Ae.o.trans (Ag k1);have Ab:=(k1.block _ As.o).trans Aw.o;have Br:=A0 Ab;clear n0 n1 n2 n3 n4 n5 n6 n7 ln;obtain⟨n0,n1,n2,n3,n4,n5,n6,n7,ln⟩:=B9 Ab;clear h1 k1 Ab;have HL:=A0 (Ui m.top (Ca β m.top) hf.1 hf.2.1 hf.2.2 m.arr w1 (HT0.o.Bn hD A5.o));rw[hl,hq]at HL;have HF:=A0 hf;clear hf hq hl HT0;obtain⟨oa,oc,o11,oz⟩:=A9.o.P7;go_wp2_with fail
 refine HL.o.mono ?_;rintro e w2 ⟨rfl,A8⟩;have Au:=A9.o.below A8;have Ax:=(A8.block _ (A4 Br.o)).trans Br.o;have Ak:=A0 Au.1;have Aa:Hid (A3 (dx D X) w w2):=A5.o.trans (Ag Au.2);have Ec:=A0 Ax;clear n0 n1 n2 n3 n4 n5 n6 n7 ln o11 oz;obtain⟨n0,n1,n2,n3,n4,n5,n6,n7,ln⟩:=B9 Ax;have Ek:=Ak.o.B7;obtain⟨oa2,oc2,o11,oz⟩:=Ak.o.P7;clear A8 Au Ax HL;have t0:(((m.pop.out.length:Nat):Int)==100)=true:=by show(((m.out.length:Nat):Int)==100)=true;rw[ho];rfl
 have Bl:=A0 (fun(W:World) (hb:Below w2.heap.size w2 W)=>And.intro ((fun hs=>Jg hs 10 i) (Ak.o.below hb).1) (Aa.o.trans (Ag (Ak.o.below hb).2)));unfold Ac at Bl;go_wp2_with fail
 refine((Bl.o _ (by repeat (first|exact Below.refl _ _|refine Below.alloc ?_ (by simp) _|refine Below.setCell ?_ (by simp) _|refine Below.drew ?_))).1).mono ?_;rintro e w3 ⟨rfl,h3,k3⟩;have Bh:=A0 h3.back;have At:Hid (A3 (dx D X) w w3):=(Bl.o _ (by repeat (first|exact Below.refl _ _|refine Below.alloc ?_ (by simp) _|refine Below.setCell ?_ (by simp) _|refine Below.drew ?_))).2.trans (Ag k3);clear h3 k3;go_wp2;refine bodyPost_ret (v:=.tuple #[]) (by simp[results,Tryz.results158,go_sem]) rfl ?_;exact⟨rfl,Bh.o,At.o⟩
theorem A8b(h:C.Ms D X β w m)(i:Ad)(hf:Rn m.top)(ht:G8 w)(hD:D Js)(hz:(Fk m.arr 4 [] m.top).length<=500)(ho:m.out.length<100):Calls Tryz.prog 158 #[.pointer (some ⟨C.mb,0,none⟩),Ac i] w (MP C D X β w ({ m.pop with out:=m.out++[Fk m.arr 4 [] m.top] }) (.tuple #[])):=by
 obtain⟨w0,Aq,Av,Ae,As,Aw,n0,n1,n2,n3,n4,n5,n6,n7,ln,lb,Ce⟩:=h.Ch i;clear h;have HTp:=A0 Av.o.pop;have HT0:=A0 ht;have hq:Mn (Fk m.arr 4 [] m.top)=.tuple #[.string ⟨(Fk m.arr 4 [] m.top).toArray⟩,.bool true]:=by unfold Mn;rw[if_neg (by omega)]
 unfold Bg at HTp;clear ht;generalize hl:Fk m.arr 4 [] m.top=l at *;unfold Ac;go_enter Tryz.func158,Tryz.ntmps158;go_wp2_with fail
 rw[←Aq.o];refine HTp.o.mono ?_;rintro e w1 ⟨rfl,h1,k1⟩;have Bt:=h1.B7;have A9:=A0 h1;have A5:Hid (A3 (dx D X) w w1):=Ae.o.trans (Ag k1);have Ab:=(k1.block _ As.o).trans Aw.o;have Br:=A0 Ab;clear n0 n1 n2 n3 n4 n5 n6 n7 ln;obtain⟨n0,n1,n2,n3,n4,n5,n6,n7,ln⟩:=B9 Ab;clear h1 k1 Ab;have HL:=A0 (Ui m.top (Ca β m.top) hf.1 hf.2.1 hf.2.2 m.arr w1 (HT0.o.Bn hD A5.o));rw[hl,hq]at HL;have HF:=A0 hf;clear hf hq hl HT0;obtain⟨oa,oc,o11,oz⟩:=A9.o.P7;go_wp2_with fail
 refine HL.o.mono ?_;rintro e w2 ⟨rfl,A8⟩;have Au:=A9.o.below A8;have Ax:=(A8.block _ (A4 Br.o)).trans Br.o;have Ak:=A0 Au.1;have Aa:Hid (A3 (dx D X) w w2):=A5.o.trans (Ag Au.2);have Ec:=A0 Ax;clear n0 n1 n2 n3 n4 n5 n6 n7 ln o11 oz;obtain⟨n0,n1,n2,n3,n4,n5,n6,n7,ln⟩:=B9 Ax;have Ek:=Ak.o.B7;obtain⟨oa2,oc2,o11,oz⟩:=Ak.o.P7;clear A8 Au Ax HL;have t0:(((m.pop.out.length:Nat):Int)==100)=false:=by show(((m.out.length:Nat):Int)==100)=false;rw[beq_eq_false_iff_ne];omega
 clear oa2 oc2 o11 oz;obtain⟨ρ,s,x,fv,ab,lp,hv⟩:=Ak.o;have hvn:s.on=m.pop.out.length:=(C8 hv.out).1;have o11:=A2 hv.cell 11 (.slice s.oa s.on s.oc) rfl;have hown:=hv.out;rw[hvn]at o11 hown;have HV:=A0 hv;have HNe:Hid (∀g,(Value.slice s.oa m.pop.out.length s.oc).ownBlock=some g->g≠C.mb):=fun g hg e=>by
  have:=hv.outo g (by rw[hvn];exact hg);rw[e,hv.one.1]at this;cases this
 have HVn:=A0 hvn;have hlen:m.pop.out.length<=1000000:=by show m.out.length<=1000000;omega
 clear hv hvn;go_wp2_with (at_builtin;refine K5 w2 #[.string ⟨l.toArray⟩] 9 rfl (.tmp 31) (.tmp 33) 37 rfl 0 1 16 (.string ⟨#[]⟩) Tryz.underlying37 Si rfl (by omega) _ _ _ rfl rfl hown rfl (by intro u hu;simp at hu;subst hu;rfl) hlen (by omega) (Nat.zero_le _) ?_;intro g cap w3 F1 hgrow hat hg;have Aj:=(hgrow.block C.mb Ek (fun e=>HNe.o _ e.symm rfl)).trans HV.o.cell;have c11:=A2 Aj 11 (.slice s.oa s.on s.oc) rfl;have fz:=Bd Aj;have lb3:=A4 Aj;have At:=A0 Aj;have HO:=A0 F1;have HG:=A0 hgrow;have HA:=A0 hat;clear hown F1 hgrow hat Aj o11)
 go_wp2;go_end0;have hgb:g≠C.mb:=by
  rcases HA.o with e|e
  ·exact HNe.o g e
  ·omega
 have hset:∀k,k≠C.mb->(w3.setCell ⟨C.mb,11,none⟩ (.slice (some ⟨g,0,none⟩) (m.pop.out.length+1) cap)).heap[k]?=w3.heap[k]?:=fun k hk=>Below.heap_setCell _ _ _ _ (by exact hk);have hc:Gg 6 ρ w2 (w3.setCell ⟨C.mb,11,none⟩ (.slice (some ⟨g,0,none⟩) (m.pop.out.length+1) cap)):=⟨by rw[Pd];exact HG.o.os,by rw[Pk];exact HG.o.tape,by rw[Pf];exact HG.o.output,by simp[World.setCell];exact HG.o.size,fun k hk h1 h2=>(hset k (fun e=>h1 (by rw[e];exact HV.o.one.1))).trans (HG.o.block k hk (fun e=>h2 (HV.o.outo k (by rw[HVn.o];exact e.symm))))⟩;have hfin:=HV.o.Abn hc (oa:=some ⟨g,0,none⟩) (on:=m.pop.out.length+1) (oc:=cap) (out:=m.pop.out++[l]) (x':=x) (now:=m.pop.now) (fuel:=m.pop.fuel) (cells:=m.pop.cells) (code:=m.pop.code) (line:=m.pop.line) (by rw[heap_set (j:=11) At.o];simp[MC.cells])
  (by rw[List.length_append,Qq,Qa];exact B3 HO.o (fun k hk _=>hset k (by simp only[Value.ownBlock,Option.some.injEq]at hk;rw[←hk];exact hgb)))
  (fun k hk=>by
   simp only[Value.ownBlock,Option.some.injEq]at hk;rw[←hk,HVn.o];rcases HA.o with e|e
   ·exact .inl e
   ·exact .inr (by omega)) HV.o.now (by show(m.out++[l]).length<=100;simp;omega)
 exact⟨rfl,MC.Ms.back ⟨_,_,_,_,_,_,hfin⟩,Aa.o.trans (Ag (HV.o.F0 hc (by omega)))⟩
theorem Ajs(h:C.Ms D X β w m)(i:Ad)(ho:i.op=7)(hy:m.top.y=true)(hf:m.fuel=0):Calls Tryz.prog 155 #[.pointer (some ⟨C.mb,0,none⟩),Ac i] w (MP C D X β w (m.pop.fail 8 i) (.tuple #[])):=by
 obtain⟨w0,Aq,Av,Ae,As,Aw,n0,n1,n2,n3,n4,n5,n6,n7,ln,lb,Ce⟩:=h.Ch i;clear h;have HT:=A0 Av.o.pop;have t7:((i.op:Int)==7)=true:=by rw[ho];rfl
 unfold Bg at HT;clear ho;unfold Ac;go_enter Tryz.func155,Tryz.ntmps155;go_wp2_with fail
 rw[←Aq.o];refine HT.o.mono ?_;rintro e w1 ⟨rfl,h1,k1⟩;have Bt:=h1.B7;have A9:=A0 h1;have A5:Hid (A3 (dx D X) w w1):=Ae.o.trans (Ag k1);have Ab:=(k1.block _ As.o).trans Aw.o;have Br:=A0 Ab;clear n0 n1 n2 n3 n4 n5 n6 n7 ln;obtain⟨n0,n1,n2,n3,n4,n5,n6,n7,ln⟩:=B9 Ab;clear h1 k1 Ab;have HSp:=A0 (fun(W:World) (hb:Below w1.heap.size w1 W)=>And.intro (Yy (A9.o.below hb).1 i hf) (A5.o.trans (Ag (A9.o.below hb).2)));unfold Ac at HSp;have hbi2:∀(W:World) (hb:Below w1.heap.size w1 W),W.heap[w.heap.size]?=w1.heap[w.heap.size]?:=fun W hb=>hb.block _ (A4 Br.o);have HBI:=A0 hbi2;clear hbi2;go_wp2_with fail
 refine((HSp.o _ (by repeat (first|exact Below.refl _ _|refine Below.alloc ?_ (by simp) _|refine Below.setCell ?_ (by simp) _|refine Below.drew ?_))).1).mono ?_;rintro e w2 ⟨rfl,h2,k2⟩;have Ek:=h2.B7;have Ak:=A0 h2;have Aa:Hid (A3 (dx D X) w w2):=(HSp.o _ (by repeat (first|exact Below.refl _ _|refine Below.alloc ?_ (by simp) _|refine Below.setCell ?_ (by simp) _|refine Below.drew ?_))).2.trans (Ag k2);have Ax:=(k2.block _ As.o).trans ((HBI.o _ (by repeat (first|exact Below.refl _ _|refine Below.alloc ?_ (by simp) _|refine Below.setCell ?_ (by simp) _|refine Below.drew ?_))).trans Br.o);have Ec:=A0 Ax;clear h2 k2 Ax;have HSb:=A0 Ak.o.back;go_wp2;refine bodyPost_ret (v:=.tuple #[]) (by simp[results,Tryz.results155,go_sem]) rfl ?_;exact⟨rfl,HSb.o,Aa.o⟩
theorem Aa3(h:C.Ms D X β w m)(i:Ad)(ho:i.op=7)(hk:m.top.k=1)(hy:m.top.y=false)(ha:0<=i.arg):Calls Tryz.prog 155 #[.pointer (some ⟨C.mb,0,none⟩),Ac i] w (MP C D X β w (m.pop.jump i.arg) (.tuple #[])):=by
 obtain⟨w0,Aq,Av,Ae,As,Aw,n0,n1,n2,n3,n4,n5,n6,n7,ln,lb,Ce⟩:=h.Ch i;clear h;have HT:=A0 Av.o.pop;have t7:((i.op:Int)==7)=true:=by rw[ho];rfl
 have tk:(((m.top.k:Nat):Int) !=1)=false:=by rw[hk];rfl
 unfold Bg at HT;clear ho hk;unfold Ac;go_enter Tryz.func155,Tryz.ntmps155;go_wp2_with fail
 rw[←Aq.o];refine HT.o.mono ?_;rintro e w1 ⟨rfl,h1,k1⟩;have Bt:=h1.B7;have A9:=A0 h1;have A5:Hid (A3 (dx D X) w w1):=Ae.o.trans (Ag k1);have Ab:=(k1.block _ As.o).trans Aw.o;have Br:=A0 Ab;clear n0 n1 n2 n3 n4 n5 n6 n7 ln;obtain⟨n0,n1,n2,n3,n4,n5,n6,n7,ln⟩:=B9 Ab;clear h1 k1 Ab;obtain⟨⟨v7,c7⟩,f7⟩:=A9.o.Sk;obtain⟨s1,s2⟩:=A9.o.Ra i.arg ha;have HQ:=A0 (fun(W:World) (hb:Below (w1.setCell ⟨C.mb,7,none⟩ (.int .i64 i.arg)).heap.size (w1.setCell ⟨C.mb,7,none⟩ (.int .i64 i.arg)) W)=>And.intro (s1.below hb).1.back (A5.o.trans ((Ag s2).trans (Ag (s1.below hb).2))));clear s1 s2;go_wp2;go_end0;exact⟨rfl,HQ.o _ (Below.alloc (Below.refl _ _) (Nat.le_refl _) _)⟩
theorem A47(h:C.Ms D X β w m)(i:Ad)(ho:i.op=7)(hk:m.top.k≠1)(hy:m.top.y=false):Calls Tryz.prog 155 #[.pointer (some ⟨C.mb,0,none⟩),Ac i] w (MP C D X β w (m.pop.fail 5 i) (.tuple #[])):=by
 obtain⟨w0,Aq,Av,Ae,As,Aw,n0,n1,n2,n3,n4,n5,n6,n7,ln,lb,Ce⟩:=h.Ch i;clear h;have HT:=A0 Av.o.pop;have t7:((i.op:Int)==7)=true:=by rw[ho];rfl
 have tk:(((m.top.k:Nat):Int) !=1)=true:=by rw[bne_iff_ne];omega
 unfold Bg at HT;clear ho hk;unfold Ac;go_enter Tryz.func155,Tryz.ntmps155;go_wp2_with fail
 rw[←Aq.o];refine HT.o.mono ?_;rintro e w1 ⟨rfl,h1,k1⟩;have Bt:=h1.B7;have A9:=A0 h1;have A5:Hid (A3 (dx D X) w w1):=Ae.o.trans (Ag k1);have Ab:=(k1.block _ As.o).trans Aw.o;have Br:=A0 Ab;clear n0 n1 n2 n3 n4 n5 n6 n7 ln;obtain⟨n0,n1,n2,n3,n4,n5,n6,n7,ln⟩:=B9 Ab;clear h1 k1 Ab;have Ay:=A0 (fun(W:World) (hb:Below w1.heap.size w1 W)=>And.intro ((fun hs=>Jg hs 5 i) (A9.o.below hb).1) (A5.o.trans (Ag (A9.o.below hb).2)));unfold Ac at Ay;go_wp2_with fail
 refine((Ay.o _ (by repeat (first|exact Below.refl _ _|refine Below.alloc ?_ (by simp) _|refine Below.setCell ?_ (by simp) _|refine Below.drew ?_))).1).mono ?_;rintro e w2 ⟨rfl,h2,k2⟩;have Ak:=A0 h2.back;have Aa:Hid (A3 (dx D X) w w2):=(Ay.o _ (by repeat (first|exact Below.refl _ _|refine Below.alloc ?_ (by simp) _|refine Below.setCell ?_ (by simp) _|refine Below.drew ?_))).2.trans (Ag k2);clear h2 k2;go_wp2;go_end0;exact⟨rfl,Ak.o,Aa.o⟩
theorem MC.Ms.Zn(h:C.Ms D (E9 X w) β w' m)(o:Obj):C.Ms D (fun g=>E9 X w g\/(w'.heap.size<=g/\g<w'.heap.size+1)) β (w'.alloc o) m:=by
 have hb:Below w'.heap.size w' (w'.alloc o):=Below.alloc (Below.refl _ _) (Nat.le_refl _) _;have:=h.more hb;rw[World.size_alloc]at this;exact this
theorem Ad1(h:C.Ms D X β w m)(i:Ad)(ho:i.op=7)(hk:m.top.k=1)(hy:m.top.y=true)(hf:m.fuel≠0)(hf2:m.fuel<=100000):Calls Tryz.prog 155 #[.pointer (some ⟨C.mb,0,none⟩),Ac i] w (MP C D X β w ({ m.pop with fuel:=m.fuel-1 }) (.tuple #[])):=by
 obtain⟨w0,Aq,Av,Ae,As,Aw,n0,n1,n2,n3,n4,n5,n6,n7,ln,lb,Ce⟩:=h.Ch i;clear h;have HT:=A0 Av.o.pop;have t7:((i.op:Int)==7)=true:=by rw[ho];rfl
 have tk:(((m.top.k:Nat):Int) !=1)=false:=by rw[hk];rfl
 unfold Bg at HT;clear ho hk;unfold Ac;go_enter Tryz.func155,Tryz.ntmps155;go_wp2_with fail
 rw[←Aq.o];refine HT.o.mono ?_;rintro e w1 ⟨rfl,h1,k1⟩;have Bt:=h1.B7;have A9:=A0 h1;have A5:Hid (A3 (dx D X) w w1):=Ae.o.trans (Ag k1);have Ab:=(k1.block _ As.o).trans Aw.o;have Br:=A0 Ab;clear n0 n1 n2 n3 n4 n5 n6 n7 ln;obtain⟨n0,n1,n2,n3,n4,n5,n6,n7,ln⟩:=B9 Ab;clear h1 k1 Ab;have Ht:=A0 (A9.o.Zn (.cells #[.int .i64 (m.top.k:Nat),.bool true,.int .i64 m.top.n,.string ⟨m.top.t.toArray⟩,.pointer (Ca β m.top)] 225));have hbz:Below w1.heap.size w1 (w1.alloc (.cells #[.int .i64 (m.top.k:Nat),.bool true,.int .i64 m.top.n,.string ⟨m.top.t.toArray⟩,.pointer (Ca β m.top)] 225)):=Below.alloc (Below.refl _ _) (Nat.le_refl _) _;have HB1a:Hid (A3 (dx D X) w (w1.alloc (.cells #[.int .i64 (m.top.k:Nat),.bool true,.int .i64 m.top.n,.string ⟨m.top.t.toArray⟩,.pointer (Ca β m.top)] 225))):=A5.o.trans (Ag (A9.o.below hbz).2);have HI1a:=A0 ((hbz.block _ (A4 Br.o)).trans Br.o);have HV1:=A0 (heap_alloc_new w1 (.cells #[.int .i64 (m.top.k:Nat),.bool true,.int .i64 m.top.n,.string ⟨m.top.t.toArray⟩,.pointer (Ca β m.top)] 225));clear hbz;have HSp:=A0 (Rw Ht.o i hf hf2);unfold Ac at HSp;go_wp2_with fail
 refine HSp.o.mono ?_;rintro e w2 ⟨rfl,h2,k2⟩;have Ek:=h2.B7;have Ak:Hid (C.Ms D (E9 X w) β w2 { m.pop with fuel:=m.fuel-1 }):=h2.less (fun _ h=>.inl h) (fun _ _ _=>rfl) rfl;have Aa:Hid (A3 (dx D X) w w2):=HB1a.o.trans (k2.weak (fun _ hg=>hg.imp id (fun q=>.inl (.inl q))));have Ax:=(k2.block w.heap.size (.inr (.inl (.inr ⟨Nat.le_refl _,by omega⟩)))).trans HI1a.o;have H8:=(k2.block w1.heap.size (.inr (.inr ⟨Nat.le_refl _,by omega⟩))).trans HV1.o;clear n0 n1 n2 n3 n4 n5 n6 n7 ln;obtain⟨n0,n1,n2,n3,n4,n5,n6,n7,ln⟩:=B9 Ax;obtain⟨p0,p1,p2,p3,p4,fp,lp⟩:=Mj H8;clear h2 k2 Ax H8;have HSb:=A0 Ak.o.back;go_wp2;go_end0;exact⟨rfl,HSb.o,Aa.o⟩
theorem Aam(h:C.Ms D X β w m)(i:Ad)(ho:i.op=7)(hk:m.top.k≠1)(hy:m.top.y=true)(hf:m.fuel≠0)(hf2:m.fuel<=100000):Calls Tryz.prog 155 #[.pointer (some ⟨C.mb,0,none⟩),Ac i] w (MP C D X β w ({ m.pop with fuel:=m.fuel-1 }.fail 5 i) (.tuple #[])):=by
 obtain⟨w0,Aq,Av,Ae,As,Aw,n0,n1,n2,n3,n4,n5,n6,n7,ln,lb,Ce⟩:=h.Ch i;clear h;have HT:=A0 Av.o.pop;have t7:((i.op:Int)==7)=true:=by rw[ho];rfl
 have tk:(((m.top.k:Nat):Int) !=1)=true:=by rw[bne_iff_ne];omega
 unfold Bg at HT;clear ho hk;unfold Ac;go_enter Tryz.func155,Tryz.ntmps155;go_wp2_with fail
 rw[←Aq.o];refine HT.o.mono ?_;rintro e w1 ⟨rfl,h1,k1⟩;have Bt:=h1.B7;have A9:=A0 h1;have A5:Hid (A3 (dx D X) w w1):=Ae.o.trans (Ag k1);have Ab:=(k1.block _ As.o).trans Aw.o;have Br:=A0 Ab;clear n0 n1 n2 n3 n4 n5 n6 n7 ln;obtain⟨n0,n1,n2,n3,n4,n5,n6,n7,ln⟩:=B9 Ab;clear h1 k1 Ab;have Ht:=A0 (A9.o.Zn (.cells #[.int .i64 (m.top.k:Nat),.bool true,.int .i64 m.top.n,.string ⟨m.top.t.toArray⟩,.pointer (Ca β m.top)] 225));have hbz:Below w1.heap.size w1 (w1.alloc (.cells #[.int .i64 (m.top.k:Nat),.bool true,.int .i64 m.top.n,.string ⟨m.top.t.toArray⟩,.pointer (Ca β m.top)] 225)):=Below.alloc (Below.refl _ _) (Nat.le_refl _) _;have HB1a:Hid (A3 (dx D X) w (w1.alloc (.cells #[.int .i64 (m.top.k:Nat),.bool true,.int .i64 m.top.n,.string ⟨m.top.t.toArray⟩,.pointer (Ca β m.top)] 225))):=A5.o.trans (Ag (A9.o.below hbz).2);have HI1a:=A0 ((hbz.block _ (A4 Br.o)).trans Br.o);have HV1:=A0 (heap_alloc_new w1 (.cells #[.int .i64 (m.top.k:Nat),.bool true,.int .i64 m.top.n,.string ⟨m.top.t.toArray⟩,.pointer (Ca β m.top)] 225));clear hbz;have HSp:=A0 (Rw Ht.o i hf hf2);unfold Ac at HSp;go_wp2_with fail
 refine HSp.o.mono ?_;rintro e w2 ⟨rfl,h2,k2⟩;have Ek:=h2.B7;have Ak:Hid (C.Ms D (E9 X w) β w2 { m.pop with fuel:=m.fuel-1 }):=h2.less (fun _ h=>.inl h) (fun _ _ _=>rfl) rfl;have Aa:Hid (A3 (dx D X) w w2):=HB1a.o.trans (k2.weak (fun _ hg=>hg.imp id (fun q=>.inl (.inl q))));have Ax:=(k2.block w.heap.size (.inr (.inl (.inr ⟨Nat.le_refl _,by omega⟩)))).trans HI1a.o;have H8:=(k2.block w1.heap.size (.inr (.inr ⟨Nat.le_refl _,by omega⟩))).trans HV1.o;clear n0 n1 n2 n3 n4 n5 n6 n7 ln;obtain⟨n0,n1,n2,n3,n4,n5,n6,n7,ln⟩:=B9 Ax;obtain⟨p0,p1,p2,p3,p4,fp,lp⟩:=Mj H8;clear h2 k2 Ax H8;have Bl:=A0 (fun(W:World) (hb:Below w2.heap.size w2 W)=>And.intro ((fun hs=>Jg hs 5 i) (Ak.o.below hb).1) (Aa.o.trans (Ag (Ak.o.below hb).2)));unfold Ac at Bl;go_wp2_with fail
 refine((Bl.o _ (by repeat (first|exact Below.refl _ _|refine Below.alloc ?_ (by simp) _|refine Below.setCell ?_ (by simp) _|refine Below.drew ?_))).1).mono ?_;rintro e w3 ⟨rfl,h3,k3⟩;have Bh:=A0 h3.back;have At:Hid (A3 (dx D X) w w3):=(Bl.o _ (by repeat (first|exact Below.refl _ _|refine Below.alloc ?_ (by simp) _|refine Below.setCell ?_ (by simp) _|refine Below.drew ?_))).2.trans (Ag k3);clear h3 k3;go_wp2;go_end0;exact⟨rfl,Bh.o,At.o⟩
theorem Zj(h:C.Ms D X β w m)(i:Ad)(hk:m.top.k≠1):Calls Tryz.prog 156 #[.pointer (some ⟨C.mb,0,none⟩),Ac i] w (MP C D X β w (m.fail 5 i) (.tuple #[])):=by
 obtain⟨w0,Aq,Av,Ae,As,Aw,n0,n1,n2,n3,n4,n5,n6,n7,ln,lb,Ce⟩:=h.Ch i;clear h;have HT:=A0 Av.o.top;have tk:(((m.top.k:Nat):Int) !=1)=true:=by rw[bne_iff_ne];omega
 unfold Bg at HT;clear hk;unfold Ac;go_enter Tryz.func156,Tryz.ntmps156;go_wp2_with fail
 rw[←Aq.o];refine HT.o.mono ?_;rintro e w1 ⟨rfl,h1,k1⟩;have Bt:=h1.B7;have A9:=A0 h1;have A5:Hid (A3 (dx D X) w w1):=Ae.o.trans (Ag k1);have Ab:=(k1.block _ As.o).trans Aw.o;have Br:=A0 Ab;clear n0 n1 n2 n3 n4 n5 n6 n7 ln;obtain⟨n0,n1,n2,n3,n4,n5,n6,n7,ln⟩:=B9 Ab;clear h1 k1 Ab;have Ay:=A0 (fun(W:World) (hb:Below w1.heap.size w1 W)=>And.intro ((fun hs=>Jg hs 5 i) (A9.o.below hb).1) (A5.o.trans (Ag (A9.o.below hb).2)));unfold Ac at Ay;go_wp2_with fail
 refine((Ay.o _ (by repeat (first|exact Below.refl _ _|refine Below.alloc ?_ (by simp) _|refine Below.setCell ?_ (by simp) _|refine Below.drew ?_))).1).mono ?_;rintro e w2 ⟨rfl,h2,k2⟩;have Ak:=A0 h2.back;have Aa:Hid (A3 (dx D X) w w2):=(Ay.o _ (by repeat (first|exact Below.refl _ _|refine Below.alloc ?_ (by simp) _|refine Below.setCell ?_ (by simp) _|refine Below.drew ?_))).2.trans (Ag k2);clear h2 k2;go_wp2;go_end0;exact⟨rfl,Ak.o,Aa.o⟩
theorem A4t(h:C.Ms D X β w m)(i:Ad)(ho:i.op=9)(hk:m.top.k=1)(hy:m.top.y=true):Calls Tryz.prog 156 #[.pointer (some ⟨C.mb,0,none⟩),Ac i] w (MP C D X β w (m.pop) (.tuple #[])):=by
 obtain⟨w0,Aq,Av,Ae,As,Aw,n0,n1,n2,n3,n4,n5,n6,n7,ln,lb,Ce⟩:=h.Ch i;clear h;have HT:=A0 Av.o.top;have tk:(((m.top.k:Nat):Int) !=1)=false:=by rw[hk];rfl
 have t10:((i.op:Int)==10)=false:=by rw[ho];rfl
 unfold Bg at HT;clear ho hk;unfold Ac;go_enter Tryz.func156,Tryz.ntmps156;go_wp2_with fail
 rw[←Aq.o];refine HT.o.mono ?_;rintro e w1 ⟨rfl,h1,k1⟩;have Bt:=h1.B7;have A9:=A0 h1;have A5:Hid (A3 (dx D X) w w1):=Ae.o.trans (Ag k1);have Ab:=(k1.block _ As.o).trans Aw.o;have Br:=A0 Ab;clear n0 n1 n2 n3 n4 n5 n6 n7 ln;obtain⟨n0,n1,n2,n3,n4,n5,n6,n7,ln⟩:=B9 Ab;clear h1 k1 Ab;have Ay:=A0 (fun(W:World) (hb:Below w1.heap.size w1 W)=>And.intro ((fun hs=>MC.Ms.pop hs) (A9.o.below hb).1) (A5.o.trans (Ag (A9.o.below hb).2)));unfold Ac at Ay;go_wp2_with fail
 refine((Ay.o _ (by repeat (first|exact Below.refl _ _|refine Below.alloc ?_ (by simp) _|refine Below.setCell ?_ (by simp) _|refine Below.drew ?_))).1).mono ?_;rintro e w2 ⟨rfl,h2,k2⟩;have Ak:=A0 h2.back;have Aa:Hid (A3 (dx D X) w w2):=(Ay.o _ (by repeat (first|exact Below.refl _ _|refine Below.alloc ?_ (by simp) _|refine Below.setCell ?_ (by simp) _|refine Below.drew ?_))).2.trans (Ag k2);clear h2 k2;unfold Bg;go_wp2;go_end0;exact⟨rfl,Ak.o,Aa.o⟩
theorem Ajt(h:C.Ms D X β w m)(i:Ad)(ho:i.op=9)(hk:m.top.k=1)(hy:m.top.y=false)(ha:0<=i.arg):Calls Tryz.prog 156 #[.pointer (some ⟨C.mb,0,none⟩),Ac i] w (MP C D X β w (m.jump i.arg) (.tuple #[])):=by
 obtain⟨w0,Aq,Av,Ae,As,Aw,n0,n1,n2,n3,n4,n5,n6,n7,ln,lb,Ce⟩:=h.Ch i;clear h;have HT:=A0 Av.o.top;have tk:(((m.top.k:Nat):Int) !=1)=false:=by rw[hk];rfl
 have t10:((i.op:Int)==10)=false:=by rw[ho];rfl
 unfold Bg at HT;clear ho hk;unfold Ac;go_enter Tryz.func156,Tryz.ntmps156;go_wp2_with fail
 rw[←Aq.o];refine HT.o.mono ?_;rintro e w1 ⟨rfl,h1,k1⟩;have Bt:=h1.B7;have A9:=A0 h1;have A5:Hid (A3 (dx D X) w w1):=Ae.o.trans (Ag k1);have Ab:=(k1.block _ As.o).trans Aw.o;have Br:=A0 Ab;clear n0 n1 n2 n3 n4 n5 n6 n7 ln;obtain⟨n0,n1,n2,n3,n4,n5,n6,n7,ln⟩:=B9 Ab;clear h1 k1 Ab;obtain⟨⟨v7,c7⟩,f7⟩:=A9.o.Sk;obtain⟨s1,s2⟩:=A9.o.Ra i.arg ha;have HQ:=A0 (fun(W:World) (hb:Below (w1.setCell ⟨C.mb,7,none⟩ (.int .i64 i.arg)).heap.size (w1.setCell ⟨C.mb,7,none⟩ (.int .i64 i.arg)) W)=>And.intro (s1.below hb).1.back (A5.o.trans ((Ag s2).trans (Ag (s1.below hb).2))));clear s1 s2;go_wp2;go_end0;exact⟨rfl,HQ.o _ (Below.alloc (Below.refl _ _) (Nat.le_refl _) _)⟩
theorem Ail(h:C.Ms D X β w m)(i:Ad)(ho:i.op=10)(hk:m.top.k=1)(hy:m.top.y=true)(ha:0<=i.arg):Calls Tryz.prog 156 #[.pointer (some ⟨C.mb,0,none⟩),Ac i] w (MP C D X β w (m.jump i.arg) (.tuple #[])):=by
 obtain⟨w0,Aq,Av,Ae,As,Aw,n0,n1,n2,n3,n4,n5,n6,n7,ln,lb,Ce⟩:=h.Ch i;clear h;have HT:=A0 Av.o.top;have tk:(((m.top.k:Nat):Int) !=1)=false:=by rw[hk];rfl
 have t10:((i.op:Int)==10)=true:=by rw[ho];rfl
 unfold Bg at HT;clear ho hk;unfold Ac;go_enter Tryz.func156,Tryz.ntmps156;go_wp2_with fail
 rw[←Aq.o];refine HT.o.mono ?_;rintro e w1 ⟨rfl,h1,k1⟩;have Bt:=h1.B7;have A9:=A0 h1;have A5:Hid (A3 (dx D X) w w1):=Ae.o.trans (Ag k1);have Ab:=(k1.block _ As.o).trans Aw.o;have Br:=A0 Ab;clear n0 n1 n2 n3 n4 n5 n6 n7 ln;obtain⟨n0,n1,n2,n3,n4,n5,n6,n7,ln⟩:=B9 Ab;clear h1 k1 Ab;obtain⟨⟨v7,c7⟩,f7⟩:=A9.o.Sk;obtain⟨s1,s2⟩:=A9.o.Ra i.arg ha;have HQ:=A0 (fun(W:World) (hb:Below (w1.setCell ⟨C.mb,7,none⟩ (.int .i64 i.arg)).heap.size (w1.setCell ⟨C.mb,7,none⟩ (.int .i64 i.arg)) W)=>And.intro (s1.below hb).1.back (A5.o.trans ((Ag s2).trans (Ag (s1.below hb).2))));clear s1 s2;go_wp2;go_end0;exact⟨rfl,HQ.o _ (Below.alloc (Below.refl _ _) (Nat.le_refl _) _)⟩
theorem Adt(h:C.Ms D X β w m)(i:Ad)(ho:i.op=10)(hk:m.top.k=1)(hy:m.top.y=false):Calls Tryz.prog 156 #[.pointer (some ⟨C.mb,0,none⟩),Ac i] w (MP C D X β w (m.pop) (.tuple #[])):=by
 obtain⟨w0,Aq,Av,Ae,As,Aw,n0,n1,n2,n3,n4,n5,n6,n7,ln,lb,Ce⟩:=h.Ch i;clear h;have HT:=A0 Av.o.top;have tk:(((m.top.k:Nat):Int) !=1)=false:=by rw[hk];rfl
 have t10:((i.op:Int)==10)=true:=by rw[ho];rfl
 unfold Bg at HT;clear ho hk;unfold Ac;go_enter Tryz.func156,Tryz.ntmps156;go_wp2_with fail
 rw[←Aq.o];refine HT.o.mono ?_;rintro e w1 ⟨rfl,h1,k1⟩;have Bt:=h1.B7;have A9:=A0 h1;have A5:Hid (A3 (dx D X) w w1):=Ae.o.trans (Ag k1);have Ab:=(k1.block _ As.o).trans Aw.o;have Br:=A0 Ab;clear n0 n1 n2 n3 n4 n5 n6 n7 ln;obtain⟨n0,n1,n2,n3,n4,n5,n6,n7,ln⟩:=B9 Ab;clear h1 k1 Ab;have Ay:=A0 (fun(W:World) (hb:Below w1.heap.size w1 W)=>And.intro ((fun hs=>MC.Ms.pop hs) (A9.o.below hb).1) (A5.o.trans (Ag (A9.o.below hb).2)));unfold Ac at Ay;go_wp2_with fail
 refine((Ay.o _ (by repeat (first|exact Below.refl _ _|refine Below.alloc ?_ (by simp) _|refine Below.setCell ?_ (by simp) _|refine Below.drew ?_))).1).mono ?_;rintro e w2 ⟨rfl,h2,k2⟩;have Ak:=A0 h2.back;have Aa:Hid (A3 (dx D X) w w2):=(Ay.o _ (by repeat (first|exact Below.refl _ _|refine Below.alloc ?_ (by simp) _|refine Below.setCell ?_ (by simp) _|refine Below.drew ?_))).2.trans (Ag k2);clear h2 k2;unfold Bg;go_wp2;go_end0;exact⟨rfl,Ak.o,Aa.o⟩
end
end Go.Proofs.YtjdlndhfaaolaaaGreatDoor
