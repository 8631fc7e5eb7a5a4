import Derived.Test.YtjdlndhfaaolaaaGreatDoorT09
import Derived.Test.YtjdlndhfaaolaaaGreatDoorT21
import Derived.Test.YtjdlndhfaaolaaaGreatDoorT23
set_option maxHeartbeats 20000000
namespace Go.Proofs.YtjdlndhfaaolaaaGreatDoor
section
set_option maxRecDepth 100000
open Go.RowKit
open Go.Deep (BT)
theorem z03a {P:Prop} (h:P:=by
  repeat (first|exact Below.refl _ _|refine Below.alloc ?_ z56a _|refine Below.setCell ?_ z56a _|refine Below.drew ?_)):P:=h
theorem U8(n:Int)(w:World):Calls Tryz.prog 85 #[.int .i64 n] w fun e w'=>e=.returned (.agg #[.int .i64 2,.bool false,.int .i64 n,.string ⟨#[]⟩,.pointer none])/\Below w.heap.size w w':=by
 go_enter Tryz.func85,Tryz.ntmps85;go_wp2;refine bodyPost_ret (v:=.agg #[.int .i64 2,.bool false,.int .i64 n,.string ⟨#[]⟩,.pointer none]) (by simp[results,Tryz.results85,go_sem]) rfl ⟨rfl,?_⟩;exact z03a
theorem A1w(s:ByteArray)(w:World):Calls Tryz.prog 86 #[.string s] w fun e w'=>e=.returned (.agg #[.int .i64 3,.bool false,.int .i64 0,.string s,.pointer none])/\Below w.heap.size w w':=by
 go_enter Tryz.func86,Tryz.ntmps86;go_wp2;refine bodyPost_ret (v:=.agg #[.int .i64 3,.bool false,.int .i64 0,.string s,.pointer none]) (by simp[results,Tryz.results86,go_sem]) rfl ⟨rfl,?_⟩;exact z03a
theorem Xg(b:Bool)(w:World):Calls Tryz.prog 87 #[.bool b] w fun e w'=>e=.returned (.agg #[.int .i64 1,.bool b,.int .i64 0,.string ⟨#[]⟩,.pointer none])/\Below w.heap.size w w':=by
 go_enter Tryz.func87,Tryz.ntmps87;go_wp2;refine bodyPost_ret (v:=.agg #[.int .i64 1,.bool b,.int .i64 0,.string ⟨#[]⟩,.pointer none]) (by simp[results,Tryz.results87,go_sem]) rfl ⟨rfl,?_⟩;exact z03a
theorem Sq{D:Nat->Prop}{wb te:Nat}{w:World}{fs gs ls ps:Value}{slots:Nat}{st:List Af}(h:K2 D wb te w fs gs ls ps slots st)(hn:st.length<=900000)(v:PV) :
  Calls Tryz.prog 84 #[.pointer (some ⟨wb,0,none⟩),.agg #[.int .i64 (v.k:Nat),.bool v.y,.int .i64 v.n,.string ⟨v.t.toArray⟩,.pointer none]] w fun e w'=>e=.returned (.tuple #[])/\K2 D wb te w' fs gs ls ps slots (st++[⟨0,0,0,v⟩])/\A3 D w w':=by
 have h0:K2 D wb te (w.alloc (.cells #[.int .i64 (v.k:Nat),.bool v.y,.int .i64 v.n,.string ⟨v.t.toArray⟩,.pointer none] 225)) fs gs ls ps slots st:=h.keep (fun g hg=>Below.heap_alloc _ _ _ hg) z56a;have Bj:A3 D w (w.alloc (.cells #[.int .i64 (v.k:Nat),.bool v.y,.int .i64 v.n,.string ⟨v.t.toArray⟩,.pointer none] 225)):=by
  obtain⟨_,_,_,h⟩:=h;exact(A3.refl D w).alloc h.lo _
 have Fc:=heap_alloc_new w (.cells #[.int .i64 (v.k:Nat),.bool v.y,.int .i64 v.n,.string ⟨v.t.toArray⟩,.pointer none] 225);clear h;generalize hW:w.alloc (.cells #[.int .i64 (v.k:Nat),.bool v.y,.int .i64 v.n,.string ⟨v.t.toArray⟩,.pointer none] 225)=w0 at *;generalize hxb:w.heap.size=xb at *;have HW:=A0 hW;have HXb:=A0 hxb;clear hW hxb;have Ah:=A0 Bj;obtain⟨sa,sn,sc,h⟩:=h0;have c:=A2 h.cell 5 _ rfl;have lb:=A5 h.cell;have hv:sn=st.length:=(Cg h.own).1;subst hv;have x0:=A2 Fc 0 _ rfl;have x1:=A2 Fc 1 _ rfl;have x2:=A2 Fc 2 _ rfl;have x3:=A2 Fc 3 _ rfl;have x4:=A2 Fc 4 _ rfl;have lx:=A5 Fc;have hown:w0.drew.ownsRow 0 251 8 (.slice sa st.length sc) st.length (El st):=B8 h.own (fun _ _ _=>rfl);have HH:=A0 h;have HP:=A0 (fun(w1:World) (g cap:Nat)=>h.A34 ⟨0,0,0,v⟩ (w1:=w1) (g:=g) (cap:=cap));clear h Bj Fc;go_enter Tryz.func84,Tryz.ntmps84;go_wp2;rw[HW.o,HXb.o];go_region_law (refine N6 _ w0.heap.size #[.int .i64 0,.int .i64 0,.int .i64 0,.int .i64 (v.k:Nat),.bool v.y,.int .i64 v.n,.string ⟨v.t.toArray⟩,.pointer none] 251 (heap_alloc_new w0.drew _) rfl (.tmp 9) (.tmp 12) 96 rfl 0 8 72 _ Tryz.underlying96 Wv rfl z51a (.slice sa st.length sc) st.length (El st) rfl rfl (hown.alloc _) rfl (fun v hv=>by simp at hv;rcases hv with rfl|rfl|rfl|rfl|rfl|rfl|rfl|rfl <;> rfl) z51a z51a (Nat.zero_le _) ?_;intro g cap w1 F0 hgrow' hat' hg;have F5:=Lx (World.grownBy_alloc w0.drew _ none) hgrow';have hgrow:w0.grownBy w1 (Value.slice sa st.length sc).ownBlock:=⟨F5.os,F5.tape,F5.output,F5.size,F5.block⟩;clear F5;have hat:(Value.slice sa st.length sc).ownBlock=some g\/w0.heap.size<=g:=hat'.imp id (fun e=>by rw[e];simp);have A1:=(hgrow.block wb lb (fun e=>(HH.o.D7 wb e.symm).2 rfl)).trans HH.o.cell;have c1:=A2 A1 5 _ rfl;have f1:=Bh A1;have Bp:=A5 A1;have Bz:=A0 (HP.o w1 g cap F0 hgrow hat);clear A1 F0 hgrow hat hgrow' hat')
 all_goals go_wp2
 all_goals go_end0
 all_goals exact⟨rfl,⟨_,_,_,Bz.o.1⟩,Ah.o.trans Bz.o.2⟩
theorem Hl.Af8{D:Nat->Prop}{w:World}{wb te:Nat}{fs gs ls ps:Value}{slots:Nat}{st:List Af}{g sn sc:Nat}(h:Hl D wb te w fs gs ls ps slots st (some ⟨g,0,none⟩) sn sc)(j:Nat)(hj:j<st.length)(a:Int) :
  Hl D wb te (w.setCell ⟨g,j*8+1,none⟩ (.int .i64 a)) fs gs ls ps slots (M8 j a st) (some ⟨g,0,none⟩) sn sc/\A3 D w (w.setCell ⟨g,j*8+1,none⟩ (.int .i64 a)):=by
 have hg:=h.D7 g rfl;obtain⟨hl,⟨h2,h3⟩|⟨g',cap,cur,hv,_,hb,hcap,hmx,hsz,ht⟩⟩:=h.own
 ·cases h2
 injection hv with e1 e2 e3;injection e1 with e1;injection e1 with e1;subst e1 e2 e3;refine⟨⟨(Below.heap_setCell _ _ _ _ (by exact fun e=>hg.2 e.symm)).trans h.cell,⟨?_,.inr ⟨g,sc,cur.setIfInBounds (j*8+1) (.int .i64 a),?_,Nat.zero_le _,heap_set hb _,?_,hmx,?_,?_⟩⟩,h.Gv,h.D7,fun k hk=>by have:=h.lo k hk;simp[World.setCell];exact this⟩,(A3.refl D w).set hg.1 _⟩
 ·rw[Ae5,Ru]
 ·rw[Ru]
 ·rw[Ru];exact hcap
 ·simpa using hsz
 ·rw[Ru,Ae4 a st j hj,Array.toList_setIfInBounds,<-ht,List.take_set]
theorem V4{D:Nat->Prop}{wb te:Nat}{w:World}{fs gs ls ps:Value}{slots:Nat}{st:List Af}(h:K2 D wb te w fs gs ls ps slots st)(j:Nat)(hj:j<st.length) :
  Calls Tryz.prog 140 #[.pointer (some ⟨wb,0,none⟩),.int .i64 (j:Nat)] w fun e w'=>e=.returned (.tuple #[])/\K2 D wb te w' fs gs ls ps slots (M8 j (st.length:Nat) st)/\A3 D w w':=by
 have HHere:=A0 (Ws (h.keep (w':=w.drew) (fun _ _=>rfl) (Nat.le_refl _)));obtain⟨sa,sn,sc,h⟩:=h;have c:=A2 h.cell 5 _ rfl;have lb:=A5 h.cell;have hv:sn=st.length:=(Cg h.own).1;subst hv;obtain⟨hl,⟨h2,h3⟩|⟨g,cap,cur,hv,_,hb,hcap,hmx,hsz,ht⟩⟩:=h.own
 ·omega
 injection hv with e1 _ e3;subst e1 e3;have HL:=A0 (h.Af8 j hj (st.length:Nat));have fg:=Bh hb;have lg:=A5 hb;have cg:w.cell? ⟨g,j*8+1,none⟩=some cur[j*8+1]:=by rw[cell_of_row w g (j*8+1) cur _ _ hb,Array.getElem?_eq_getElem z51a]
 generalize cur[j*8+1]=oldc at cg;have HB:Hid (A3 D w w.drew):=⟨rfl,rfl,rfl,Nat.le_refl _,fun _ _=>rfl⟩;clear h hb ht hl hsz hmx;go_enter Tryz.func140,Tryz.ntmps140;go_wp2;refine Ic 10 (by kernel_rfl) (by kernel_rfl) ?_;simp only[List.take_succ_cons,List.take_zero,List.drop_succ_cons,List.drop_zero];iterate 7 (refine Ez (fun K' hK'=>?_);go_simp;refine hK' _ ?_;clear hK' K')
 refine Ez (fun K' hK'=>?_);go_simp;refine⟨_,HHere.o,hK' _ ?_⟩;clear hK' K';iterate 2 (refine Ez (fun K' hK'=>?_);go_simp;refine hK' _ ?_;clear hK' K')
 refine Ib ?_;go_wp2;go_end0;exact⟨rfl,K2.keep ⟨_,_,_,HL.o.1⟩ (fun _ _=>rfl) (Nat.le_refl _),HL.o.2.trans ⟨rfl,rfl,rfl,Nat.le_refl _,fun _ _=>rfl⟩⟩
theorem Apy{D:Nat->Prop}{wb te:Nat}{w:World}{gs ls ps:Value}{slots:Nat}{st:List Af}{fns:List (Nm×Nat)}{fa:Option Addr}{fn fc:Nat}(h:K2 D wb te w (.slice fa fn fc) gs ls ps slots st)(hf:I7 D w fns fa fn fc)(s:Nm) :
  Calls Tryz.prog 142 #[.pointer (some ⟨wb,0,none⟩),.string ⟨s.toArray⟩] w fun e w'=>e=.returned (.int .i64 (Nr fns s))/\w'=w:=by
 obtain⟨sa,sn,sc,h⟩:=h;have c:=A2 h.cell 0 _ rfl;have lb:=A5 h.cell;have hfew:=hf.Bw;have hcap:=hf.cap;have hlen:=hf.len;subst hlen;have HH:=A0 hf;clear h hf;go_enter Tryz.func142,Tryz.ntmps142;go_wp2;go_loopg [12] fns.length (fun q v wr=>∃i:Nat,v=.int .i64 i/\i+q=fns.length/\(∀j,j<i->∀h':j<fns.length,fns[j].1≠s)/\wr=w)
 case atStart=>exact⟨0,rfl,by omega,fun i hi=>by omega,rfl⟩
 case round=>
  obtain⟨i,rfl,hik,hno,rfl⟩:=hrel;have HNo:=A0 hno;clear hno;by_cases hlt:i<fns.length
  ·obtain⟨g,pb,pa,pc,rfl,_,lg,cg,_,lp,c1,c2⟩:=HH.o.at' i hlt;have HI:Hid (fns[i].1=s->Nr fns s=(i:Nat)):=by
    intro e;unfold Nr;rw[A0f s (fns.map Prod.fst) i (by simpa using hlt) (by simpa using e) (fun j hj hji=>by simpa using HNo.o j hji z64a)]
   have HS:Hid (fns[i].1≠s->∀j,j<i+1->∀h':j<fns.length,fns[j].1≠s):=by
    exact z4ba
   generalize fns[i]=x at *;cases hq:(x.1==s)
   ·have HQ:Hid (x.1≠s):=by rw[beq_eq_false_iff_ne]at hq;exact hq
    exact z2ia
   ·have HQ:Hid (x.1=s):=A0 (by simpa using hq);have HE:=A0 (HI.o HQ.o);go_wp2;go_ret;exact⟨Xt HE.o.symm,rfl⟩
  ·have HT:Hid (Nr fns s=-1):=by
    show _=_;unfold Nr;rw[A0e s (fns.map Prod.fst) (fun j hj=>by simpa using HNo.o j (by simp at hj;omega) z64a)]
   go_wp2;go_ret;exact⟨Xt HT.o.symm,rfl⟩
theorem EC.Ex.stk{K:EC}{D:Nat->Prop}{w:World}{la:Option Addr}{ln lc:Nat}{ps:Value}{e:Em}{sa:Option Addr}{sn sc:Nat}(h:K.Ex D w la ln lc ps e)(hv:Hl D K.wb K.te w (.slice K.fa K.fn K.fc) (.slice K.ga K.gn K.gc) (.slice la ln lc) ps e.slots e.st sa sn sc) :
  G4 9 K.wb 2 w #[.slice K.fa K.fn K.fc,.slice K.ga K.gn K.gc,.slice la ln lc,ps,.int .i64 (e.slots:Nat),.slice sa sn sc] K.te la ln lc (Dg e.loc):=
 ⟨hv.cell,rfl,by have:=h.lr.1;rwa [show e.loc.length=(Dg e.loc).length by simp[Dg]]at this,fun e=>hv.Gv (h.lr.2 _ e)⟩
theorem A1v{l:List Nm}{i:Nat}(h:i<l.length):(Dg l)[i]'(by simp[Dg];exact h)=.string ⟨l[i].toArray⟩:=by simp[Dg,Nv]
theorem Ol(l:List Nm):(Dg l).length=l.length:=by simp[Dg]
theorem z2sa {P:Prop} (h:P:=by
  have Aa:=A0 A8;clear B5 A8;go_wp2;refine bodyPost_ret (v:=.tuple #[]) (by simp[results,Tryz.results88,go_sem]) rfl ?_;rw[HV.o];exact⟨rfl,Aj.o,Aa.o⟩):P:=h
theorem A4y{K:EC}{D:Nat->Prop}{w:World}{la:Option Addr}{ln lc:Nat}{ps:Value}{e:Em}(h:K.Ex D w la ln lc ps e)(hn:e.st.length<=900000)(s:Nm)(lo gb:Nat) :
  Calls Tryz.prog 88 #[.pointer (some ⟨K.wb,0,none⟩),.string ⟨s.toArray⟩,.int .i64 (lo:Nat),.int .i64 (gb:Nat)] w fun r w'=>r=.returned (.tuple #[])/\K.Ex D w' la ln lc ps (e.var K.gl s lo gb)/\A3 D w w':=by
 have HX:=A0 h;obtain⟨sa,sn,sc,hv⟩:=h.ew;have hfew:=h.Bw;obtain⟨c0,c1,c2,c3,c4,c5,fz,lb⟩:=Td hv.cell;have HL:=A0 (Qv (h.stk hv));rw[Ol]at HL;have HA:=A0 (fun i hi=>A3j (h.stk hv) i hi);have hgr:=h.gr.1;have hgn:K.gn=K.gl.length:=(Cg hgr).1;obtain⟨ga,hga⟩:∃ga,ga=K.ga:=⟨_,rfl⟩;rw[<-hga]at c1 hgr;have HGr:=A0 hgr;have HSt:=A0 (fun(op:Nat) (arg:Int)=>Ko h.ew hn op arg 0);rw[hgn]at c1;clear h hv hgr hgn c0 c2 c3 c4 c5 fz hga;go_enter Tryz.func88,Tryz.ntmps88;go_wp2_with fail
 refine HL.o.mono ?_;rintro r w ⟨rfl,rfl⟩;go_wp2;go_loopg [8] e.loc.length (fun k v wr=>v=.int .i64 ((k:Int)-1)/\k<=e.loc.length/\(∀j (h:j<e.loc.length),k<=j->e.loc[j]≠s)/\wr=w)
 case atStart=>exact⟨rfl,Nat.le_refl _,fun j h h'=>by omega,rfl⟩
 case round=>
  obtain⟨rfl,hk,hno,rfl⟩:=hrel;have HNo:=A0 hno;clear hno;by_cases hlt:0<gk
  ·obtain⟨i,rfl⟩:∃i,gk=i+1:=⟨gk-1,by omega⟩;have hi:i<e.loc.length:=by omega
   have HA1:=A0 (HA.o i (by rw[Ol];exact hi));rw[A1v hi]at HA1;have hpi:(((i+1:Nat):Int)-1)=(i:Int):=by omega
   rw[hpi];have HI:Hid (e.loc[i]=s->Nt s e.loc=some i):=fun e1=>Afb s _ i hi e1 (fun j hj hij=>HNo.o j hj z51a);have HS:Hid (e.loc[i]≠s->∀j (h:j<e.loc.length),i<=j->e.loc[j]≠s):=by
    intro hn j hj hij e2;by_cases hjn:j=i
    ·subst hjn;exact hn e2
    ·exact HNo.o j hj z51a e2
   generalize e.loc[i]=x at *;clear hpi;cases hq:(x==s)
   ·have HQ:Hid (x≠s):=by rw[beq_eq_false_iff_ne]at hq;exact hq
    go_wp2_with fail
    refine HA1.o.mono ?_;rintro r w' ⟨rfl,rfl⟩;go_wp2;go_roundg i
    case measure=>omega
    case rel=>exact⟨rfl,by omega,HS.o HQ.o,rfl⟩
   ·have HQ:Hid (x=s):=A0 (by simpa using hq);have HV:Hid (e.var K.gl s lo gb=e.step lo (i:Nat) 0):=by
     show _=_;unfold Em.var;rw[HI.o HQ.o]
    have HSt1:=A0 (HSt.o lo (i:Nat));go_wp2_with fail
    refine HA1.o.mono ?_;rintro r w' ⟨rfl,rfl⟩;go_wp2_with fail
    refine HSt1.o.mono ?_;rintro r w2 ⟨rfl,B5,A8⟩;have Aj:=A0 (HX.o.next (e':=e.step lo (i:Nat) 0) A8 B5 rfl);exact z2sa
  ·obtain rfl:gk=0:=by omega
   have HLn:Hid (Nt s e.loc=none):=A16 s _ (fun j hj=>HNo.o j hj z51a);clear hlt HNo;go_wp2;go_loopg [36] K.gl.length (fun q v wq=>∃i:Nat,v=.int .i64 i/\i+q=K.gl.length/\(∀j,j<i->∀h':j<K.gl.length,K.gl[j]≠s)/\wq=wr)
   case atStart=>exact⟨0,rfl,by omega,fun i hi=>by omega,rfl⟩
   case round=>
    obtain⟨i,rfl,hik,hno,rfl⟩:=hrel;have HNo:=A0 hno;clear hno;by_cases hlt:i<K.gl.length
    ·obtain⟨g,rfl,_,hcap,lg,hcell⟩:=G2 HGr.o z51a;have d0:=hcell i (.string ⟨K.gl[i].toArray⟩) (by rw[List.getElem?_eq_getElem (by rw[Ol];exact hlt),A1v hlt]);have HI:Hid (K.gl[i]=s->Nq s K.gl=some i):=fun e1=>A0f s _ i hlt e1 (fun j hj hij=>HNo.o j hij hj);have HS:Hid (K.gl[i]≠s->∀j,j<i+1->∀h':j<K.gl.length,K.gl[j]≠s):=by
      intro hn j hj h' e2;by_cases hjn:j=i
      ·subst hjn;exact hn e2
      ·exact HNo.o j z51a h' e2
     clear hcell;generalize K.gl[i]=x at *;cases hq:(x==s)
     ·have HQ:Hid (x≠s):=by rw[beq_eq_false_iff_ne]at hq;exact hq
      exact z2ia
     ·have HQ:Hid (x=s):=A0 (by simpa using hq);have HV:Hid (e.var K.gl s lo gb=e.step gb (i:Nat) 0):=by
       show _=_;unfold Em.var;rw[HLn.o,HI.o HQ.o]
      have HSt1:=A0 (HSt.o gb (i:Nat));go_wp2_with fail
      refine HSt1.o.mono ?_;rintro r w2 ⟨rfl,B5,A8⟩;have Aj:=A0 (HX.o.next (e':=e.step gb (i:Nat) 0) A8 B5 rfl);exact z2sa
    ·have HV:Hid (e.var K.gl s lo gb=e):=by
      show _=_;unfold Em.var;rw[HLn.o,A0e s _ (fun j hj=>HNo.o j z51a hj)]
     go_wp2;go_end0;rw[HV.o];exact⟨rfl,HX.o,A3.refl _ _⟩
theorem L7(t:TypeId)(h:t≠220)(v:Value)(w:World):(Instr.typeAssert (.iface t v) 150 220 true).run Tryz.prog w=.ok (.tuple #[.pointer none,.bool false]) w:=Bl Tryz.underlying220 (by kernel_rfl) h v w
theorem Ar3(v:Value)(w:World):(Instr.typeAssert (.iface 220 v) 150 220 true).run Tryz.prog w=.ok (.tuple #[v,.bool true]) w:=E3 Tryz.underlying220 v w
theorem Lo(t:TypeId)(h:t≠229)(v:Value)(w:World):(Instr.typeAssert (.iface t v) 150 229 true).run Tryz.prog w=.ok (.tuple #[.pointer none,.bool false]) w:=Bl Tryz.underlying229 (by kernel_rfl) h v w
theorem Ar8(v:Value)(w:World):(Instr.typeAssert (.iface 229 v) 150 229 true).run Tryz.prog w=.ok (.tuple #[v,.bool true]) w:=E3 Tryz.underlying229 v w
theorem Ml(t:TypeId)(h:t≠233)(v:Value)(w:World):(Instr.typeAssert (.iface t v) 150 233 true).run Tryz.prog w=.ok (.tuple #[.pointer none,.bool false]) w:=Bl Tryz.underlying233 (by kernel_rfl) h v w
theorem A4z(v:Value)(w:World):(Instr.typeAssert (.iface 233 v) 150 233 true).run Tryz.prog w=.ok (.tuple #[v,.bool true]) w:=E3 Tryz.underlying233 v w
theorem Nb(t:TypeId)(h:t≠237)(v:Value)(w:World):(Instr.typeAssert (.iface t v) 150 237 true).run Tryz.prog w=.ok (.tuple #[.pointer none,.bool false]) w:=Bl Tryz.underlying237 (by kernel_rfl) h v w
theorem Ar6(v:Value)(w:World):(Instr.typeAssert (.iface 237 v) 150 237 true).run Tryz.prog w=.ok (.tuple #[v,.bool true]) w:=E3 Tryz.underlying237 v w
theorem Nc(t:TypeId)(h:t≠238)(v:Value)(w:World):(Instr.typeAssert (.iface t v) 150 238 true).run Tryz.prog w=.ok (.tuple #[.pointer none,.bool false]) w:=Bl Tryz.underlying238 (by kernel_rfl) h v w
theorem A52(v:Value)(w:World):(Instr.typeAssert (.iface 238 v) 150 238 true).run Tryz.prog w=.ok (.tuple #[v,.bool true]) w:=E3 Tryz.underlying238 v w
theorem Oz(t:TypeId)(h:t≠241)(v:Value)(w:World):(Instr.typeAssert (.iface t v) 150 241 true).run Tryz.prog w=.ok (.tuple #[.pointer none,.bool false]) w:=Bl Tryz.underlying241 (by kernel_rfl) h v w
theorem Ar2(v:Value)(w:World):(Instr.typeAssert (.iface 241 v) 150 241 true).run Tryz.prog w=.ok (.tuple #[v,.bool true]) w:=E3 Tryz.underlying241 v w
theorem R3(t:TypeId)(h:t≠244)(v:Value)(w:World):(Instr.typeAssert (.iface t v) 150 244 true).run Tryz.prog w=.ok (.tuple #[.pointer none,.bool false]) w:=Bl Tryz.underlying244 (by kernel_rfl) h v w
theorem A51(v:Value)(w:World):(Instr.typeAssert (.iface 244 v) 150 244 true).run Tryz.prog w=.ok (.tuple #[v,.bool true]) w:=E3 Tryz.underlying244 v w
theorem Ss(t:TypeId)(h:t≠248)(v:Value)(w:World):(Instr.typeAssert (.iface t v) 150 248 true).run Tryz.prog w=.ok (.tuple #[.pointer none,.bool false]) w:=Bl Tryz.underlying248 (by kernel_rfl) h v w
theorem Ar0(v:Value)(w:World):(Instr.typeAssert (.iface 248 v) 150 248 true).run Tryz.prog w=.ok (.tuple #[v,.bool true]) w:=E3 Tryz.underlying248 v w
theorem V6(t:TypeId)(h:t≠296)(v:Value)(w:World):(Instr.typeAssert (.iface t v) 150 296 true).run Tryz.prog w=.ok (.tuple #[.pointer none,.bool false]) w:=Bl Tryz.underlying296 (by kernel_rfl) h v w
theorem Ar5(v:Value)(w:World):(Instr.typeAssert (.iface 296 v) 150 296 true).run Tryz.prog w=.ok (.tuple #[v,.bool true]) w:=E3 Tryz.underlying296 v w
theorem Yp(t:TypeId)(h:t≠301)(v:Value)(w:World):(Instr.typeAssert (.iface t v) 150 301 true).run Tryz.prog w=.ok (.tuple #[.pointer none,.bool false]) w:=Bl Tryz.underlying301 (by kernel_rfl) h v w
theorem Ar1(v:Value)(w:World):(Instr.typeAssert (.iface 301 v) 150 301 true).run Tryz.prog w=.ok (.tuple #[v,.bool true]) w:=E3 Tryz.underlying301 v w
theorem A53(t:TypeId)(h:t≠304)(v:Value)(w:World):(Instr.typeAssert (.iface t v) 150 304 true).run Tryz.prog w=.ok (.tuple #[.pointer none,.bool false]) w:=Bl Tryz.underlying304 (by kernel_rfl) h v w
theorem Ar4(v:Value)(w:World):(Instr.typeAssert (.iface 304 v) 150 304 true).run Tryz.prog w=.ok (.tuple #[v,.bool true]) w:=E3 Tryz.underlying304 v w
theorem Ar9(t:TypeId)(h:t≠307)(v:Value)(w:World):(Instr.typeAssert (.iface t v) 150 307 true).run Tryz.prog w=.ok (.tuple #[.pointer none,.bool false]) w:=Bl Tryz.underlying307 (by kernel_rfl) h v w
theorem Ar7(v:Value)(w:World):(Instr.typeAssert (.iface 307 v) 150 307 true).run Tryz.prog w=.ok (.tuple #[v,.bool true]) w:=E3 Tryz.underlying307 v w
theorem A50(v:Value)(w:World):(Instr.typeAssert (.iface 310 v) 150 310 true).run Tryz.prog w=.ok (.tuple #[v,.bool true]) w:=E3 Tryz.underlying310 v w
theorem A3z(t:TypeId)(h:t≠143)(v:Value)(w:World):(Instr.typeAssert (.iface t v) 142 143 true).run Tryz.prog w=.ok (.tuple #[.pointer none,.bool false]) w:=Bl Tryz.underlying143 (by kernel_rfl) h v w
theorem Ale(v:Value)(w:World):(Instr.typeAssert (.iface 143 v) 142 143 true).run Tryz.prog w=.ok (.tuple #[v,.bool true]) w:=E3 Tryz.underlying143 v w
theorem N4(t:TypeId)(h:t≠145)(v:Value)(w:World):(Instr.typeAssert (.iface t v) 142 145 true).run Tryz.prog w=.ok (.tuple #[.pointer none,.bool false]) w:=Bl Tryz.underlying145 (by kernel_rfl) h v w
theorem A3p(v:Value)(w:World):(Instr.typeAssert (.iface 145 v) 142 145 true).run Tryz.prog w=.ok (.tuple #[v,.bool true]) w:=E3 Tryz.underlying145 v w
theorem Ov(t:TypeId)(h:t≠253)(v:Value)(w:World):(Instr.typeAssert (.iface t v) 142 253 true).run Tryz.prog w=.ok (.tuple #[.pointer none,.bool false]) w:=Bl Tryz.underlying253 (by kernel_rfl) h v w
theorem Alf(v:Value)(w:World):(Instr.typeAssert (.iface 253 v) 142 253 true).run Tryz.prog w=.ok (.tuple #[v,.bool true]) w:=E3 Tryz.underlying253 v w
theorem Pn(t:TypeId)(h:t≠255)(v:Value)(w:World):(Instr.typeAssert (.iface t v) 142 255 true).run Tryz.prog w=.ok (.tuple #[.pointer none,.bool false]) w:=Bl Tryz.underlying255 (by kernel_rfl) h v w
theorem Ali(v:Value)(w:World):(Instr.typeAssert (.iface 255 v) 142 255 true).run Tryz.prog w=.ok (.tuple #[v,.bool true]) w:=E3 Tryz.underlying255 v w
theorem Qw(t:TypeId)(h:t≠257)(v:Value)(w:World):(Instr.typeAssert (.iface t v) 142 257 true).run Tryz.prog w=.ok (.tuple #[.pointer none,.bool false]) w:=Bl Tryz.underlying257 (by kernel_rfl) h v w
theorem Alh(v:Value)(w:World):(Instr.typeAssert (.iface 257 v) 142 257 true).run Tryz.prog w=.ok (.tuple #[v,.bool true]) w:=E3 Tryz.underlying257 v w
theorem Sh(t:TypeId)(h:t≠259)(v:Value)(w:World):(Instr.typeAssert (.iface t v) 142 259 true).run Tryz.prog w=.ok (.tuple #[.pointer none,.bool false]) w:=Bl Tryz.underlying259 (by kernel_rfl) h v w
theorem Alb(v:Value)(w:World):(Instr.typeAssert (.iface 259 v) 142 259 true).run Tryz.prog w=.ok (.tuple #[v,.bool true]) w:=E3 Tryz.underlying259 v w
theorem Uu(t:TypeId)(h:t≠264)(v:Value)(w:World):(Instr.typeAssert (.iface t v) 142 264 true).run Tryz.prog w=.ok (.tuple #[.pointer none,.bool false]) w:=Bl Tryz.underlying264 (by kernel_rfl) h v w
theorem Alc(v:Value)(w:World):(Instr.typeAssert (.iface 264 v) 142 264 true).run Tryz.prog w=.ok (.tuple #[v,.bool true]) w:=E3 Tryz.underlying264 v w
theorem Y8(t:TypeId)(h:t≠265)(v:Value)(w:World):(Instr.typeAssert (.iface t v) 142 265 true).run Tryz.prog w=.ok (.tuple #[.pointer none,.bool false]) w:=Bl Tryz.underlying265 (by kernel_rfl) h v w
theorem Alg(v:Value)(w:World):(Instr.typeAssert (.iface 265 v) 142 265 true).run Tryz.prog w=.ok (.tuple #[v,.bool true]) w:=E3 Tryz.underlying265 v w
theorem Am5(t:TypeId)(h:t≠268)(v:Value)(w:World):(Instr.typeAssert (.iface t v) 142 268 true).run Tryz.prog w=.ok (.tuple #[.pointer none,.bool false]) w:=Bl Tryz.underlying268 (by kernel_rfl) h v w
theorem A3q(v:Value)(w:World):(Instr.typeAssert (.iface 268 v) 142 268 true).run Tryz.prog w=.ok (.tuple #[v,.bool true]) w:=E3 Tryz.underlying268 v w
theorem Ald(v:Value)(w:World):(Instr.typeAssert (.iface 270 v) 142 270 true).run Tryz.prog w=.ok (.tuple #[v,.bool true]) w:=E3 Tryz.underlying270 v w
def Fm(K:EC)(l:A6)(c:BT A6):Prop:=∀(D:Nat->Prop) (w:World) (la:Option Addr) (ln lc:Nat) (ps:Value) (e:Em) (v:Value) (ks:List Value),
 K.Ex D w la ln lc ps e->Bx D w l v ks->Ao D w c ks->e.st.length+2*bsize (nd l c)<=800000->
 Calls Tryz.prog 54 #[.pointer (some ⟨K.wb,0,none⟩),v] w fun r w'=>r=.returned (.tuple #[])/\K.Ex D w' la ln lc ps (As K.fns K.gl l (Az c) (em K.fns K.gl c) e)/\A3 D w w'
theorem A4r(K:EC)(c:BT A6)(hok:D8 (Fm K) c)(D:Nat->Prop)(w:World)(la:Option Addr)(ln lc:Nat)(ps:Value)(e:Em)(va:Option Addr)(vn vc:Nat)(ks:List Value)
  (hst:K.Ex D w la ln lc ps e) (hown:Cz D w 150 1 (.slice va vn vc) ks.length ks) (hrep:Ao D w c ks) (hsz:e.st.length+2*bsize c<=800000) :
  Calls Tryz.prog 141 #[.pointer (some ⟨K.wb,0,none⟩),.slice va vn vc] w fun r w'=>r=.returned (.tuple #[])/\K.Ex D w' la ln lc ps (em K.fns K.gl c 0 e)/\A3 D w w':=by
 have hvn:vn=ks.length:=(Cg hown.1).1;subst hvn;have HSt0:=A0 hst;have HOwn:=A0 hown;have HRep:=A0 hrep;have hlen:=hrep.len;have HLen:=A0 hlen;have hls:=Nk c;have hkl:ks.length<=400000:=by omega
 clear hst hown hrep hlen;go_enter Tryz.func141,Tryz.ntmps141;go_wp2;go_loopg [8] ks.length (fun k v wr=>∃(i:Nat) (ei:Em),v=.int .i64 i/\i+k=ks.length/\K.Ex D wr la ln lc ps ei/\em K.fns K.gl (Cd i c) 0 ei=em K.fns K.gl c 0 e/\ei.st.length+2*bsize (Cd i c)<=800000/\A3 D w wr)
 case atStart=>exact⟨0,e,rfl,by omega,HSt0.o,rfl,hsz,A3.refl _ _⟩
 case round=>
  clear HSt0;obtain⟨i,ei,rfl,hik,hst,hse,hsi,hbel⟩:=hrel;have HSt:=A0 hst;have HSe:=A0 hse;have HBel:=A0 hbel;clear hst hse hbel;by_cases hlt:i<ks.length
  ·have hr:=HRep.o.Bv HBel.o;obtain⟨x,y,l,cc,r,hd,v,ks',hv,hn,hrk⟩:=Ao.at' i c ks hr z5na;obtain⟨g,rfl,_,hcap,lg,hcell⟩:=G2 (HOwn.o.Bv HBel.o).1 z51a;have d0:=hcell i v hv;have hE:=A0 (hok.at' i c x y l cc r hd);have hz:bsize (Cd i c)=bsize (nd l cc)+bsize r:=by rw[hd,Co,bsize]
   have HNx:Hid (em K.fns K.gl (Cd (i+1) c) 0 (As K.fns K.gl l (Az cc) (em K.fns K.gl cc) ei)=em K.fns K.gl c 0 e):=by
    show _=_;rw[Oc i c x y l cc r hd,<-HSe.o,hd,Ie]
   have hsn:(As K.fns K.gl l (Az cc) (em K.fns K.gl cc) ei).st.length+2*bsize (Cd (i+1) c)<=800000:=by
    have:=Gk K.fns K.gl l cc ei;rw[Oc i c x y l cc r hd];omega
   have HC:=A0 (hE.out D wr la ln lc ps ei v ks' HSt.o hn hrk z51a);have HSn:=A0 hsn;clear hr hd hv hn hrk hcell hsn hz;go_wp2_with fail
   refine HC.o.mono ?_;rintro r' w1 ⟨rfl,Al,A1⟩;have A7:=A0 Al;have A4:Hid (A3 D w w1):=HBel.o.trans A1;clear Al A1;go_wp2;go_roundg (gk-1)
   case measure=>omega
   case rel=>exact⟨i+1,_,rfl,by omega,A7.o,HNx.o,HSn.o,A4.o⟩
  ·have HE:Hid (ei=em K.fns K.gl c 0 e):=by
    exact z0sa
   exact z2wa
theorem Aqq(K:EC)(l:A6)(c:BT A6)(hk:l.kd=1):Fm K l c:=by
 intro D w la ln lc ps e v ks hst hn hr hsz;obtain⟨hlo,lcb,hncb⟩:=hst.lo;have hnds:=Co l c;unfold Bx at hn;rw[if_neg z51a]at hn;obtain⟨b,cs,rfl,hD,hb,hl⟩:=hn;have e1:Ck l.kd=220:=by rw[hk];rfl
 have e2:Dn l.kd=228:=by rw[hk];rfl
 rw[e1];rw[e2]at hb;unfold Cy at hl;simp only[hk]at hl;rw[b9 hk];obtain⟨rfl,rfl⟩:=hl;have d0:w.cell? ⟨b,0,none⟩=some (.int .i64 l.n):=A2 hb 0 _ rfl;have ld:=A5 hb;have HX:=A0 hst;have HLo:=A0 hlo;have Dh:=Ar3;clear hst hb e1 e2 hk hr;unfold Ch;go_enter Tryz.func54,Tryz.ntmps54;go_wp2_with fail
 refine(U8 l.n _).mono ?_;rintro r w1 ⟨rfl,A1⟩;have I0:=A0 (HX.o.keep A1.block A1.size A1.os A1.tape A1.output);have A4:Hid (A3 D w w1):=⟨A1.os,A1.tape,A1.output,A1.size,fun g hg=>A1.block g (HLo.o g hg)⟩;clear A1;go_wp2_with fail
 refine(Sq I0.o.ew z51a ⟨2,false,l.n,[],none⟩).mono ?_;rintro r w2 ⟨rfl,B5,A8⟩;have Aj:=A0 (I0.o.next (e':=e.Ja ⟨2,false,l.n,[],none⟩) A8 B5 rfl);exact z13a
theorem Aqx(K:EC)(l:A6)(c:BT A6)(hk:l.kd=2):Fm K l c:=by
 intro D w la ln lc ps e v ks hst hn hr hsz;obtain⟨hlo,lcb,hncb⟩:=hst.lo;have hnds:=Co l c;unfold Bx at hn;rw[if_neg z51a]at hn;obtain⟨b,cs,rfl,hD,hb,hl⟩:=hn;have e1:Ck l.kd=229:=by rw[hk];rfl
 have e2:Dn l.kd=232:=by rw[hk];rfl
 rw[e1];rw[e2]at hb;unfold Cy at hl;simp only[hk]at hl;rw[j8 hk];obtain⟨rfl,rfl⟩:=hl;have d0:w.cell? ⟨b,0,none⟩=some (.string ⟨l.s.toArray⟩):=A2 hb 0 _ rfl;have ld:=A5 hb;have HX:=A0 hst;have HLo:=A0 hlo;have Dh:=L7 229 z52a;have Dz:=Ar8;clear hst hb e1 e2 hk hr;unfold Ch;go_enter Tryz.func54,Tryz.ntmps54;go_wp2_with fail
 refine(A1w ⟨l.s.toArray⟩ _).mono ?_;rintro r w1 ⟨rfl,A1⟩;have I0:=A0 (HX.o.keep A1.block A1.size A1.os A1.tape A1.output);have A4:Hid (A3 D w w1):=⟨A1.os,A1.tape,A1.output,A1.size,fun g hg=>A1.block g (HLo.o g hg)⟩;clear A1;go_wp2_with fail
 refine(Sq I0.o.ew z51a ⟨3,false,0,l.s,none⟩).mono ?_;rintro r w2 ⟨rfl,B5,A8⟩;have Aj:=A0 (I0.o.next (e':=e.Ja ⟨3,false,0,l.s,none⟩) A8 B5 rfl);exact z13a
theorem Aqy(K:EC)(l:A6)(c:BT A6)(hk:l.kd=3):Fm K l c:=by
 intro D w la ln lc ps e v ks hst hn hr hsz;obtain⟨hlo,lcb,hncb⟩:=hst.lo;have hnds:=Co l c;unfold Bx at hn;rw[if_neg z51a]at hn;obtain⟨b,cs,rfl,hD,hb,hl⟩:=hn;have e1:Ck l.kd=233:=by rw[hk];rfl
 have e2:Dn l.kd=236:=by rw[hk];rfl
 rw[e1];rw[e2]at hb;unfold Cy at hl;simp only[hk]at hl;rw[o8 hk];obtain⟨rfl,rfl⟩:=hl;have d0:w.cell? ⟨b,0,none⟩=some (.bool true):=A2 hb 0 _ rfl;have ld:=A5 hb;have HX:=A0 hst;have HLo:=A0 hlo;have Dh:=L7 233 z52a;have Dz:=Lo 233 z52a;have Ep:=A4z;clear hst hb e1 e2 hk hr;unfold Ch;go_enter Tryz.func54,Tryz.ntmps54;go_wp2_with fail
 refine(Xg true _).mono ?_;rintro r w1 ⟨rfl,A1⟩;have I0:=A0 (HX.o.keep A1.block A1.size A1.os A1.tape A1.output);have A4:Hid (A3 D w w1):=⟨A1.os,A1.tape,A1.output,A1.size,fun g hg=>A1.block g (HLo.o g hg)⟩;clear A1;go_wp2_with fail
 refine(Sq I0.o.ew z51a ⟨1,true,0,[],none⟩).mono ?_;rintro r w2 ⟨rfl,B5,A8⟩;have Aj:=A0 (I0.o.next (e':=e.Ja ⟨1,true,0,[],none⟩) A8 B5 rfl);exact z13a
theorem Aqn(K:EC)(l:A6)(c:BT A6)(hk:l.kd=4):Fm K l c:=by
 intro D w la ln lc ps e v ks hst hn hr hsz;obtain⟨hlo,lcb,hncb⟩:=hst.lo;have hnds:=Co l c;unfold Bx at hn;rw[if_neg z51a]at hn;obtain⟨b,cs,rfl,hD,hb,hl⟩:=hn;have e1:Ck l.kd=233:=by rw[hk];rfl
 have e2:Dn l.kd=236:=by rw[hk];rfl
 rw[e1];rw[e2]at hb;unfold Cy at hl;simp only[hk]at hl;rw[p8 hk];obtain⟨rfl,rfl⟩:=hl;have d0:w.cell? ⟨b,0,none⟩=some (.bool false):=A2 hb 0 _ rfl;have ld:=A5 hb;have HX:=A0 hst;have HLo:=A0 hlo;have Dh:=L7 233 z52a;have Dz:=Lo 233 z52a;have Ep:=A4z;clear hst hb e1 e2 hk hr;unfold Ch;go_enter Tryz.func54,Tryz.ntmps54;go_wp2_with fail
 refine(Xg false _).mono ?_;rintro r w1 ⟨rfl,A1⟩;have I0:=A0 (HX.o.keep A1.block A1.size A1.os A1.tape A1.output);have A4:Hid (A3 D w w1):=⟨A1.os,A1.tape,A1.output,A1.size,fun g hg=>A1.block g (HLo.o g hg)⟩;clear A1;go_wp2_with fail
 refine(Sq I0.o.ew z51a ⟨1,false,0,[],none⟩).mono ?_;rintro r w2 ⟨rfl,B5,A8⟩;have Aj:=A0 (I0.o.next (e':=e.Ja ⟨1,false,0,[],none⟩) A8 B5 rfl);exact z13a
theorem Aqv(K:EC)(l:A6)(c:BT A6)(hk:l.kd=5):Fm K l c:=by
 intro D w la ln lc ps e v ks hst hn hr hsz;obtain⟨hlo,lcb,hncb⟩:=hst.lo;have hnds:=Co l c;unfold Bx at hn;rw[if_neg z51a]at hn;obtain⟨b,cs,rfl,hD,hb,hl⟩:=hn;have e1:Ck l.kd=237:=by rw[hk];rfl
 have e2:Dn l.kd=450:=by rw[hk];rfl
 rw[e1];rw[e2]at hb;unfold Cy at hl;simp only[hk]at hl;rw[p9 hk];obtain⟨rfl,rfl⟩:=hl;have ld:=A5 hb;have HX:=A0 hst;have HLo:=A0 hlo;have Dh:=L7 237 z52a;have Dz:=Lo 237 z52a;have Ep:=Ml 237 z52a;have Fk:=Ar6;clear hst hb e1 e2 hk hr;unfold Ch;go_enter Tryz.func54,Tryz.ntmps54;have I0:=HX;have A4:=A0 (A3.refl D w);go_wp2_with fail
 refine(Sq I0.o.ew z51a Ab).mono ?_;rintro r w2 ⟨rfl,B5,A8⟩;have Aj:=A0 (I0.o.next (e':=e.Ja Ab) A8 B5 rfl);exact z13a
theorem z0ia {P:Prop} (h:P:=by
  rintro r w1 ⟨rfl,Al,A1⟩;have A7:=A0 Al;have A4:=A0 A1;clear Al A1;go_wp2;go_end0;exact⟨rfl,A7.o,A4.o⟩):P:=h
theorem Aqz(K:EC)(l:A6)(c:BT A6)(hk:l.kd=6):Fm K l c:=by
 intro D w la ln lc ps e v ks hst hn hr hsz;obtain⟨hlo,lcb,hncb⟩:=hst.lo;have hnds:=Co l c;unfold Bx at hn;rw[if_neg z51a]at hn;obtain⟨b,cs,rfl,hD,hb,hl⟩:=hn;have e1:Ck l.kd=238:=by rw[hk];rfl
 have e2:Dn l.kd=240:=by rw[hk];rfl
 rw[e1];rw[e2]at hb;unfold Cy at hl;simp only[hk]at hl;rw[r8 hk];obtain⟨rfl,rfl⟩:=hl;have d0:w.cell? ⟨b,1,none⟩=some (.string ⟨l.s.toArray⟩):=A2 hb 1 _ rfl;have ld:=A5 hb;have HV:=A0 (A4y hst z51a l.s 1 2);have Dh:=L7 238 z52a;have Dz:=Lo 238 z52a;have Ep:=Ml 238 z52a;have Fk:=Nb 238 z52a;have G9:=A52;clear hst hb e1 e2 hk hr;unfold Ch;go_enter Tryz.func54,Tryz.ntmps54;go_wp2_with fail
 refine HV.o.mono ?_;exact z0ia
theorem Apa(w:World):Calls Tryz.prog 89 #[.int .i64 28] w fun e w'=>e=.returned (.int .i64 27)/\w'=w:=by
 go_enter Tryz.func89,Tryz.ntmps89;exact z0xa
theorem Ap9(w:World):Calls Tryz.prog 89 #[.int .i64 35] w fun e w'=>e=.returned (.int .i64 23)/\w'=w:=by
 go_enter Tryz.func89,Tryz.ntmps89;exact z0xa
theorem z49a {P:Prop} (h:P:=by
  unfold Ch;go_enter Tryz.func54,Tryz.ntmps54;go_wp2_with fail
  refine HC.o.mono ?_;exact z0ia):P:=h
theorem Aqo(K:EC)(l:A6)(c:BT A6)(hk:l.kd=8)(ih:D8 (Fm K) c):Fm K l c:=by
 intro D w la ln lc ps e v ks hst hn hr hsz;obtain⟨hlo,lcb,hncb⟩:=hst.lo;have hnds:=Co l c;unfold Bx at hn;rw[if_neg z51a]at hn;obtain⟨b,cs,rfl,hD,hb,hl⟩:=hn;have e1:Ck l.kd=241:=by rw[hk];rfl
 have e2:Dn l.kd=243:=by rw[hk];rfl
 rw[e1];rw[e2]at hb;unfold Cy at hl;simp only[hk]at hl;rw[s7 hk];obtain⟨a,rfl,rfl⟩:=hl;obtain⟨x1,y1,l1,c1,r1,De,rfl,Bk,Au,hz⟩:=hr.cons';obtain rfl:=hz.nil';have C1:bsize (.node x1 y1 l1 c1 .nil)=bsize (nd l1 c1):=by rw[Co,bsize];rfl
 have hlen1:=Gk K.fns K.gl l1 c1 e;rw[Ie,em];have HC:=A0 (ih.1 D w la ln lc ps e a De hst Bk Au z51a);have d0:=A2 hb 0 a rfl;have ld:=A5 hb;have HBk:=A0 hb;have Dh:=L7 241 z52a;have Dz:=Lo 241 z52a;have Ep:=Ml 241 z52a;have Fk:=Nb 241 z52a;have G9:=Nc 241 z52a;have Hx:=Ar2;clear hst hb e1 e2 hk hr Bk Au hz ih;exact z49a
theorem z1ma {P:Prop} (h:P:=by
  have Da:Hid (A3 D w w9):=A4.o.trans ((Dv D w1 1).trans D1);clear Fj D1;go_wp2;go_end0;exact⟨rfl,HS9.o,Da.o⟩):P:=h
theorem Aqu(K:EC)(l:A6)(c:BT A6)(hk:l.kd=13)(ih:D8 (Fm K) c):Fm K l c:=by
 intro D w la ln lc ps e v ks hst hn hr hsz;obtain⟨hlo,lcb,hncb⟩:=hst.lo;have hnds:=Co l c;unfold Bx at hn;rw[if_neg z51a]at hn;obtain⟨b,cs,rfl,hD,hb,hl⟩:=hn;have e1:Ck l.kd=244:=by rw[hk];rfl
 have e2:Dn l.kd=246:=by rw[hk];rfl
 rw[e1];rw[e2]at hb;unfold Cy at hl;simp only[hk]at hl;rw[j6 hk];obtain⟨a,rfl,rfl⟩:=hl;obtain⟨x1,y1,l1,c1,r1,De,rfl,Bk,Au,hz⟩:=hr.cons';obtain rfl:=hz.nil';have C1:bsize (.node x1 y1 l1 c1 .nil)=bsize (nd l1 c1):=by rw[Co,bsize];rfl
 have hlen1:=Gk K.fns K.gl l1 c1 e;rw[Ie,em];have HC:=A0 (ih.1 D w la ln lc ps e a De hst Bk Au z51a);have d0:=A2 hb 2 a rfl;have ld:=A5 hb;have HBk:=A0 hb;have Dh:=L7 244 z52a;have Dz:=Lo 244 z52a;have Ep:=Ml 244 z52a;have Fk:=Nb 244 z52a;have G9:=Nc 244 z52a;have Hx:=Oz 244 z52a;have J6:=A51;clear hst hb e1 e2 hk hr Bk Au hz ih;unfold Ch;go_enter Tryz.func54,Tryz.ntmps54;go_wp2_with fail
 refine HC.o.mono ?_;rintro r w1 ⟨rfl,Al,A1⟩;have A7:=A0 Al;have A4:=A0 A1;have Bu:=(A1.block b hD).trans HBk.o;clear Al A1 d0 ld;have d0:w1.cell? ⟨b,0,none⟩=some (.int .i64 (l.line:Nat)):=A2 Bu 0 _ rfl;have d1:=A2 Bu 1 _ rfl;have ld:=A5 Bu;clear Bu;go_wp2;refine Ic 10 (by kernel_rfl) (by kernel_rfl) ?_;simp only[List.take_succ_cons,List.take_zero,List.drop_succ_cons,List.drop_zero];iterate 5 (refine Ez (fun K' hK'=>?_);go_simp;refine hK' _ ?_;clear hK' K')
 refine Ez (fun K' hK'=>?_);go_simp;refine⟨_,Apa _,hK' _ ?_⟩;clear hK' K';iterate 4 (refine Ez (fun K' hK'=>?_);go_simp;refine hK' _ ?_;clear hK' K')
 refine Ib ?_;go_wp2_with fail
 refine(Ko (A7.o.drewN 1).ew z51a 27 0 l.line).mono ?_;rintro r w9 ⟨rfl,Fj,D1⟩;have HS9:=A0 ((A7.o.drewN 1).next (e':=(em K.fns K.gl .nil 0 (As K.fns K.gl l1 (Az c1) (em K.fns K.gl c1) e)).step 27 0 l.line) D1 Fj rfl);exact z1ma
theorem Aqt(K:EC)(l:A6)(c:BT A6)(hk:l.kd=14)(ih:D8 (Fm K) c):Fm K l c:=by
 intro D w la ln lc ps e v ks hst hn hr hsz;obtain⟨hlo,lcb,hncb⟩:=hst.lo;have hnds:=Co l c;unfold Bx at hn;rw[if_neg z51a]at hn;obtain⟨b,cs,rfl,hD,hb,hl⟩:=hn;have e1:Ck l.kd=244:=by rw[hk];rfl
 have e2:Dn l.kd=246:=by rw[hk];rfl
 rw[e1];rw[e2]at hb;unfold Cy at hl;simp only[hk]at hl;rw[j7 hk];obtain⟨a,rfl,rfl⟩:=hl;obtain⟨x1,y1,l1,c1,r1,De,rfl,Bk,Au,hz⟩:=hr.cons';obtain rfl:=hz.nil';have C1:bsize (.node x1 y1 l1 c1 .nil)=bsize (nd l1 c1):=by rw[Co,bsize];rfl
 have hlen1:=Gk K.fns K.gl l1 c1 e;rw[Ie,em];have HC:=A0 (ih.1 D w la ln lc ps e a De hst Bk Au z51a);have d0:=A2 hb 2 a rfl;have ld:=A5 hb;have HBk:=A0 hb;have Dh:=L7 244 z52a;have Dz:=Lo 244 z52a;have Ep:=Ml 244 z52a;have Fk:=Nb 244 z52a;have G9:=Nc 244 z52a;have Hx:=Oz 244 z52a;have J6:=A51;clear hst hb e1 e2 hk hr Bk Au hz ih;unfold Ch;go_enter Tryz.func54,Tryz.ntmps54;go_wp2_with fail
 refine HC.o.mono ?_;rintro r w1 ⟨rfl,Al,A1⟩;have A7:=A0 Al;have A4:=A0 A1;have Bu:=(A1.block b hD).trans HBk.o;clear Al A1 d0 ld;have d0:w1.cell? ⟨b,0,none⟩=some (.int .i64 (l.line:Nat)):=A2 Bu 0 _ rfl;have d1:=A2 Bu 1 _ rfl;have ld:=A5 Bu;clear Bu;go_wp2;refine Ic 10 (by kernel_rfl) (by kernel_rfl) ?_;simp only[List.take_succ_cons,List.take_zero,List.drop_succ_cons,List.drop_zero];iterate 5 (refine Ez (fun K' hK'=>?_);go_simp;refine hK' _ ?_;clear hK' K')
 refine Ez (fun K' hK'=>?_);go_simp;refine⟨_,Ap9 _,hK' _ ?_⟩;clear hK' K';iterate 4 (refine Ez (fun K' hK'=>?_);go_simp;refine hK' _ ?_;clear hK' K')
 refine Ib ?_;go_wp2_with fail
 refine(Ko (A7.o.drewN 1).ew z51a 23 0 l.line).mono ?_;rintro r w9 ⟨rfl,Fj,D1⟩;have HS9:=A0 ((A7.o.drewN 1).next (e':=(em K.fns K.gl .nil 0 (As K.fns K.gl l1 (Az c1) (em K.fns K.gl c1) e)).step 23 0 l.line) D1 Fj rfl);exact z1ma
theorem z0qa {P:Prop} (h:P:=by
  go_enter Tryz.func139,Tryz.ntmps139;go_wp2;go_ret;exact⟨rfl,rfl⟩):P:=h
theorem A8y(w:World):Calls Tryz.prog 139 #[.int .i64 27] w fun e w'=>e=.returned (.int .i64 25)/\w'=w:=by
 exact z0qa
theorem A8z(w:World):Calls Tryz.prog 139 #[.int .i64 28] w fun e w'=>e=.returned (.int .i64 21)/\w'=w:=by
 exact z0qa
theorem A90(w:World):Calls Tryz.prog 139 #[.int .i64 29] w fun e w'=>e=.returned (.int .i64 26)/\w'=w:=by
 exact z0qa
theorem A91(w:World):Calls Tryz.prog 139 #[.int .i64 30] w fun e w'=>e=.returned (.int .i64 29)/\w'=w:=by
 exact z0qa
theorem A92(w:World):Calls Tryz.prog 139 #[.int .i64 31] w fun e w'=>e=.returned (.int .i64 31)/\w'=w:=by
 exact z0qa
theorem A93(w:World):Calls Tryz.prog 139 #[.int .i64 32] w fun e w'=>e=.returned (.int .i64 28)/\w'=w:=by
 exact z0qa
theorem A94(w:World):Calls Tryz.prog 139 #[.int .i64 33] w fun e w'=>e=.returned (.int .i64 30)/\w'=w:=by
 exact z0qa
theorem A95(w:World):Calls Tryz.prog 139 #[.int .i64 34] w fun e w'=>e=.returned (.int .i64 12)/\w'=w:=by
 exact z0qa
theorem A96(w:World):Calls Tryz.prog 139 #[.int .i64 35] w fun e w'=>e=.returned (.int .i64 15)/\w'=w:=by
 exact z0qa
theorem A97(w:World):Calls Tryz.prog 139 #[.int .i64 36] w fun e w'=>e=.returned (.int .i64 17)/\w'=w:=by
 exact z0qa
theorem A98(w:World):Calls Tryz.prog 139 #[.int .i64 37] w fun e w'=>e=.returned (.int .i64 19)/\w'=w:=by
 exact z0qa
theorem A99(w:World):Calls Tryz.prog 139 #[.int .i64 38] w fun e w'=>e=.returned (.int .i64 21)/\w'=w:=by
 exact z0qa
theorem A9a(w:World):Calls Tryz.prog 139 #[.int .i64 39] w fun e w'=>e=.returned (.int .i64 9)/\w'=w:=by
 exact z0qa
theorem A9b(w:World):Calls Tryz.prog 139 #[.int .i64 40] w fun e w'=>e=.returned (.int .i64 10)/\w'=w:=by
 exact z0qa
theorem Zf(s:Nat)(h1:27<=s)(h2:s<=40)(w:World):Calls Tryz.prog 139 #[.int .i64 (s:Nat)] w fun e w'=>e=.returned (.int .i64 (binOp s:Nat))/\w'=w:=by
 have h:s=27\/s=28\/s=29\/s=30\/s=31\/s=32\/s=33\/s=34\/s=35\/s=36\/s=37\/s=38\/s=39\/s=40:=by omega
 rcases h with rfl|rfl|rfl|rfl|rfl|rfl|rfl|rfl|rfl|rfl|rfl|rfl|rfl|rfl
 ·exact A8y w
 ·exact A8z w
 ·exact A90 w
 ·exact A91 w
 ·exact A92 w
 ·exact A93 w
 ·exact A94 w
 ·exact A95 w
 ·exact A96 w
 ·exact A97 w
 ·exact A98 w
 ·exact A99 w
 ·exact A9a w
 ·exact A9b w
theorem z43a {P:Prop} (h:P:=by
  clear Fj D1;go_wp2;go_end0;exact⟨rfl,HS9.o,Da.o⟩):P:=h
theorem Apj(K:EC)(l:A6)(c:BT A6)(h1:127<=l.kd)(h2:l.kd<=138)(ih:D8 (Fm K) c)(D:Nat->Prop)(w:World)(la:Option Addr)(ln lc:Nat)(ps:Value)(e:Em)(b:Nat)(a1 a2:Value)
  (hst:K.Ex D w la ln lc ps e) (hD:D b) (hb:w.heap[b]?=some (.cells #[.int .i64 (l.line:Nat),.int .i64 ((l.kd-100:Nat):Nat),a1,a2] 295 (0,0))) (hr:Ao D w c [a1,a2]) (hsz:e.st.length+2*bsize (nd l c)<=800000) :
  Calls Tryz.prog 90 #[.pointer (some ⟨K.wb,0,none⟩),.pointer (some ⟨b,0,none⟩)] w fun r w'=>r=.returned (.tuple #[])/\K.Ex D w' la ln lc ps (As K.fns K.gl l (Az c) (em K.fns K.gl c) e)/\A3 D w w':=by
 obtain⟨hlo,lcb,hncb⟩:=hst.lo;have hnds:=Co l c;obtain⟨x1,y1,l1,c1,r1,De,rfl,Bk,Au,hz⟩:=hr.cons';obtain⟨x2,y2,l2,c2,r2,Gm,rfl,Dm,B7,C9⟩:=hz.cons';obtain rfl:=C9.nil';have C1:bsize (.node x1 y1 l1 c1 (.node x2 y2 l2 c2 .nil))=bsize (nd l1 c1)+bsize (nd l2 c2):=by rw[Co,Co,bsize,bsize,bsize];omega
 rw[s9 h1 h2,Ie,Ie,em];have hl1:=Gk K.fns K.gl l1 c1 e;have Gs:=Gk K.fns K.gl l2 c2 (As K.fns K.gl l1 (Az c1) (em K.fns K.gl c1) e);have Ia:=A0 (ih.1 D w la ln lc ps e a1 De hst Bk Au z51a);have Fb:=A0 (fun(W:World) (e2:Em) (he:e2.st.length+2*bsize (nd l2 c2)<=800000) (hx:K.Ex D W la ln lc ps e2) (hbd:A3 D w W)=>ih.2.1 D W la ln lc ps e2 a2 Gm hx (Dm.Bv hbd) (B7.Bv hbd) he);have HBk:=A0 hb;have t39:(((l.kd-100:Nat):Int)==39)=false:=by rw[beq_eq_false_iff_ne];omega
 have t40:(((l.kd-100:Nat):Int)==40)=false:=by rw[beq_eq_false_iff_ne];omega
 have HOp:=A0 (fun W=>Zf (l.kd-100) z51a z51a W);have d0:=A2 hb 0 _ rfl;have d1:=A2 hb 1 _ rfl;have d2:=A2 hb 2 _ rfl;have d3:=A2 hb 3 _ rfl;have ld:=A5 hb;clear hst hb hr Bk Au hz Dm B7 C9 ih h1 h2;generalize l.kd-100=sg at *;generalize Hs:As K.fns K.gl l1 (Az c1) (em K.fns K.gl c1) e=C5 at *;generalize hE2:As K.fns K.gl l2 (Az c2) (em K.fns K.gl c2) C5=Fh at *;go_enter Tryz.func90,Tryz.ntmps90;go_wp2_with fail
 refine Ia.o.mono ?_;rintro r w1 ⟨rfl,Al,A1⟩;have A7:=A0 Al;have A4:=A0 A1;have Bu:=(A1.block b hD).trans HBk.o;have HBk1:=A0 Bu;clear Al A1;clear d0 d1 d2 d3 ld;have d0:=A2 Bu 0 _ rfl;have d1:=A2 Bu 1 _ rfl;have d2:=A2 Bu 2 _ rfl;have d3:=A2 Bu 3 _ rfl;have ld:=A5 Bu;clear Bu;go_wp2_with fail
 refine(Fb.o _ _ z51a A7.o A4.o).mono ?_;rintro r w3 ⟨rfl,Ca,Ak⟩;rw[hE2]at Ca;have Bg:=A0 Ca;have Ay:Hid (A3 D w w3):=A4.o.trans Ak;have Ek:=(Ak.block b hD).trans HBk1.o;clear Ca Ak;clear d0 d1 d2 d3 ld;have d0:=A2 Ek 0 _ rfl;have d1:=A2 Ek 1 _ rfl;have d2:=A2 Ek 2 _ rfl;have d3:=A2 Ek 3 _ rfl;have ld:=A5 Ek;clear Ek;go_wp2;refine Ic 10 (by kernel_rfl) (by kernel_rfl) ?_;simp only[List.take_succ_cons,List.take_zero,List.drop_succ_cons,List.drop_zero];iterate 5 (refine Ez (fun K' hK'=>?_);go_simp;refine hK' _ ?_;clear hK' K')
 refine Ez (fun K' hK'=>?_);go_simp;refine⟨_,HOp.o _,hK' _ ?_⟩;clear hK' K';iterate 4 (refine Ez (fun K' hK'=>?_);go_simp;refine hK' _ ?_;clear hK' K')
 refine Ib ?_;go_wp2_with fail
 refine(Ko (Bg.o.drewN 1).ew z51a (binOp sg) 0 l.line).mono ?_;rintro r w9 ⟨rfl,Fj,D1⟩;have HS9:=A0 ((Bg.o.drewN 1).next (e':=(Fh).step (binOp sg) 0 l.line) D1 Fj rfl);have Da:Hid (A3 D w w9):=Ay.o.trans ((Dv D w3 1).trans D1);exact z43a
theorem z07a {P:Prop} (h:P:=by
  clear hsg t40;go_wp2_with fail
  refine Ic 10 (by kernel_rfl) (by kernel_rfl) ?_;simp only[List.take_succ_cons,List.take_zero,List.drop_succ_cons,List.drop_zero];iterate 5 (refine Ez (fun K' hK'=>?_);go_simp;refine hK' _ ?_;clear hK' K')
  refine Ez (fun K' hK'=>?_);go_simp;refine⟨_,HOp.o _,hK' _ ?_⟩;clear hK' K';iterate 4 (refine Ez (fun K' hK'=>?_);go_simp;refine hK' _ ?_;clear hK' K')
  refine Ib ?_;go_wp2_with fail
  refine(Ko (A7.o.drewN 1).ew z51a (binOp sg) 0 l.line).mono ?_;rintro r w2 ⟨rfl,B5,A8⟩;have Aj:=A0 ((A7.o.drewN 1).next (e':=C5.step (binOp sg) 0 l.line) A8 B5 rfl);have hb2':=(Dv D w1 1).trans A8;have Aa:Hid (A3 D w w2):=A4.o.trans hb2';have Dd:=(hb2'.block b hD).trans HBk1.o;have HBk2:=A0 Dd;clear B5 A8 hb2' d0 d1 d2 d3 ld;have d0:=A2 Dd 0 _ rfl;have d3:=A2 Dd 3 _ rfl;have ld:=A5 Dd;clear Dd;have Gs:(C5.step (binOp sg) 0 l.line).st.length=C5.st.length+1:=Dy _ _ _ _;have hl3:=Gk K.fns K.gl l2 c2 (C5.step (binOp sg) 0 l.line);have Fl:=A0 Gs;go_wp2_with fail
  refine(Fb.o _ _ z51a Aj.o Aa.o).mono ?_;rintro r w3 ⟨rfl,Ca,Ak⟩;have Bg:=A0 Ca;have Ay:Hid (A3 D w w3):=Aa.o.trans Ak;have Ek:=(Ak.block b hD).trans HBk2.o;clear Ca Ak d0 d3 ld;have d0:=A2 Ek 0 _ rfl;have ld:=A5 Ek;clear Ek;have hl4:C5.st.length<(As K.fns K.gl l2 (Az c2) (em K.fns K.gl c2) (C5.step (binOp sg) 0 l.line)).st.length+1:=by
   have:=W9 K.fns K.gl l2 c2 (C5.step (binOp sg) 0 l.line);omega
  generalize hE3:As K.fns K.gl l2 (Az c2) (em K.fns K.gl c2) (C5.step (binOp sg) 0 l.line)=em3 at *;go_wp2_with fail
  refine(Ko Bg.o.ew z51a 11 0 l.line).mono ?_;rintro r w4 ⟨rfl,Fi,Ba⟩;have Er:=A0 (Bg.o.next (e':=em3.step 11 0 l.line) Ba Fi rfl);have Cn:Hid (A3 D w w4):=Ay.o.trans Ba;clear Fi Ba;go_wp2_with fail
  refine(V4 Er.o.ew C5.st.length (by rw[Dy];omega)).mono ?_;rintro r w5 ⟨rfl,Cr,Cl⟩;have Gp:=A0 (Er.o.next (e':=(em3.step 11 0 l.line).land C5.st.length) Cl Cr rfl);have E7:Hid (A3 D w w5):=Cn.o.trans Cl;clear Cr Cl;go_wp2;refine bodyPost_ret (v:=.tuple #[]) (by simp[results,Tryz.results90,go_sem]) rfl ?_;subst hE3;exact⟨rfl,Gp.o,E7.o⟩):P:=h
theorem Apk(K:EC)(l:A6)(c:BT A6)(hk:l.kd=139\/l.kd=140)(ih:D8 (Fm K) c)(D:Nat->Prop)(w:World)(la:Option Addr)(ln lc:Nat)(ps:Value)(e:Em)(b:Nat)(a1 a2:Value)
  (hst:K.Ex D w la ln lc ps e) (hD:D b) (hb:w.heap[b]?=some (.cells #[.int .i64 (l.line:Nat),.int .i64 ((l.kd-100:Nat):Nat),a1,a2] 295 (0,0))) (hr:Ao D w c [a1,a2]) (hsz:e.st.length+2*bsize (nd l c)<=800000) :
  Calls Tryz.prog 90 #[.pointer (some ⟨K.wb,0,none⟩),.pointer (some ⟨b,0,none⟩)] w fun r w'=>r=.returned (.tuple #[])/\K.Ex D w' la ln lc ps (As K.fns K.gl l (Az c) (em K.fns K.gl c) e)/\A3 D w w':=by
 obtain⟨hlo,lcb,hncb⟩:=hst.lo;have hnds:=Co l c;obtain⟨x1,y1,l1,c1,r1,De,rfl,Bk,Au,hz⟩:=hr.cons';obtain⟨x2,y2,l2,c2,r2,Gm,rfl,Dm,B7,C9⟩:=hz.cons';obtain rfl:=C9.nil';have C1:bsize (.node x1 y1 l1 c1 (.node x2 y2 l2 c2 .nil))=bsize (nd l1 c1)+bsize (nd l2 c2):=by rw[Co,Co,bsize,bsize,bsize];omega
 rw[x8 hk];simp only[Mx,Q5,Ts];have hl1:=Gk K.fns K.gl l1 c1 e;have Ia:=A0 (ih.1 D w la ln lc ps e a1 De hst Bk Au z51a);have Fb:=A0 (fun(W:World) (e2:Em) (he:e2.st.length+2*bsize (nd l2 c2)<=800000) (hx:K.Ex D W la ln lc ps e2) (hbd:A3 D w W)=>ih.2.1 D W la ln lc ps e2 a2 Gm hx (Dm.Bv hbd) (B7.Bv hbd) he);have HBk:=A0 hb;have t40:((((l.kd-100:Nat):Int)==39)||(((l.kd-100:Nat):Int)==40))=true:=by
  rcases hk with h|h <;> rw[h] <;> rfl
 have HOp:=A0 (fun W=>Zf (l.kd-100) z51a z51a W);have hlines:=Co l2 c2;have d0:=A2 hb 0 _ rfl;have d1:=A2 hb 1 _ rfl;have d2:=A2 hb 2 _ rfl;have d3:=A2 hb 3 _ rfl;have ld:=A5 hb;clear hst hb hr Bk Au hz Dm B7 C9 ih;have hsg:((l.kd-100:Nat):Int)=39\/((l.kd-100:Nat):Int)=40:=by omega
 generalize l.kd-100=sg at *;clear hk;generalize Hs:As K.fns K.gl l1 (Az c1) (em K.fns K.gl c1) e=C5 at *;go_enter Tryz.func90,Tryz.ntmps90;go_wp2_with fail
 refine Ia.o.mono ?_;rintro r w1 ⟨rfl,Al,A1⟩;have A7:=A0 Al;have A4:=A0 A1;have Bu:=(A1.block b hD).trans HBk.o;have HBk1:=A0 Bu;clear Al A1;clear d0 d1 d2 d3 ld;have d0:=A2 Bu 0 _ rfl;have d1:=A2 Bu 1 _ rfl;have d2:=A2 Bu 2 _ rfl;have d3:=A2 Bu 3 _ rfl;have ld:=A5 Bu;clear Bu;rcases hsg with hsg|hsg
 ·have t39:((sg:Int)==39)=true:=by rw[hsg];rfl
  exact z07a
 ·have t39:((sg:Int)==39)=false:=by rw[hsg];rfl
  have t41:((sg:Int)==40)=true:=by rw[hsg];rfl
  exact z07a
theorem Aql(K:EC)(l:A6)(c:BT A6)(h1:127<=l.kd)(h2:l.kd<=140)(ih:D8 (Fm K) c):Fm K l c:=by
 intro D w la ln lc ps e v ks hst hn hr hsz;unfold Bx at hn;rw[if_neg z51a]at hn;obtain⟨b,cs,rfl,hD,hb,hl⟩:=hn;have e1:Ck l.kd=248/\Dn l.kd=295:=by
  have hk:l.kd=127\/l.kd=128\/l.kd=129\/l.kd=130\/l.kd=131\/l.kd=132\/l.kd=133\/l.kd=134\/l.kd=135\/l.kd=136\/l.kd=137\/l.kd=138\/l.kd=139\/l.kd=140:=by omega
  rcases hk with h|h|h|h|h|h|h|h|h|h|h|h|h|h <;> rw[h] <;> exact⟨rfl,rfl⟩
 rw[e1.1];rw[e1.2]at hb;have Gs:∃a b,cs=#[Ge l.line,.int .i64 ((l.kd-100:Nat):Nat),a,b]/\ks=[a,b]:=by
  have hk:l.kd=127\/l.kd=128\/l.kd=129\/l.kd=130\/l.kd=131\/l.kd=132\/l.kd=133\/l.kd=134\/l.kd=135\/l.kd=136\/l.kd=137\/l.kd=138\/l.kd=139\/l.kd=140:=by omega
  unfold Cy at hl;rcases hk with h|h|h|h|h|h|h|h|h|h|h|h|h|h <;> simpa only[h]using hl
 obtain⟨a1,a2,rfl,rfl⟩:=Gs;have HC:Hid (Calls Tryz.prog 90 #[.pointer (some ⟨K.wb,0,none⟩),.pointer (some ⟨b,0,none⟩)] w fun r w'=>r=.returned (.tuple #[])/\K.Ex D w' la ln lc ps (As K.fns K.gl l (Az c) (em K.fns K.gl c) e)/\A3 D w w'):=by
  by_cases A8:l.kd<=138
  ·exact Apj K l c h1 A8 ih D w la ln lc ps e b a1 a2 hst hD hb hr hsz
  ·exact Apk K l c z51a ih D w la ln lc ps e b a1 a2 hst hD hb hr hsz
 have Dh:=L7 248 z52a;have Dz:=Lo 248 z52a;have Ep:=Ml 248 z52a;have Fk:=Nb 248 z52a;have G9:=Nc 248 z52a;have Hx:=Oz 248 z52a;have J6:=R3 248 z52a;have ta7:=Ar0;clear hst hb e1 hr hl ih;exact z49a
theorem Apv(K:EC)(l:A6)(c:BT A6)(hk:l.kd=10)(ih:D8 (Fm K) c)  (D:Nat->Prop) (w:World) (la:Option Addr) (ln lc:Nat) (ps:Value) (e:Em) (v:Value) (ks:List Value)
  (hst:K.Ex D w la ln lc ps e) (hn:Bx D w l v ks) (hr:Ao D w c ks) (hsz:e.st.length+2*bsize (nd l c)<=800000) :
  Calls Tryz.prog 91 #[.pointer (some ⟨K.wb,0,none⟩),v] w fun r w'=>r=.returned (.tuple #[])/\K.Ex D w' la ln lc ps (As K.fns K.gl l (Az c) (em K.fns K.gl c) e)/\A3 D w w':=by
 obtain⟨hlo,lcb,hncb⟩:=hst.lo;have hnds:=Co l c;unfold Bx at hn;rw[if_neg z51a]at hn;obtain⟨b,cs,rfl,hD,hb,hl⟩:=hn;have e1:Ck l.kd=304:=by rw[hk];rfl
 have e2:Dn l.kd=306:=by rw[hk];rfl
 rw[e1];rw[e2]at hb;unfold Cy at hl;simp only[hk]at hl;rw[j0 hk];obtain⟨a,rfl,rfl⟩:=hl;obtain⟨x1,y1,l1,c1,r1,De,rfl,Bk,Au,hz⟩:=hr.cons';obtain rfl:=hz.nil';have C1:bsize (.node x1 y1 l1 c1 .nil)=bsize (nd l1 c1):=by rw[Co,bsize];rfl
 have hlen1:=Gk K.fns K.gl l1 c1 e;rw[Ie,em];have HC:=A0 (ih.1 D w la ln lc ps e a De hst Bk Au z51a);have d0:=A2 hb 1 a rfl;have ld:=A5 hb;have HBk:=A0 hb;have Dh:=V6 304 z52a;have Dz:=Yp 304 z52a;have Ep:=Ar4;clear hst hb e1 e2 hk hr Bk Au hz ih;unfold Ch;go_enter Tryz.func91,Tryz.ntmps91;go_wp2_with fail
 refine(HC.o).mono ?_;rintro r w1 ⟨rfl,Al,A1⟩;have A7:=A0 Al;have A4:=A0 A1;have Bu:=(A1.block b hD).trans HBk.o;clear Al A1 d0 ld;have d0:w1.cell? ⟨b,0,none⟩=some (.int .i64 (l.line:Nat)):=A2 Bu 0 _ rfl;have ld:=A5 Bu;clear Bu;generalize Hs:As K.fns K.gl l1 (Az c1) (em K.fns K.gl c1) e=C5 at *;go_wp2_with fail
 refine(Ko A7.o.ew z51a 37 0 l.line).mono ?_;rintro r w9 ⟨rfl,Fj,D1⟩;have HS9:=A0 (A7.o.next (e':=C5.step 37 0 l.line) D1 Fj rfl);have Da:Hid (A3 D w w9):=A4.o.trans D1;clear Fj D1;go_wp2;go_end0;subst Hs;exact⟨rfl,HS9.o,Da.o⟩
theorem z1ba {P:Prop} (h:P:=by
  clear hst hb e1 hk hr hl ih;unfold Ch at HM ⊢;go_enter Tryz.func54,Tryz.ntmps54;go_wp2_with fail
  refine HM.o.mono ?_;exact z0ia):P:=h
theorem Aqr(K:EC)(l:A6)(c:BT A6)(hk:l.kd=10)(ih:D8 (Fm K) c):Fm K l c:=by
 intro D w la ln lc ps e v ks hst hn hr hsz;have HM:=A0 (Apv K l c hk ih D w la ln lc ps e v ks hst hn hr hsz);obtain⟨hlo,lcb,hncb⟩:=hst.lo;unfold Bx at hn;rw[if_neg z51a]at hn;obtain⟨b,cs,rfl,hD,hb,hl⟩:=hn;have e1:Ck l.kd=304:=by rw[hk];rfl
 rw[e1]at HM ⊢;have ld:=A5 hb;have Dh:=L7 304 z52a;have Dz:=Lo 304 z52a;have Ep:=Ml 304 z52a;have Fk:=Nb 304 z52a;have G9:=Nc 304 z52a;have Hx:=Oz 304 z52a;have J6:=R3 304 z52a;have ta7:=Ss 304 z52a;exact z1ba
theorem Apx(K:EC)(l:A6)(c:BT A6)(hk:l.kd=11)(ih:D8 (Fm K) c)  (D:Nat->Prop) (w:World) (la:Option Addr) (ln lc:Nat) (ps:Value) (e:Em) (v:Value) (ks:List Value)
  (hst:K.Ex D w la ln lc ps e) (hn:Bx D w l v ks) (hr:Ao D w c ks) (hsz:e.st.length+2*bsize (nd l c)<=800000) :
  Calls Tryz.prog 91 #[.pointer (some ⟨K.wb,0,none⟩),v] w fun r w'=>r=.returned (.tuple #[])/\K.Ex D w' la ln lc ps (As K.fns K.gl l (Az c) (em K.fns K.gl c) e)/\A3 D w w':=by
 obtain⟨hlo,lcb,hncb⟩:=hst.lo;have hnds:=Co l c;unfold Bx at hn;rw[if_neg z51a]at hn;obtain⟨b,cs,rfl,hD,hb,hl⟩:=hn;have e1:Ck l.kd=307:=by rw[hk];rfl
 have e2:Dn l.kd=309:=by rw[hk];rfl
 rw[e1];rw[e2]at hb;unfold Cy at hl;simp only[hk]at hl;rw[j4 hk];obtain⟨a1,a2,rfl,rfl⟩:=hl;obtain⟨x1,y1,l1,c1,r1,De,rfl,Bk,Au,hz⟩:=hr.cons';obtain⟨x2,y2,l2,c2,r2,Gm,rfl,Dm,B7,C9⟩:=hz.cons';obtain rfl:=C9.nil';have C1:bsize (.node x1 y1 l1 c1 (.node x2 y2 l2 c2 .nil))=bsize (nd l1 c1)+bsize (nd l2 c2):=by rw[Co,Co,bsize,bsize,bsize];omega
 rw[Ie,Ie,em];have hl1:=Gk K.fns K.gl l1 c1 e;have Gs:=Gk K.fns K.gl l2 c2 (As K.fns K.gl l1 (Az c1) (em K.fns K.gl c1) e);have Ia:=A0 (ih.1 D w la ln lc ps e a1 De hst Bk Au z51a);have Fb:=A0 (fun(W:World) (e2:Em) (he:e2.st.length+2*bsize (nd l2 c2)<=800000) (hx:K.Ex D W la ln lc ps e2) (hbd:A3 D w W)=>ih.2.1 D W la ln lc ps e2 a2 Gm hx (Dm.Bv hbd) (B7.Bv hbd) he);have HBk:=A0 hb;have d1:=A2 hb 1 a1 rfl;have ld:=A5 hb;have Dh:=V6 307 z52a;have Dz:=Yp 307 z52a;have Ep:=A53 307 z52a;have Fk:=Ar7;clear hst hb hr Bk Au hz Dm B7 C9 ih e1 e2 hk;generalize Hs:As K.fns K.gl l1 (Az c1) (em K.fns K.gl c1) e=C5 at *;generalize hE2:As K.fns K.gl l2 (Az c2) (em K.fns K.gl c2) C5=Fh at *;unfold Ch;go_enter Tryz.func91,Tryz.ntmps91;go_wp2_with fail
 refine(Ia.o).mono ?_;rintro r w1 ⟨rfl,Al,A1⟩;have A7:=A0 Al;have A4:=A0 A1;have Bu:=(A1.block b hD).trans HBk.o;have HBk1:=A0 Bu;clear Al A1 d1 ld;have d2:=A2 Bu 2 a2 rfl;have ld:=A5 Bu;clear Bu;go_wp2_with fail
 refine(Fb.o _ _ z51a A7.o A4.o).mono ?_;rintro r w2 ⟨rfl,B5,A8⟩;rw[hE2]at B5;have Aj:=A0 B5;have Aa:Hid (A3 D w w2):=A4.o.trans A8;have Dd:=(A8.block b hD).trans HBk1.o;clear B5 A8 d2 ld;have d0:w2.cell? ⟨b,0,none⟩=some (.int .i64 (l.line:Nat)):=A2 Dd 0 _ rfl;have ld:=A5 Dd;clear Dd;go_wp2_with fail
 refine(Ko Aj.o.ew z51a 38 0 l.line).mono ?_;rintro r w9 ⟨rfl,Fj,D1⟩;have HS9:=A0 (Aj.o.next (e':=Fh.step 38 0 l.line) D1 Fj rfl);have Da:Hid (A3 D w w9):=Aa.o.trans D1;exact z43a
theorem Aqw(K:EC)(l:A6)(c:BT A6)(hk:l.kd=11)(ih:D8 (Fm K) c):Fm K l c:=by
 intro D w la ln lc ps e v ks hst hn hr hsz;have HM:=A0 (Apx K l c hk ih D w la ln lc ps e v ks hst hn hr hsz);obtain⟨hlo,lcb,hncb⟩:=hst.lo;unfold Bx at hn;rw[if_neg z51a]at hn;obtain⟨b,cs,rfl,hD,hb,hl⟩:=hn;have e1:Ck l.kd=307:=by rw[hk];rfl
 rw[e1]at HM ⊢;have ld:=A5 hb;have Dh:=L7 307 z52a;have Dz:=Lo 307 z52a;have Ep:=Ml 307 z52a;have Fk:=Nb 307 z52a;have G9:=Nc 307 z52a;have Hx:=Oz 307 z52a;have J6:=R3 307 z52a;have ta7:=Ss 307 z52a;exact z1ba
theorem Apu(K:EC)(l:A6)(c:BT A6)(hk:l.kd=12)(ih:D8 (Fm K) c)  (D:Nat->Prop) (w:World) (la:Option Addr) (ln lc:Nat) (ps:Value) (e:Em) (v:Value) (ks:List Value)
  (hst:K.Ex D w la ln lc ps e) (hn:Bx D w l v ks) (hr:Ao D w c ks) (hsz:e.st.length+2*bsize (nd l c)<=800000) :
  Calls Tryz.prog 91 #[.pointer (some ⟨K.wb,0,none⟩),v] w fun r w'=>r=.returned (.tuple #[])/\K.Ex D w' la ln lc ps (As K.fns K.gl l (Az c) (em K.fns K.gl c) e)/\A3 D w w':=by
 obtain⟨hlo,lcb,hncb⟩:=hst.lo;have hnds:=Co l c;unfold Bx at hn;rw[if_neg z51a]at hn;obtain⟨b,cs,rfl,hD,hb,hl⟩:=hn;have e1:Ck l.kd=310:=by rw[hk];rfl
 have e2:Dn l.kd=312:=by rw[hk];rfl
 rw[e1];rw[e2]at hb;unfold Cy at hl;simp only[hk]at hl;rw[j5 hk];obtain⟨a1,a2,rfl,rfl⟩:=hl;obtain⟨x1,y1,l1,c1,r1,De,rfl,Bk,Au,hz⟩:=hr.cons';obtain⟨x2,y2,l2,c2,r2,Gm,rfl,Dm,B7,C9⟩:=hz.cons';obtain rfl:=C9.nil';have C1:bsize (.node x1 y1 l1 c1 (.node x2 y2 l2 c2 .nil))=bsize (nd l1 c1)+bsize (nd l2 c2):=by rw[Co,Co,bsize,bsize,bsize];omega
 rw[Ie,Ie,em];have hl1:=Gk K.fns K.gl l1 c1 e;have Gs:=Gk K.fns K.gl l2 c2 (As K.fns K.gl l1 (Az c1) (em K.fns K.gl c1) e);have Ia:=A0 (ih.1 D w la ln lc ps e a1 De hst Bk Au z51a);have Fb:=A0 (fun(W:World) (e2:Em) (he:e2.st.length+2*bsize (nd l2 c2)<=800000) (hx:K.Ex D W la ln lc ps e2) (hbd:A3 D w W)=>ih.2.1 D W la ln lc ps e2 a2 Gm hx (Dm.Bv hbd) (B7.Bv hbd) he);have HBk:=A0 hb;have d1:=A2 hb 1 a1 rfl;have ld:=A5 hb;have Dh:=V6 310 z52a;have Dz:=Yp 310 z52a;have Ep:=A53 310 z52a;have Fk:=Ar9 310 z52a;have G9:=A50;clear hst hb hr Bk Au hz Dm B7 C9 ih e1 e2 hk;generalize Hs:As K.fns K.gl l1 (Az c1) (em K.fns K.gl c1) e=C5 at *;generalize hE2:As K.fns K.gl l2 (Az c2) (em K.fns K.gl c2) C5=Fh at *;unfold Ch;go_enter Tryz.func91,Tryz.ntmps91;go_wp2_with fail
 refine(Ia.o).mono ?_;rintro r w1 ⟨rfl,Al,A1⟩;have A7:=A0 Al;have A4:=A0 A1;have Bu:=(A1.block b hD).trans HBk.o;have HBk1:=A0 Bu;clear Al A1 d1 ld;have d2:=A2 Bu 2 a2 rfl;have ld:=A5 Bu;clear Bu;go_wp2_with fail
 refine(Fb.o _ _ z51a A7.o A4.o).mono ?_;rintro r w2 ⟨rfl,B5,A8⟩;rw[hE2]at B5;have Aj:=A0 B5;have Aa:Hid (A3 D w w2):=A4.o.trans A8;have Dd:=(A8.block b hD).trans HBk1.o;clear B5 A8 d2 ld;have d0:w2.cell? ⟨b,0,none⟩=some (.int .i64 (l.line:Nat)):=A2 Dd 0 _ rfl;have ld:=A5 Dd;clear Dd;go_wp2_with fail
 refine(Ko Aj.o.ew z51a 39 0 l.line).mono ?_;rintro r w9 ⟨rfl,Fj,D1⟩;have HS9:=A0 (Aj.o.next (e':=Fh.step 39 0 l.line) D1 Fj rfl);have Da:Hid (A3 D w w9):=Aa.o.trans D1;exact z43a
theorem Aqp(K:EC)(l:A6)(c:BT A6)(hk:l.kd=12)(ih:D8 (Fm K) c):Fm K l c:=by
 intro D w la ln lc ps e v ks hst hn hr hsz;have HM:=A0 (Apu K l c hk ih D w la ln lc ps e v ks hst hn hr hsz);obtain⟨hlo,lcb,hncb⟩:=hst.lo;unfold Bx at hn;rw[if_neg z51a]at hn;obtain⟨b,cs,rfl,hD,hb,hl⟩:=hn;have e1:Ck l.kd=310:=by rw[hk];rfl
 rw[e1]at HM ⊢;have ld:=A5 hb;have Dh:=L7 310 z52a;have Dz:=Lo 310 z52a;have Ep:=Ml 310 z52a;have Fk:=Nb 310 z52a;have G9:=Nc 310 z52a;have Hx:=Oz 310 z52a;have J6:=R3 310 z52a;have ta7:=Ss 310 z52a;exact z1ba
end
end Go.Proofs.YtjdlndhfaaolaaaGreatDoor
