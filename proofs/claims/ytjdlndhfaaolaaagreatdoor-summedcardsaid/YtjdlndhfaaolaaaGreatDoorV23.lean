import Derived.Test.YtjdlndhfaaolaaaGreatDoorV22
set_option maxHeartbeats 20000000
namespace Go.Proofs.YtjdlndhfaaolaaaGreatDoor
section
set_option maxRecDepth 100000
open Go.RowKit
open Go.Deep (BT)
theorem z04a {P:Prop} (h:P:=by
  repeat (first|exact Below.refl _ _|refine Below.alloc ?_ z50a _|refine Below.setCell ?_ z50a _|refine Below.drew ?_)):P:=h
theorem Un(n:Int)(w:World):Calls Tryz.prog 85 #[.int .i64 n] w fun e w'=>e=.returned (.agg #[.int .i64 2,.bool false,.int .i64 n,.string ⟨#[]⟩,.pointer none])/\Below w.heap.size w w':=by
 go_enter Tryz.func85,Tryz.ntmps85;go_wp2;refine bodyPost_ret (v:=.agg #[.int .i64 2,.bool false,.int .i64 n,.string ⟨#[]⟩,.pointer none]) (by simp[results,Tryz.results85,go_sem]) rfl ⟨rfl,?_⟩;exact z04a
theorem A26(s:ByteArray)(w:World):Calls Tryz.prog 86 #[.string s] w fun e w'=>e=.returned (.agg #[.int .i64 3,.bool false,.int .i64 0,.string s,.pointer none])/\Below w.heap.size w w':=by
 go_enter Tryz.func86,Tryz.ntmps86;go_wp2;refine bodyPost_ret (v:=.agg #[.int .i64 3,.bool false,.int .i64 0,.string s,.pointer none]) (by simp[results,Tryz.results86,go_sem]) rfl ⟨rfl,?_⟩;exact z04a
theorem Xs(b:Bool)(w:World):Calls Tryz.prog 87 #[.bool b] w fun e w'=>e=.returned (.agg #[.int .i64 1,.bool b,.int .i64 0,.string ⟨#[]⟩,.pointer none])/\Below w.heap.size w w':=by
 go_enter Tryz.func87,Tryz.ntmps87;go_wp2;refine bodyPost_ret (v:=.agg #[.int .i64 1,.bool b,.int .i64 0,.string ⟨#[]⟩,.pointer none]) (by simp[results,Tryz.results87,go_sem]) rfl ⟨rfl,?_⟩;exact z04a
theorem Tg{D:Nat->Prop}{wb te:Nat}{w:World}{fs gs ls ps:Value}{slots:Nat}{st:List Ac}(h:Ka D wb te w fs gs ls ps slots st)(hn:st.length<=900000)(v:PV) :
  Calls Tryz.prog 84 #[.pointer (some ⟨wb,0,none⟩),.agg #[.int .i64 (v.k:Nat),.bool v.y,.int .i64 v.n,.string ⟨v.t.toArray⟩,.pointer none]] w fun e w'=>e=.returned (.tuple #[])/\Ka D wb te w' fs gs ls ps slots (st++[⟨0,0,0,v⟩])/\A3 D w w':=by
 have h0:Ka D wb te (w.alloc (.cells #[.int .i64 (v.k:Nat),.bool v.y,.int .i64 v.n,.string ⟨v.t.toArray⟩,.pointer none] 225)) fs gs ls ps slots st:=h.keep (fun g hg=>Below.heap_alloc _ _ _ hg) z50a;have Bf:A3 D w (w.alloc (.cells #[.int .i64 (v.k:Nat),.bool v.y,.int .i64 v.n,.string ⟨v.t.toArray⟩,.pointer none] 225)):=by
  obtain⟨_,_,_,h⟩:=h;exact(A3.refl D w).alloc h.lo _
 have F9:=heap_alloc_new w (.cells #[.int .i64 (v.k:Nat),.bool v.y,.int .i64 v.n,.string ⟨v.t.toArray⟩,.pointer none] 225);clear h;generalize hW:w.alloc (.cells #[.int .i64 (v.k:Nat),.bool v.y,.int .i64 v.n,.string ⟨v.t.toArray⟩,.pointer none] 225)=w0 at *;generalize hxb:w.heap.size=xb at *;have HW:=A0 hW;have HXb:=A0 hxb;clear hW hxb;have Af:=A0 Bf;obtain⟨sa,sn,sc,h⟩:=h0;have c:=A2 h.cell 5 _ rfl;have lb:=A5 h.cell;have hv:sn=st.length:=(C9 h.own).1;subst hv;have x0:=A2 F9 0 _ rfl;have x1:=A2 F9 1 _ rfl;have x2:=A2 F9 2 _ rfl;have x3:=A2 F9 3 _ rfl;have x4:=A2 F9 4 _ rfl;have lx:=A5 F9;have hown:w0.drew.ownsRow 0 251 8 (.slice sa st.length sc) st.length (Ek st):=B4 h.own (fun _ _ _=>rfl);have HH:=A0 h;have HP:=A0 (fun(w1:World) (g cap:Nat)=>h.A3f ⟨0,0,0,v⟩ (w1:=w1) (g:=g) (cap:=cap));clear h Bf F9;go_enter Tryz.func84,Tryz.ntmps84;go_wp2;rw[HW.o,HXb.o];go_region_law (refine Nc _ w0.heap.size #[.int .i64 0,.int .i64 0,.int .i64 0,.int .i64 (v.k:Nat),.bool v.y,.int .i64 v.n,.string ⟨v.t.toArray⟩,.pointer none] 251 (heap_alloc_new w0.drew _) rfl (.tmp 9) (.tmp 12) 96 rfl 0 8 72 _ Tryz.underlying96 Xb rfl z4va (.slice sa st.length sc) st.length (Ek st) rfl rfl (hown.alloc _) rfl (fun v hv=>by simp at hv;rcases hv with rfl|rfl|rfl|rfl|rfl|rfl|rfl|rfl <;> rfl) z4va z4va (Nat.zero_le _) ?_;intro g cap w1 F0 hgrow' hat' hg;have F3:=M5 (World.grownBy_alloc w0.drew _ none) hgrow';have hgrow:w0.grownBy w1 (Value.slice sa st.length sc).ownBlock:=⟨F3.os,F3.tape,F3.output,F3.size,F3.block⟩;clear F3;have hat:(Value.slice sa st.length sc).ownBlock=some g\/w0.heap.size<=g:=hat'.imp id (fun e=>by rw[e];simp);have A1:=(hgrow.block wb lb (fun e=>(HH.o.D5 wb e.symm).2 rfl)).trans HH.o.cell;have c1:=A2 A1 5 _ rfl;have f1:=Bd A1;have Bj:=A5 A1;have Bv:=A0 (HP.o w1 g cap F0 hgrow hat);clear A1 F0 hgrow hat hgrow' hat')
 all_goals go_wp2
 all_goals go_end0
 all_goals exact⟨rfl,⟨_,_,_,Bv.o.1⟩,Af.o.trans Bv.o.2⟩
theorem Ho.Afn{D:Nat->Prop}{w:World}{wb te:Nat}{fs gs ls ps:Value}{slots:Nat}{st:List Ac}{g sn sc:Nat}(h:Ho D wb te w fs gs ls ps slots st (some ⟨g,0,none⟩) sn sc)(j:Nat)(hj:j<st.length)(a:Int) :
  Ho D wb te (w.setCell ⟨g,j*8+1,none⟩ (.int .i64 a)) fs gs ls ps slots (K4 j a st) (some ⟨g,0,none⟩) sn sc/\A3 D w (w.setCell ⟨g,j*8+1,none⟩ (.int .i64 a)):=by
 have hg:=h.D5 g rfl;obtain⟨hl,⟨h2,h3⟩|⟨g',cap,cur,hv,_,hb,hcap,hmx,hsz,ht⟩⟩:=h.own
 ·cases h2
 injection hv with e1 e2 e3;injection e1 with e1;injection e1 with e1;subst e1 e2 e3;refine⟨⟨(Below.heap_setCell _ _ _ _ (by exact fun e=>hg.2 e.symm)).trans h.cell,⟨?_,.inr ⟨g,sc,cur.setIfInBounds (j*8+1) (.int .i64 a),?_,Nat.zero_le _,heap_set hb _,?_,hmx,?_,?_⟩⟩,h.Gv,h.D5,fun k hk=>by have:=h.lo k hk;simp[World.setCell];exact this⟩,(A3.refl D w).set hg.1 _⟩
 ·rw[Aej,Sl]
 ·rw[Sl]
 ·rw[Sl];exact hcap
 ·simpa using hsz
 ·rw[Sl,Aei a st j hj,Array.toList_setIfInBounds,←ht,List.take_set]
theorem Vb{D:Nat->Prop}{wb te:Nat}{w:World}{fs gs ls ps:Value}{slots:Nat}{st:List Ac}(h:Ka D wb te w fs gs ls ps slots st)(j:Nat)(hj:j<st.length) :
  Calls Tryz.prog 140 #[.pointer (some ⟨wb,0,none⟩),.int .i64 (j:Nat)] w fun e w'=>e=.returned (.tuple #[])/\Ka D wb te w' fs gs ls ps slots (K4 j (st.length:Nat) st)/\A3 D w w':=by
 have HHere:=A0 (X8 (h.keep (w':=w.drew) (fun _ _=>rfl) (Nat.le_refl _)));obtain⟨sa,sn,sc,h⟩:=h;have c:=A2 h.cell 5 _ rfl;have lb:=A5 h.cell;have hv:sn=st.length:=(C9 h.own).1;subst hv;obtain⟨hl,⟨h2,h3⟩|⟨g,cap,cur,hv,_,hb,hcap,hmx,hsz,ht⟩⟩:=h.own
 ·omega
 injection hv with e1 _ e3;subst e1 e3;have HL:=A0 (h.Afn j hj (st.length:Nat));have fg:=Bd hb;have lg:=A5 hb;have cg:w.cell? ⟨g,j*8+1,none⟩=some cur[j*8+1]:=by rw[cell_of_row w g (j*8+1) cur _ _ hb,Array.getElem?_eq_getElem z4va]
 generalize cur[j*8+1]=oldc at cg;have HB:Hid (A3 D w w.drew):=⟨rfl,rfl,rfl,Nat.le_refl _,fun _ _=>rfl⟩;clear h hb ht hl hsz hmx;go_enter Tryz.func140,Tryz.ntmps140;go_wp2;refine Ih 10 (by kernel_rfl) (by kernel_rfl) ?_;simp only[List.take_succ_cons,List.take_zero,List.drop_succ_cons,List.drop_zero];iterate 7 (refine Ez (fun K' hK'=>?_);go_simp;refine hK' _ ?_;clear hK' K')
 refine Ez (fun K' hK'=>?_);go_simp;refine⟨_,HHere.o,hK' _ ?_⟩;clear hK' K';iterate 2 (refine Ez (fun K' hK'=>?_);go_simp;refine hK' _ ?_;clear hK' K')
 refine Ig ?_;go_wp2;go_end0;exact⟨rfl,Ka.keep ⟨_,_,_,HL.o.1⟩ (fun _ _=>rfl) (Nat.le_refl _),HL.o.2.trans ⟨rfl,rfl,rfl,Nat.le_refl _,fun _ _=>rfl⟩⟩
theorem Aqd{D:Nat->Prop}{wb te:Nat}{w:World}{gs ls ps:Value}{slots:Nat}{st:List Ac}{fns:List (Nm×Nat)}{fa:Option Addr}{fn fc:Nat}(h:Ka D wb te w (.slice fa fn fc) gs ls ps slots st)(hf:Ic D w fns fa fn fc)(s:Nm) :
  Calls Tryz.prog 142 #[.pointer (some ⟨wb,0,none⟩),.string ⟨s.toArray⟩] w fun e w'=>e=.returned (.int .i64 (O0 fns s))/\w'=w:=by
 obtain⟨sa,sn,sc,h⟩:=h;have c:=A2 h.cell 0 _ rfl;have lb:=A5 h.cell;have hfew:=hf.Br;have hcap:=hf.cap;have hlen:=hf.len;subst hlen;have HH:=A0 hf;clear h hf;go_enter Tryz.func142,Tryz.ntmps142;go_wp2;go_loopg [12] fns.length (fun q v wr=>∃i:Nat,v=.int .i64 i/\i+q=fns.length/\(∀j,j<i->∀h':j<fns.length,fns[j].1≠s)/\wr=w)
 case atStart=>exact⟨0,rfl,by omega,fun i hi=>by omega,rfl⟩
 case round=>
  obtain⟨i,rfl,hik,hno,rfl⟩:=hrel;have HNo:=A0 hno;clear hno;by_cases hlt:i<fns.length
  ·obtain⟨g,pb,pa,pc,rfl,_,lg,cg,_,lp,c1,c2⟩:=HH.o.at' i hlt;have HI:Hid (fns[i].1=s->O0 fns s=(i:Nat)):=by
    intro e;unfold O0;rw[A0r s (fns.map Prod.fst) i (by simpa using hlt) (by simpa using e) (fun j hj hji=>by simpa using HNo.o j hji z5wa)]
   have HS:Hid (fns[i].1≠s->∀j,j<i+1->∀h':j<fns.length,fns[j].1≠s):=by
    exact z46a
   generalize fns[i]=x at *;cases hq:(x.1==s)
   ·have HQ:Hid (x.1≠s):=by rw[beq_eq_false_iff_ne]at hq;exact hq
    exact z2ha
   ·have HQ:Hid (x.1=s):=A0 (by simpa using hq);have HE:=A0 (HI.o HQ.o);go_wp2;go_ret;exact⟨Y5 HE.o.symm,rfl⟩
  ·have HT:Hid (O0 fns s=-1):=by
    show _=_;unfold O0;rw[A0q s (fns.map Prod.fst) (fun j hj=>by simpa using HNo.o j (by simp at hj;omega) z5wa)]
   go_wp2;go_ret;exact⟨Y5 HT.o.symm,rfl⟩
theorem EC.Ex.stk{K:EC}{D:Nat->Prop}{w:World}{la:Option Addr}{ln lc:Nat}{ps:Value}{e:Em}{sa:Option Addr}{sn sc:Nat}(h:K.Ex D w la ln lc ps e)(hv:Ho D K.wb K.te w (.slice K.fa K.fn K.fc) (.slice K.ga K.gn K.gc) (.slice la ln lc) ps e.slots e.st sa sn sc) :
  G2 9 K.wb 2 w #[.slice K.fa K.fn K.fc,.slice K.ga K.gn K.gc,.slice la ln lc,ps,.int .i64 (e.slots:Nat),.slice sa sn sc] K.te la ln lc (Df e.loc):=
 ⟨hv.cell,rfl,by have:=h.lr.1;rwa [show e.loc.length=(Df e.loc).length by simp[Df]]at this,fun e=>hv.Gv (h.lr.2 _ e)⟩
theorem A25{l:List Nm}{i:Nat}(h:i<l.length):(Df l)[i]'(by simp[Df];exact h)=.string ⟨l[i].toArray⟩:=by simp[Df,O4]
theorem P1(l:List Nm):(Df l).length=l.length:=by simp[Df]
theorem z2sa {P:Prop} (h:P:=by
  have Aa:=A0 A8;clear B0 A8;go_wp2;refine bodyPost_ret (v:=.tuple #[]) (by simp[results,Tryz.results88,go_sem]) rfl ?_;rw[HV.o];exact⟨rfl,Ai.o,Aa.o⟩):P:=h
theorem A53{K:EC}{D:Nat->Prop}{w:World}{la:Option Addr}{ln lc:Nat}{ps:Value}{e:Em}(h:K.Ex D w la ln lc ps e)(hn:e.st.length<=900000)(s:Nm)(lo gb:Nat) :
  Calls Tryz.prog 88 #[.pointer (some ⟨K.wb,0,none⟩),.string ⟨s.toArray⟩,.int .i64 (lo:Nat),.int .i64 (gb:Nat)] w fun r w'=>r=.returned (.tuple #[])/\K.Ex D w' la ln lc ps (e.var K.gl s lo gb)/\A3 D w w':=by
 have HX:=A0 h;obtain⟨sa,sn,sc,hv⟩:=h.ew;have hfew:=h.Br;obtain⟨c0,c1,c2,c3,c4,c5,fz,lb⟩:=Tu hv.cell;have HL:=A0 (Rb (h.stk hv));rw[P1]at HL;have HA:=A0 (fun i hi=>A3o (h.stk hv) i hi);have hgr:=h.gr.1;have hgn:K.gn=K.gl.length:=(C9 hgr).1;obtain⟨ga,hga⟩:∃ga,ga=K.ga:=⟨_,rfl⟩;rw[←hga]at c1 hgr;have HGr:=A0 hgr;have HSt:=A0 (fun(op:Nat) (arg:Int)=>Kz h.ew hn op arg 0);rw[hgn]at c1;clear h hv hgr hgn c0 c2 c3 c4 c5 fz hga;go_enter Tryz.func88,Tryz.ntmps88;go_wp2_with fail
 refine HL.o.mono ?_;rintro r w ⟨rfl,rfl⟩;go_wp2;go_loopg [8] e.loc.length (fun k v wr=>v=.int .i64 ((k:Int)-1)/\k<=e.loc.length/\(∀j (h:j<e.loc.length),k<=j->e.loc[j]≠s)/\wr=w)
 case atStart=>exact⟨rfl,Nat.le_refl _,fun j h h'=>by omega,rfl⟩
 case round=>
  obtain⟨rfl,hk,hno,rfl⟩:=hrel;have HNo:=A0 hno;clear hno;by_cases hlt:0<gk
  ·obtain⟨i,rfl⟩:∃i,gk=i+1:=⟨gk-1,by omega⟩;have hi:i<e.loc.length:=by omega
   have HA1:=A0 (HA.o i (by rw[P1];exact hi));rw[A25 hi]at HA1;have hpi:(((i+1:Nat):Int)-1)=(i:Int):=by omega
   rw[hpi];have HI:Hid (e.loc[i]=s->O3 s e.loc=some i):=fun e1=>Afq s _ i hi e1 (fun j hj hij=>HNo.o j hj z4va);have HS:Hid (e.loc[i]≠s->∀j (h:j<e.loc.length),i<=j->e.loc[j]≠s):=by
    intro hn j hj hij e2;by_cases hjn:j=i
    ·subst hjn;exact hn e2
    ·exact HNo.o j hj z4va e2
   generalize e.loc[i]=x at *;clear hpi;cases hq:(x==s)
   ·have HQ:Hid (x≠s):=by rw[beq_eq_false_iff_ne]at hq;exact hq
    go_wp2_with fail
    refine HA1.o.mono ?_;rintro r w' ⟨rfl,rfl⟩;go_wp2;go_roundg i
    case measure=>omega
    case rel=>exact⟨rfl,by omega,HS.o HQ.o,rfl⟩
   ·have HQ:Hid (x=s):=A0 (by simpa using hq);have HV:Hid (e.var K.gl s lo gb=e.step lo (i:Nat) 0):=by
     show _=_;unfold Em.var;rw[HI.o HQ.o]
    have HSt1:=A0 (HSt.o lo (i:Nat));go_wp2_with fail
    refine HA1.o.mono ?_;rintro r w' ⟨rfl,rfl⟩;go_wp2_with fail
    refine HSt1.o.mono ?_;rintro r w2 ⟨rfl,B0,A8⟩;have Ai:=A0 (HX.o.next (e':=e.step lo (i:Nat) 0) A8 B0 rfl);exact z2sa
  ·obtain rfl:gk=0:=by omega
   have HLn:Hid (O3 s e.loc=none):=A1g s _ (fun j hj=>HNo.o j hj z4va);clear hlt HNo;go_wp2;go_loopg [36] K.gl.length (fun q v wq=>∃i:Nat,v=.int .i64 i/\i+q=K.gl.length/\(∀j,j<i->∀h':j<K.gl.length,K.gl[j]≠s)/\wq=wr)
   case atStart=>exact⟨0,rfl,by omega,fun i hi=>by omega,rfl⟩
   case round=>
    obtain⟨i,rfl,hik,hno,rfl⟩:=hrel;have HNo:=A0 hno;clear hno;by_cases hlt:i<K.gl.length
    ·obtain⟨g,rfl,_,hcap,lg,hcell⟩:=Fo HGr.o z4va;have d0:=hcell i (.string ⟨K.gl[i].toArray⟩) (by rw[List.getElem?_eq_getElem (by rw[P1];exact hlt),A25 hlt]);have HI:Hid (K.gl[i]=s->Nz s K.gl=some i):=fun e1=>A0r s _ i hlt e1 (fun j hj hij=>HNo.o j hij hj);have HS:Hid (K.gl[i]≠s->∀j,j<i+1->∀h':j<K.gl.length,K.gl[j]≠s):=by
      intro hn j hj h' e2;by_cases hjn:j=i
      ·subst hjn;exact hn e2
      ·exact HNo.o j z4va h' e2
     clear hcell;generalize K.gl[i]=x at *;cases hq:(x==s)
     ·have HQ:Hid (x≠s):=by rw[beq_eq_false_iff_ne]at hq;exact hq
      exact z2ha
     ·have HQ:Hid (x=s):=A0 (by simpa using hq);have HV:Hid (e.var K.gl s lo gb=e.step gb (i:Nat) 0):=by
       show _=_;unfold Em.var;rw[HLn.o,HI.o HQ.o]
      have HSt1:=A0 (HSt.o gb (i:Nat));go_wp2_with fail
      refine HSt1.o.mono ?_;rintro r w2 ⟨rfl,B0,A8⟩;have Ai:=A0 (HX.o.next (e':=e.step gb (i:Nat) 0) A8 B0 rfl);exact z2sa
    ·have HV:Hid (e.var K.gl s lo gb=e):=by
      show _=_;unfold Em.var;rw[HLn.o,A0q s _ (fun j hj=>HNo.o j z4va hj)]
     go_wp2;go_end0;rw[HV.o];exact⟨rfl,HX.o,A3.refl _ _⟩
theorem Le(t:TypeId)(h:t≠220)(v:Value)(w:World):(Instr.typeAssert (.iface t v) 150 220 true).run Tryz.prog w=.ok (.tuple #[.pointer none,.bool false]) w:=Bg Tryz.underlying220 (by kernel_rfl) h v w
theorem Ari(v:Value)(w:World):(Instr.typeAssert (.iface 220 v) 150 220 true).run Tryz.prog w=.ok (.tuple #[v,.bool true]) w:=E3 Tryz.underlying220 v w
theorem Lx(t:TypeId)(h:t≠229)(v:Value)(w:World):(Instr.typeAssert (.iface t v) 150 229 true).run Tryz.prog w=.ok (.tuple #[.pointer none,.bool false]) w:=Bg Tryz.underlying229 (by kernel_rfl) h v w
theorem Arn(v:Value)(w:World):(Instr.typeAssert (.iface 229 v) 150 229 true).run Tryz.prog w=.ok (.tuple #[v,.bool true]) w:=E3 Tryz.underlying229 v w
theorem Mp(t:TypeId)(h:t≠233)(v:Value)(w:World):(Instr.typeAssert (.iface t v) 150 233 true).run Tryz.prog w=.ok (.tuple #[.pointer none,.bool false]) w:=Bg Tryz.underlying233 (by kernel_rfl) h v w
theorem A54(v:Value)(w:World):(Instr.typeAssert (.iface 233 v) 150 233 true).run Tryz.prog w=.ok (.tuple #[v,.bool true]) w:=E3 Tryz.underlying233 v w
theorem Nl(t:TypeId)(h:t≠237)(v:Value)(w:World):(Instr.typeAssert (.iface t v) 150 237 true).run Tryz.prog w=.ok (.tuple #[.pointer none,.bool false]) w:=Bg Tryz.underlying237 (by kernel_rfl) h v w
theorem Arl(v:Value)(w:World):(Instr.typeAssert (.iface 237 v) 150 237 true).run Tryz.prog w=.ok (.tuple #[v,.bool true]) w:=E3 Tryz.underlying237 v w
theorem Nn(t:TypeId)(h:t≠238)(v:Value)(w:World):(Instr.typeAssert (.iface t v) 150 238 true).run Tryz.prog w=.ok (.tuple #[.pointer none,.bool false]) w:=Bg Tryz.underlying238 (by kernel_rfl) h v w
theorem A57(v:Value)(w:World):(Instr.typeAssert (.iface 238 v) 150 238 true).run Tryz.prog w=.ok (.tuple #[v,.bool true]) w:=E3 Tryz.underlying238 v w
theorem Pe(t:TypeId)(h:t≠241)(v:Value)(w:World):(Instr.typeAssert (.iface t v) 150 241 true).run Tryz.prog w=.ok (.tuple #[.pointer none,.bool false]) w:=Bg Tryz.underlying241 (by kernel_rfl) h v w
theorem Arh(v:Value)(w:World):(Instr.typeAssert (.iface 241 v) 150 241 true).run Tryz.prog w=.ok (.tuple #[v,.bool true]) w:=E3 Tryz.underlying241 v w
theorem Rn(t:TypeId)(h:t≠244)(v:Value)(w:World):(Instr.typeAssert (.iface t v) 150 244 true).run Tryz.prog w=.ok (.tuple #[.pointer none,.bool false]) w:=Bg Tryz.underlying244 (by kernel_rfl) h v w
theorem A56(v:Value)(w:World):(Instr.typeAssert (.iface 244 v) 150 244 true).run Tryz.prog w=.ok (.tuple #[v,.bool true]) w:=E3 Tryz.underlying244 v w
theorem Ti(t:TypeId)(h:t≠248)(v:Value)(w:World):(Instr.typeAssert (.iface t v) 150 248 true).run Tryz.prog w=.ok (.tuple #[.pointer none,.bool false]) w:=Bg Tryz.underlying248 (by kernel_rfl) h v w
theorem Are(v:Value)(w:World):(Instr.typeAssert (.iface 248 v) 150 248 true).run Tryz.prog w=.ok (.tuple #[v,.bool true]) w:=E3 Tryz.underlying248 v w
theorem Vd(t:TypeId)(h:t≠296)(v:Value)(w:World):(Instr.typeAssert (.iface t v) 150 296 true).run Tryz.prog w=.ok (.tuple #[.pointer none,.bool false]) w:=Bg Tryz.underlying296 (by kernel_rfl) h v w
theorem Ark(v:Value)(w:World):(Instr.typeAssert (.iface 296 v) 150 296 true).run Tryz.prog w=.ok (.tuple #[v,.bool true]) w:=E3 Tryz.underlying296 v w
theorem Yz(t:TypeId)(h:t≠301)(v:Value)(w:World):(Instr.typeAssert (.iface t v) 150 301 true).run Tryz.prog w=.ok (.tuple #[.pointer none,.bool false]) w:=Bg Tryz.underlying301 (by kernel_rfl) h v w
theorem Arf(v:Value)(w:World):(Instr.typeAssert (.iface 301 v) 150 301 true).run Tryz.prog w=.ok (.tuple #[v,.bool true]) w:=E3 Tryz.underlying301 v w
theorem A58(t:TypeId)(h:t≠304)(v:Value)(w:World):(Instr.typeAssert (.iface t v) 150 304 true).run Tryz.prog w=.ok (.tuple #[.pointer none,.bool false]) w:=Bg Tryz.underlying304 (by kernel_rfl) h v w
theorem Arj(v:Value)(w:World):(Instr.typeAssert (.iface 304 v) 150 304 true).run Tryz.prog w=.ok (.tuple #[v,.bool true]) w:=E3 Tryz.underlying304 v w
theorem Aro(t:TypeId)(h:t≠307)(v:Value)(w:World):(Instr.typeAssert (.iface t v) 150 307 true).run Tryz.prog w=.ok (.tuple #[.pointer none,.bool false]) w:=Bg Tryz.underlying307 (by kernel_rfl) h v w
theorem Arm(v:Value)(w:World):(Instr.typeAssert (.iface 307 v) 150 307 true).run Tryz.prog w=.ok (.tuple #[v,.bool true]) w:=E3 Tryz.underlying307 v w
theorem A55(v:Value)(w:World):(Instr.typeAssert (.iface 310 v) 150 310 true).run Tryz.prog w=.ok (.tuple #[v,.bool true]) w:=E3 Tryz.underlying310 v w
theorem A44(t:TypeId)(h:t≠143)(v:Value)(w:World):(Instr.typeAssert (.iface t v) 142 143 true).run Tryz.prog w=.ok (.tuple #[.pointer none,.bool false]) w:=Bg Tryz.underlying143 (by kernel_rfl) h v w
theorem All(v:Value)(w:World):(Instr.typeAssert (.iface 143 v) 142 143 true).run Tryz.prog w=.ok (.tuple #[v,.bool true]) w:=E3 Tryz.underlying143 v w
theorem Na(t:TypeId)(h:t≠145)(v:Value)(w:World):(Instr.typeAssert (.iface t v) 142 145 true).run Tryz.prog w=.ok (.tuple #[.pointer none,.bool false]) w:=Bg Tryz.underlying145 (by kernel_rfl) h v w
theorem A3u(v:Value)(w:World):(Instr.typeAssert (.iface 145 v) 142 145 true).run Tryz.prog w=.ok (.tuple #[v,.bool true]) w:=E3 Tryz.underlying145 v w
theorem Pa(t:TypeId)(h:t≠253)(v:Value)(w:World):(Instr.typeAssert (.iface t v) 142 253 true).run Tryz.prog w=.ok (.tuple #[.pointer none,.bool false]) w:=Bg Tryz.underlying253 (by kernel_rfl) h v w
theorem Alm(v:Value)(w:World):(Instr.typeAssert (.iface 253 v) 142 253 true).run Tryz.prog w=.ok (.tuple #[v,.bool true]) w:=E3 Tryz.underlying253 v w
theorem Q2(t:TypeId)(h:t≠255)(v:Value)(w:World):(Instr.typeAssert (.iface t v) 142 255 true).run Tryz.prog w=.ok (.tuple #[.pointer none,.bool false]) w:=Bg Tryz.underlying255 (by kernel_rfl) h v w
theorem Alp(v:Value)(w:World):(Instr.typeAssert (.iface 255 v) 142 255 true).run Tryz.prog w=.ok (.tuple #[v,.bool true]) w:=E3 Tryz.underlying255 v w
theorem Rc(t:TypeId)(h:t≠257)(v:Value)(w:World):(Instr.typeAssert (.iface t v) 142 257 true).run Tryz.prog w=.ok (.tuple #[.pointer none,.bool false]) w:=Bg Tryz.underlying257 (by kernel_rfl) h v w
theorem Alo(v:Value)(w:World):(Instr.typeAssert (.iface 257 v) 142 257 true).run Tryz.prog w=.ok (.tuple #[v,.bool true]) w:=E3 Tryz.underlying257 v w
theorem T4(t:TypeId)(h:t≠259)(v:Value)(w:World):(Instr.typeAssert (.iface t v) 142 259 true).run Tryz.prog w=.ok (.tuple #[.pointer none,.bool false]) w:=Bg Tryz.underlying259 (by kernel_rfl) h v w
theorem Ali(v:Value)(w:World):(Instr.typeAssert (.iface 259 v) 142 259 true).run Tryz.prog w=.ok (.tuple #[v,.bool true]) w:=E3 Tryz.underlying259 v w
theorem V0(t:TypeId)(h:t≠264)(v:Value)(w:World):(Instr.typeAssert (.iface t v) 142 264 true).run Tryz.prog w=.ok (.tuple #[.pointer none,.bool false]) w:=Bg Tryz.underlying264 (by kernel_rfl) h v w
theorem Alj(v:Value)(w:World):(Instr.typeAssert (.iface 264 v) 142 264 true).run Tryz.prog w=.ok (.tuple #[v,.bool true]) w:=E3 Tryz.underlying264 v w
theorem Yg(t:TypeId)(h:t≠265)(v:Value)(w:World):(Instr.typeAssert (.iface t v) 142 265 true).run Tryz.prog w=.ok (.tuple #[.pointer none,.bool false]) w:=Bg Tryz.underlying265 (by kernel_rfl) h v w
theorem Aln(v:Value)(w:World):(Instr.typeAssert (.iface 265 v) 142 265 true).run Tryz.prog w=.ok (.tuple #[v,.bool true]) w:=E3 Tryz.underlying265 v w
theorem Am5(t:TypeId)(h:t≠268)(v:Value)(w:World):(Instr.typeAssert (.iface t v) 142 268 true).run Tryz.prog w=.ok (.tuple #[.pointer none,.bool false]) w:=Bg Tryz.underlying268 (by kernel_rfl) h v w
theorem A3v(v:Value)(w:World):(Instr.typeAssert (.iface 268 v) 142 268 true).run Tryz.prog w=.ok (.tuple #[v,.bool true]) w:=E3 Tryz.underlying268 v w
theorem Alk(v:Value)(w:World):(Instr.typeAssert (.iface 270 v) 142 270 true).run Tryz.prog w=.ok (.tuple #[v,.bool true]) w:=E3 Tryz.underlying270 v w
def Fj(K:EC)(l:A6)(c:BT A6):Prop:=∀(D:Nat->Prop) (w:World) (la:Option Addr) (ln lc:Nat) (ps:Value) (e:Em) (v:Value) (ks:List Value),
 K.Ex D w la ln lc ps e->Bs D w l v ks->An D w c ks->e.st.length+2*bsize (nd l c)<=800000->
 Calls Tryz.prog 54 #[.pointer (some ⟨K.wb,0,none⟩),v] w fun r w'=>r=.returned (.tuple #[])/\K.Ex D w' la ln lc ps (Ar K.fns K.gl l (Ax c) (em K.fns K.gl c) e)/\A3 D w w'
theorem A4w(K:EC)(c:BT A6)(hok:D6 (Fj K) c)(D:Nat->Prop)(w:World)(la:Option Addr)(ln lc:Nat)(ps:Value)(e:Em)(va:Option Addr)(vn vc:Nat)(ks:List Value)
  (hst:K.Ex D w la ln lc ps e) (hown:Cw D w 150 1 (.slice va vn vc) ks.length ks) (hrep:An D w c ks) (hsz:e.st.length+2*bsize c<=800000) :
  Calls Tryz.prog 141 #[.pointer (some ⟨K.wb,0,none⟩),.slice va vn vc] w fun r w'=>r=.returned (.tuple #[])/\K.Ex D w' la ln lc ps (em K.fns K.gl c 0 e)/\A3 D w w':=by
 have hvn:vn=ks.length:=(C9 hown.1).1;subst hvn;have HSt0:=A0 hst;have HOwn:=A0 hown;have HRep:=A0 hrep;have hlen:=hrep.len;have HLen:=A0 hlen;have hls:=Nt c;have hkl:ks.length<=400000:=by omega
 clear hst hown hrep hlen;go_enter Tryz.func141,Tryz.ntmps141;go_wp2;go_loopg [8] ks.length (fun k v wr=>∃(i:Nat) (ei:Em),v=.int .i64 i/\i+k=ks.length/\K.Ex D wr la ln lc ps ei/\em K.fns K.gl (Ca i c) 0 ei=em K.fns K.gl c 0 e/\ei.st.length+2*bsize (Ca i c)<=800000/\A3 D w wr)
 case atStart=>exact⟨0,e,rfl,by omega,HSt0.o,rfl,hsz,A3.refl _ _⟩
 case round=>
  clear HSt0;obtain⟨i,ei,rfl,hik,hst,hse,hsi,hbel⟩:=hrel;have HSt:=A0 hst;have HSe:=A0 hse;have HBel:=A0 hbel;clear hst hse hbel;by_cases hlt:i<ks.length
  ·have hr:=HRep.o.Bq HBel.o;obtain⟨x,y,l,cc,r,hd,v,ks',hv,hn,hrk⟩:=An.at' i c ks hr z5ga;obtain⟨g,rfl,_,hcap,lg,hcell⟩:=Fo (HOwn.o.Bq HBel.o).1 z4va;have d0:=hcell i v hv;have hE:=A0 (hok.at' i c x y l cc r hd);have hz:bsize (Ca i c)=bsize (nd l cc)+bsize r:=by rw[hd,Cj,bsize]
   have HNx:Hid (em K.fns K.gl (Ca (i+1) c) 0 (Ar K.fns K.gl l (Ax cc) (em K.fns K.gl cc) ei)=em K.fns K.gl c 0 e):=by
    show _=_;rw[Om i c x y l cc r hd,←HSe.o,hd,Ii]
   have hsn:(Ar K.fns K.gl l (Ax cc) (em K.fns K.gl cc) ei).st.length+2*bsize (Ca (i+1) c)<=800000:=by
    have:=Gj K.fns K.gl l cc ei;rw[Om i c x y l cc r hd];omega
   have HC:=A0 (hE.out D wr la ln lc ps ei v ks' HSt.o hn hrk z4va);have HSn:=A0 hsn;clear hr hd hv hn hrk hcell hsn hz;go_wp2_with fail
   refine HC.o.mono ?_;rintro r' w1 ⟨rfl,Ak,A1⟩;have A7:=A0 Ak;have A4:Hid (A3 D w w1):=HBel.o.trans A1;clear Ak A1;go_wp2;go_roundg (gk-1)
   case measure=>omega
   case rel=>exact⟨i+1,_,rfl,by omega,A7.o,HNx.o,HSn.o,A4.o⟩
  ·have HE:Hid (ei=em K.fns K.gl c 0 e):=by
    exact z0qa
   exact z2va
theorem Ar4(K:EC)(l:A6)(c:BT A6)(hk:l.kd=1):Fj K l c:=by
 intro D w la ln lc ps e v ks hst hn hr hsz;obtain⟨hlo,lcb,hncb⟩:=hst.lo;have hnds:=Cj l c;unfold Bs at hn;rw[if_neg z4va]at hn;obtain⟨b,cs,rfl,hD,hb,hl⟩:=hn;have e1:Cg l.kd=220:=by rw[hk];rfl
 have e2:Dk l.kd=228:=by rw[hk];rfl
 rw[e1];rw[e2]at hb;unfold Cv at hl;simp only[hk]at hl;rw[n9 hk];obtain⟨rfl,rfl⟩:=hl;have d0:w.cell? ⟨b,0,none⟩=some (.int .i64 l.n):=A2 hb 0 _ rfl;have ld:=A5 hb;have HX:=A0 hst;have HLo:=A0 hlo;have Dg:=Ari;clear hst hb e1 e2 hk hr;unfold Cc;go_enter Tryz.func54,Tryz.ntmps54;go_wp2_with fail
 refine(Un l.n _).mono ?_;rintro r w1 ⟨rfl,A1⟩;have I4:=A0 (HX.o.keep A1.block A1.size A1.os A1.tape A1.output);have A4:Hid (A3 D w w1):=⟨A1.os,A1.tape,A1.output,A1.size,fun g hg=>A1.block g (HLo.o g hg)⟩;clear A1;go_wp2_with fail
 refine(Tg I4.o.ew z4va ⟨2,false,l.n,[],none⟩).mono ?_;rintro r w2 ⟨rfl,B0,A8⟩;have Ai:=A0 (I4.o.next (e':=e.Jb ⟨2,false,l.n,[],none⟩) A8 B0 rfl);exact z10a
theorem Arb(K:EC)(l:A6)(c:BT A6)(hk:l.kd=2):Fj K l c:=by
 intro D w la ln lc ps e v ks hst hn hr hsz;obtain⟨hlo,lcb,hncb⟩:=hst.lo;have hnds:=Cj l c;unfold Bs at hn;rw[if_neg z4va]at hn;obtain⟨b,cs,rfl,hD,hb,hl⟩:=hn;have e1:Cg l.kd=229:=by rw[hk];rfl
 have e2:Dk l.kd=232:=by rw[hk];rfl
 rw[e1];rw[e2]at hb;unfold Cv at hl;simp only[hk]at hl;rw[p8 hk];obtain⟨rfl,rfl⟩:=hl;have d0:w.cell? ⟨b,0,none⟩=some (.string ⟨l.s.toArray⟩):=A2 hb 0 _ rfl;have ld:=A5 hb;have HX:=A0 hst;have HLo:=A0 hlo;have Dg:=Le 229 z4wa;have Dz:=Arn;clear hst hb e1 e2 hk hr;unfold Cc;go_enter Tryz.func54,Tryz.ntmps54;go_wp2_with fail
 refine(A26 ⟨l.s.toArray⟩ _).mono ?_;rintro r w1 ⟨rfl,A1⟩;have I4:=A0 (HX.o.keep A1.block A1.size A1.os A1.tape A1.output);have A4:Hid (A3 D w w1):=⟨A1.os,A1.tape,A1.output,A1.size,fun g hg=>A1.block g (HLo.o g hg)⟩;clear A1;go_wp2_with fail
 refine(Tg I4.o.ew z4va ⟨3,false,0,l.s,none⟩).mono ?_;rintro r w2 ⟨rfl,B0,A8⟩;have Ai:=A0 (I4.o.next (e':=e.Jb ⟨3,false,0,l.s,none⟩) A8 B0 rfl);exact z10a
theorem Arc(K:EC)(l:A6)(c:BT A6)(hk:l.kd=3):Fj K l c:=by
 intro D w la ln lc ps e v ks hst hn hr hsz;obtain⟨hlo,lcb,hncb⟩:=hst.lo;have hnds:=Cj l c;unfold Bs at hn;rw[if_neg z4va]at hn;obtain⟨b,cs,rfl,hD,hb,hl⟩:=hn;have e1:Cg l.kd=233:=by rw[hk];rfl
 have e2:Dk l.kd=236:=by rw[hk];rfl
 rw[e1];rw[e2]at hb;unfold Cv at hl;simp only[hk]at hl;rw[y8 hk];obtain⟨rfl,rfl⟩:=hl;have d0:w.cell? ⟨b,0,none⟩=some (.bool true):=A2 hb 0 _ rfl;have ld:=A5 hb;have HX:=A0 hst;have HLo:=A0 hlo;have Dg:=Le 233 z4wa;have Dz:=Lx 233 z4wa;have Ep:=A54;clear hst hb e1 e2 hk hr;unfold Cc;go_enter Tryz.func54,Tryz.ntmps54;go_wp2_with fail
 refine(Xs true _).mono ?_;rintro r w1 ⟨rfl,A1⟩;have I4:=A0 (HX.o.keep A1.block A1.size A1.os A1.tape A1.output);have A4:Hid (A3 D w w1):=⟨A1.os,A1.tape,A1.output,A1.size,fun g hg=>A1.block g (HLo.o g hg)⟩;clear A1;go_wp2_with fail
 refine(Tg I4.o.ew z4va ⟨1,true,0,[],none⟩).mono ?_;rintro r w2 ⟨rfl,B0,A8⟩;have Ai:=A0 (I4.o.next (e':=e.Jb ⟨1,true,0,[],none⟩) A8 B0 rfl);exact z10a
theorem Ar1(K:EC)(l:A6)(c:BT A6)(hk:l.kd=4):Fj K l c:=by
 intro D w la ln lc ps e v ks hst hn hr hsz;obtain⟨hlo,lcb,hncb⟩:=hst.lo;have hnds:=Cj l c;unfold Bs at hn;rw[if_neg z4va]at hn;obtain⟨b,cs,rfl,hD,hb,hl⟩:=hn;have e1:Cg l.kd=233:=by rw[hk];rfl
 have e2:Dk l.kd=236:=by rw[hk];rfl
 rw[e1];rw[e2]at hb;unfold Cv at hl;simp only[hk]at hl;rw[A00 hk];obtain⟨rfl,rfl⟩:=hl;have d0:w.cell? ⟨b,0,none⟩=some (.bool false):=A2 hb 0 _ rfl;have ld:=A5 hb;have HX:=A0 hst;have HLo:=A0 hlo;have Dg:=Le 233 z4wa;have Dz:=Lx 233 z4wa;have Ep:=A54;clear hst hb e1 e2 hk hr;unfold Cc;go_enter Tryz.func54,Tryz.ntmps54;go_wp2_with fail
 refine(Xs false _).mono ?_;rintro r w1 ⟨rfl,A1⟩;have I4:=A0 (HX.o.keep A1.block A1.size A1.os A1.tape A1.output);have A4:Hid (A3 D w w1):=⟨A1.os,A1.tape,A1.output,A1.size,fun g hg=>A1.block g (HLo.o g hg)⟩;clear A1;go_wp2_with fail
 refine(Tg I4.o.ew z4va ⟨1,false,0,[],none⟩).mono ?_;rintro r w2 ⟨rfl,B0,A8⟩;have Ai:=A0 (I4.o.next (e':=e.Jb ⟨1,false,0,[],none⟩) A8 B0 rfl);exact z10a
theorem Ar9(K:EC)(l:A6)(c:BT A6)(hk:l.kd=5):Fj K l c:=by
 intro D w la ln lc ps e v ks hst hn hr hsz;obtain⟨hlo,lcb,hncb⟩:=hst.lo;have hnds:=Cj l c;unfold Bs at hn;rw[if_neg z4va]at hn;obtain⟨b,cs,rfl,hD,hb,hl⟩:=hn;have e1:Cg l.kd=237:=by rw[hk];rfl
 have e2:Dk l.kd=450:=by rw[hk];rfl
 rw[e1];rw[e2]at hb;unfold Cv at hl;simp only[hk]at hl;rw[A01 hk];obtain⟨rfl,rfl⟩:=hl;have ld:=A5 hb;have HX:=A0 hst;have HLo:=A0 hlo;have Dg:=Le 237 z4wa;have Dz:=Lx 237 z4wa;have Ep:=Mp 237 z4wa;have Fh:=Arl;clear hst hb e1 e2 hk hr;unfold Cc;go_enter Tryz.func54,Tryz.ntmps54;have I4:=HX;have A4:=A0 (A3.refl D w);go_wp2_with fail
 refine(Tg I4.o.ew z4va Ag).mono ?_;rintro r w2 ⟨rfl,B0,A8⟩;have Ai:=A0 (I4.o.next (e':=e.Jb Ag) A8 B0 rfl);exact z10a
theorem z0ga {P:Prop} (h:P:=by
  rintro r w1 ⟨rfl,Ak,A1⟩;have A7:=A0 Ak;have A4:=A0 A1;clear Ak A1;go_wp2;go_end0;exact⟨rfl,A7.o,A4.o⟩):P:=h
theorem Ard(K:EC)(l:A6)(c:BT A6)(hk:l.kd=6):Fj K l c:=by
 intro D w la ln lc ps e v ks hst hn hr hsz;obtain⟨hlo,lcb,hncb⟩:=hst.lo;have hnds:=Cj l c;unfold Bs at hn;rw[if_neg z4va]at hn;obtain⟨b,cs,rfl,hD,hb,hl⟩:=hn;have e1:Cg l.kd=238:=by rw[hk];rfl
 have e2:Dk l.kd=240:=by rw[hk];rfl
 rw[e1];rw[e2]at hb;unfold Cv at hl;simp only[hk]at hl;rw[A02 hk];obtain⟨rfl,rfl⟩:=hl;have d0:w.cell? ⟨b,1,none⟩=some (.string ⟨l.s.toArray⟩):=A2 hb 1 _ rfl;have ld:=A5 hb;have HV:=A0 (A53 hst z4va l.s 1 2);have Dg:=Le 238 z4wa;have Dz:=Lx 238 z4wa;have Ep:=Mp 238 z4wa;have Fh:=Nl 238 z4wa;have G8:=A57;clear hst hb e1 e2 hk hr;unfold Cc;go_enter Tryz.func54,Tryz.ntmps54;go_wp2_with fail
 refine HV.o.mono ?_;exact z0ga
theorem Apf(w:World):Calls Tryz.prog 89 #[.int .i64 28] w fun e w'=>e=.returned (.int .i64 27)/\w'=w:=by
 go_enter Tryz.func89,Tryz.ntmps89;exact z03a
theorem Ape(w:World):Calls Tryz.prog 89 #[.int .i64 35] w fun e w'=>e=.returned (.int .i64 23)/\w'=w:=by
 go_enter Tryz.func89,Tryz.ntmps89;exact z03a
theorem z45a {P:Prop} (h:P:=by
  unfold Cc;go_enter Tryz.func54,Tryz.ntmps54;go_wp2_with fail
  refine HC.o.mono ?_;exact z0ga):P:=h
theorem Ar2(K:EC)(l:A6)(c:BT A6)(hk:l.kd=8)(ih:D6 (Fj K) c):Fj K l c:=by
 intro D w la ln lc ps e v ks hst hn hr hsz;obtain⟨hlo,lcb,hncb⟩:=hst.lo;have hnds:=Cj l c;unfold Bs at hn;rw[if_neg z4va]at hn;obtain⟨b,cs,rfl,hD,hb,hl⟩:=hn;have e1:Cg l.kd=241:=by rw[hk];rfl
 have e2:Dk l.kd=243:=by rw[hk];rfl
 rw[e1];rw[e2]at hb;unfold Cv at hl;simp only[hk]at hl;rw[A04 hk];obtain⟨a,rfl,rfl⟩:=hl;obtain⟨x1,y1,l1,c1,r1,Dd,rfl,Bl,At,hz⟩:=hr.cons';obtain rfl:=hz.nil';have By:bsize (.node x1 y1 l1 c1 .nil)=bsize (nd l1 c1):=by rw[Cj,bsize];rfl
 have hlen1:=Gj K.fns K.gl l1 c1 e;rw[Ii,em];have HC:=A0 (ih.1 D w la ln lc ps e a Dd hst Bl At z4va);have d0:=A2 hb 0 a rfl;have ld:=A5 hb;have HBk:=A0 hb;have Dg:=Le 241 z4wa;have Dz:=Lx 241 z4wa;have Ep:=Mp 241 z4wa;have Fh:=Nl 241 z4wa;have G8:=Nn 241 z4wa;have I1:=Arh;clear hst hb e1 e2 hk hr Bl At hz ih;exact z45a
theorem z1ma {P:Prop} (h:P:=by
  have D9:Hid (A3 D w w9):=A4.o.trans ((Dw D w1 1).trans Db);clear Fg Db;go_wp2;go_end0;exact⟨rfl,HS9.o,D9.o⟩):P:=h
theorem Ar8(K:EC)(l:A6)(c:BT A6)(hk:l.kd=13)(ih:D6 (Fj K) c):Fj K l c:=by
 intro D w la ln lc ps e v ks hst hn hr hsz;obtain⟨hlo,lcb,hncb⟩:=hst.lo;have hnds:=Cj l c;unfold Bs at hn;rw[if_neg z4va]at hn;obtain⟨b,cs,rfl,hD,hb,hl⟩:=hn;have e1:Cg l.kd=244:=by rw[hk];rfl
 have e2:Dk l.kd=246:=by rw[hk];rfl
 rw[e1];rw[e2]at hb;unfold Cv at hl;simp only[hk]at hl;rw[o9 hk];obtain⟨a,rfl,rfl⟩:=hl;obtain⟨x1,y1,l1,c1,r1,Dd,rfl,Bl,At,hz⟩:=hr.cons';obtain rfl:=hz.nil';have By:bsize (.node x1 y1 l1 c1 .nil)=bsize (nd l1 c1):=by rw[Cj,bsize];rfl
 have hlen1:=Gj K.fns K.gl l1 c1 e;rw[Ii,em];have HC:=A0 (ih.1 D w la ln lc ps e a Dd hst Bl At z4va);have d0:=A2 hb 2 a rfl;have ld:=A5 hb;have HBk:=A0 hb;have Dg:=Le 244 z4wa;have Dz:=Lx 244 z4wa;have Ep:=Mp 244 z4wa;have Fh:=Nl 244 z4wa;have G8:=Nn 244 z4wa;have I1:=Pe 244 z4wa;have J6:=A56;clear hst hb e1 e2 hk hr Bl At hz ih;unfold Cc;go_enter Tryz.func54,Tryz.ntmps54;go_wp2_with fail
 refine HC.o.mono ?_;rintro r w1 ⟨rfl,Ak,A1⟩;have A7:=A0 Ak;have A4:=A0 A1;have Bp:=(A1.block b hD).trans HBk.o;clear Ak A1 d0 ld;have d0:w1.cell? ⟨b,0,none⟩=some (.int .i64 (l.line:Nat)):=A2 Bp 0 _ rfl;have d1:=A2 Bp 1 _ rfl;have ld:=A5 Bp;clear Bp;go_wp2;refine Ih 10 (by kernel_rfl) (by kernel_rfl) ?_;simp only[List.take_succ_cons,List.take_zero,List.drop_succ_cons,List.drop_zero];iterate 5 (refine Ez (fun K' hK'=>?_);go_simp;refine hK' _ ?_;clear hK' K')
 refine Ez (fun K' hK'=>?_);go_simp;refine⟨_,Apf _,hK' _ ?_⟩;clear hK' K';iterate 4 (refine Ez (fun K' hK'=>?_);go_simp;refine hK' _ ?_;clear hK' K')
 refine Ig ?_;go_wp2_with fail
 refine(Kz (A7.o.drewN 1).ew z4va 27 0 l.line).mono ?_;rintro r w9 ⟨rfl,Fg,Db⟩;have HS9:=A0 ((A7.o.drewN 1).next (e':=(em K.fns K.gl .nil 0 (Ar K.fns K.gl l1 (Ax c1) (em K.fns K.gl c1) e)).step 27 0 l.line) Db Fg rfl);exact z1ma
theorem Ar7(K:EC)(l:A6)(c:BT A6)(hk:l.kd=14)(ih:D6 (Fj K) c):Fj K l c:=by
 intro D w la ln lc ps e v ks hst hn hr hsz;obtain⟨hlo,lcb,hncb⟩:=hst.lo;have hnds:=Cj l c;unfold Bs at hn;rw[if_neg z4va]at hn;obtain⟨b,cs,rfl,hD,hb,hl⟩:=hn;have e1:Cg l.kd=244:=by rw[hk];rfl
 have e2:Dk l.kd=246:=by rw[hk];rfl
 rw[e1];rw[e2]at hb;unfold Cv at hl;simp only[hk]at hl;rw[p7 hk];obtain⟨a,rfl,rfl⟩:=hl;obtain⟨x1,y1,l1,c1,r1,Dd,rfl,Bl,At,hz⟩:=hr.cons';obtain rfl:=hz.nil';have By:bsize (.node x1 y1 l1 c1 .nil)=bsize (nd l1 c1):=by rw[Cj,bsize];rfl
 have hlen1:=Gj K.fns K.gl l1 c1 e;rw[Ii,em];have HC:=A0 (ih.1 D w la ln lc ps e a Dd hst Bl At z4va);have d0:=A2 hb 2 a rfl;have ld:=A5 hb;have HBk:=A0 hb;have Dg:=Le 244 z4wa;have Dz:=Lx 244 z4wa;have Ep:=Mp 244 z4wa;have Fh:=Nl 244 z4wa;have G8:=Nn 244 z4wa;have I1:=Pe 244 z4wa;have J6:=A56;clear hst hb e1 e2 hk hr Bl At hz ih;unfold Cc;go_enter Tryz.func54,Tryz.ntmps54;go_wp2_with fail
 refine HC.o.mono ?_;rintro r w1 ⟨rfl,Ak,A1⟩;have A7:=A0 Ak;have A4:=A0 A1;have Bp:=(A1.block b hD).trans HBk.o;clear Ak A1 d0 ld;have d0:w1.cell? ⟨b,0,none⟩=some (.int .i64 (l.line:Nat)):=A2 Bp 0 _ rfl;have d1:=A2 Bp 1 _ rfl;have ld:=A5 Bp;clear Bp;go_wp2;refine Ih 10 (by kernel_rfl) (by kernel_rfl) ?_;simp only[List.take_succ_cons,List.take_zero,List.drop_succ_cons,List.drop_zero];iterate 5 (refine Ez (fun K' hK'=>?_);go_simp;refine hK' _ ?_;clear hK' K')
 refine Ez (fun K' hK'=>?_);go_simp;refine⟨_,Ape _,hK' _ ?_⟩;clear hK' K';iterate 4 (refine Ez (fun K' hK'=>?_);go_simp;refine hK' _ ?_;clear hK' K')
 refine Ig ?_;go_wp2_with fail
 refine(Kz (A7.o.drewN 1).ew z4va 23 0 l.line).mono ?_;rintro r w9 ⟨rfl,Fg,Db⟩;have HS9:=A0 ((A7.o.drewN 1).next (e':=(em K.fns K.gl .nil 0 (Ar K.fns K.gl l1 (Ax c1) (em K.fns K.gl c1) e)).step 23 0 l.line) Db Fg rfl);exact z1ma
theorem z1ca {P:Prop} (h:P:=by
  go_enter Tryz.func139,Tryz.ntmps139;exact z03a):P:=h
theorem A96(w:World):Calls Tryz.prog 139 #[.int .i64 27] w fun e w'=>e=.returned (.int .i64 25)/\w'=w:=by
 exact z1ca
theorem A97(w:World):Calls Tryz.prog 139 #[.int .i64 28] w fun e w'=>e=.returned (.int .i64 21)/\w'=w:=by
 exact z1ca
theorem A98(w:World):Calls Tryz.prog 139 #[.int .i64 29] w fun e w'=>e=.returned (.int .i64 26)/\w'=w:=by
 exact z1ca
theorem A99(w:World):Calls Tryz.prog 139 #[.int .i64 30] w fun e w'=>e=.returned (.int .i64 29)/\w'=w:=by
 exact z1ca
theorem A9a(w:World):Calls Tryz.prog 139 #[.int .i64 31] w fun e w'=>e=.returned (.int .i64 31)/\w'=w:=by
 exact z1ca
theorem A9b(w:World):Calls Tryz.prog 139 #[.int .i64 32] w fun e w'=>e=.returned (.int .i64 28)/\w'=w:=by
 exact z1ca
theorem A9c(w:World):Calls Tryz.prog 139 #[.int .i64 33] w fun e w'=>e=.returned (.int .i64 30)/\w'=w:=by
 exact z1ca
theorem A9d(w:World):Calls Tryz.prog 139 #[.int .i64 34] w fun e w'=>e=.returned (.int .i64 12)/\w'=w:=by
 exact z1ca
theorem A9e(w:World):Calls Tryz.prog 139 #[.int .i64 35] w fun e w'=>e=.returned (.int .i64 15)/\w'=w:=by
 exact z1ca
theorem A9f(w:World):Calls Tryz.prog 139 #[.int .i64 36] w fun e w'=>e=.returned (.int .i64 17)/\w'=w:=by
 exact z1ca
theorem A9g(w:World):Calls Tryz.prog 139 #[.int .i64 37] w fun e w'=>e=.returned (.int .i64 19)/\w'=w:=by
 exact z1ca
theorem A9h(w:World):Calls Tryz.prog 139 #[.int .i64 38] w fun e w'=>e=.returned (.int .i64 21)/\w'=w:=by
 exact z1ca
theorem A9i(w:World):Calls Tryz.prog 139 #[.int .i64 39] w fun e w'=>e=.returned (.int .i64 9)/\w'=w:=by
 exact z1ca
theorem A9j(w:World):Calls Tryz.prog 139 #[.int .i64 40] w fun e w'=>e=.returned (.int .i64 10)/\w'=w:=by
 exact z1ca
theorem Zq(s:Nat)(h1:27<=s)(h2:s<=40)(w:World):Calls Tryz.prog 139 #[.int .i64 (s:Nat)] w fun e w'=>e=.returned (.int .i64 (binOp s:Nat))/\w'=w:=by
 have h:s=27\/s=28\/s=29\/s=30\/s=31\/s=32\/s=33\/s=34\/s=35\/s=36\/s=37\/s=38\/s=39\/s=40:=by omega
 rcases h with rfl|rfl|rfl|rfl|rfl|rfl|rfl|rfl|rfl|rfl|rfl|rfl|rfl|rfl
 ·exact A96 w
 ·exact A97 w
 ·exact A98 w
 ·exact A99 w
 ·exact A9a w
 ·exact A9b w
 ·exact A9c w
 ·exact A9d w
 ·exact A9e w
 ·exact A9f w
 ·exact A9g w
 ·exact A9h w
 ·exact A9i w
 ·exact A9j w
theorem z3za {P:Prop} (h:P:=by
  clear Fg Db;go_wp2;go_end0;exact⟨rfl,HS9.o,D9.o⟩):P:=h
theorem Apz(K:EC)(l:A6)(c:BT A6)(h1:127<=l.kd)(h2:l.kd<=138)(ih:D6 (Fj K) c)(D:Nat->Prop)(w:World)(la:Option Addr)(ln lc:Nat)(ps:Value)(e:Em)(b:Nat)(a1 a2:Value)
  (hst:K.Ex D w la ln lc ps e) (hD:D b) (hb:w.heap[b]?=some (.cells #[.int .i64 (l.line:Nat),.int .i64 ((l.kd-100:Nat):Nat),a1,a2] 295 (0,0))) (hr:An D w c [a1,a2]) (hsz:e.st.length+2*bsize (nd l c)<=800000) :
  Calls Tryz.prog 90 #[.pointer (some ⟨K.wb,0,none⟩),.pointer (some ⟨b,0,none⟩)] w fun r w'=>r=.returned (.tuple #[])/\K.Ex D w' la ln lc ps (Ar K.fns K.gl l (Ax c) (em K.fns K.gl c) e)/\A3 D w w':=by
 obtain⟨hlo,lcb,hncb⟩:=hst.lo;have hnds:=Cj l c;obtain⟨x1,y1,l1,c1,r1,Dd,rfl,Bl,At,hz⟩:=hr.cons';obtain⟨x2,y2,l2,c2,r2,Gl,rfl,Di,B5,C5⟩:=hz.cons';obtain rfl:=C5.nil';have By:bsize (.node x1 y1 l1 c1 (.node x2 y2 l2 c2 .nil))=bsize (nd l1 c1)+bsize (nd l2 c2):=by rw[Cj,Cj,bsize,bsize,bsize];omega
 rw[A06 h1 h2,Ii,Ii,em];have hl1:=Gj K.fns K.gl l1 c1 e;have Gs:=Gj K.fns K.gl l2 c2 (Ar K.fns K.gl l1 (Ax c1) (em K.fns K.gl c1) e);have Hq:=A0 (ih.1 D w la ln lc ps e a1 Dd hst Bl At z4va);have Ev:=A0 (fun(W:World) (e2:Em) (he:e2.st.length+2*bsize (nd l2 c2)<=800000) (hx:K.Ex D W la ln lc ps e2) (hbd:A3 D w W)=>ih.2.1 D W la ln lc ps e2 a2 Gl hx (Di.Bq hbd) (B5.Bq hbd) he);have HBk:=A0 hb;have t39:(((l.kd-100:Nat):Int)==39)=false:=by rw[beq_eq_false_iff_ne];omega
 have t40:(((l.kd-100:Nat):Int)==40)=false:=by rw[beq_eq_false_iff_ne];omega
 have HOp:=A0 (fun W=>Zq (l.kd-100) z4va z4va W);have d0:=A2 hb 0 _ rfl;have d1:=A2 hb 1 _ rfl;have d2:=A2 hb 2 _ rfl;have d3:=A2 hb 3 _ rfl;have ld:=A5 hb;clear hst hb hr Bl At hz Di B5 C5 ih h1 h2;generalize l.kd-100=sg at *;generalize Hu:Ar K.fns K.gl l1 (Ax c1) (em K.fns K.gl c1) e=C0 at *;generalize hE2:Ar K.fns K.gl l2 (Ax c2) (em K.fns K.gl c2) C0=Fe at *;go_enter Tryz.func90,Tryz.ntmps90;go_wp2_with fail
 refine Hq.o.mono ?_;rintro r w1 ⟨rfl,Ak,A1⟩;have A7:=A0 Ak;have A4:=A0 A1;have Bp:=(A1.block b hD).trans HBk.o;have HBk1:=A0 Bp;clear Ak A1;clear d0 d1 d2 d3 ld;have d0:=A2 Bp 0 _ rfl;have d1:=A2 Bp 1 _ rfl;have d2:=A2 Bp 2 _ rfl;have d3:=A2 Bp 3 _ rfl;have ld:=A5 Bp;clear Bp;go_wp2_with fail
 refine(Ev.o _ _ z4va A7.o A4.o).mono ?_;rintro r w3 ⟨rfl,C6,Aj⟩;rw[hE2]at C6;have Bc:=A0 C6;have Av:Hid (A3 D w w3):=A4.o.trans Aj;have Ej:=(Aj.block b hD).trans HBk1.o;clear C6 Aj;clear d0 d1 d2 d3 ld;have d0:=A2 Ej 0 _ rfl;have d1:=A2 Ej 1 _ rfl;have d2:=A2 Ej 2 _ rfl;have d3:=A2 Ej 3 _ rfl;have ld:=A5 Ej;clear Ej;go_wp2;refine Ih 10 (by kernel_rfl) (by kernel_rfl) ?_;simp only[List.take_succ_cons,List.take_zero,List.drop_succ_cons,List.drop_zero];iterate 5 (refine Ez (fun K' hK'=>?_);go_simp;refine hK' _ ?_;clear hK' K')
 refine Ez (fun K' hK'=>?_);go_simp;refine⟨_,HOp.o _,hK' _ ?_⟩;clear hK' K';iterate 4 (refine Ez (fun K' hK'=>?_);go_simp;refine hK' _ ?_;clear hK' K')
 refine Ig ?_;go_wp2_with fail
 refine(Kz (Bc.o.drewN 1).ew z4va (binOp sg) 0 l.line).mono ?_;rintro r w9 ⟨rfl,Fg,Db⟩;have HS9:=A0 ((Bc.o.drewN 1).next (e':=(Fe).step (binOp sg) 0 l.line) Db Fg rfl);have D9:Hid (A3 D w w9):=Av.o.trans ((Dw D w3 1).trans Db);exact z3za
theorem z08a {P:Prop} (h:P:=by
  clear hsg t40;go_wp2_with fail
  refine Ih 10 (by kernel_rfl) (by kernel_rfl) ?_;simp only[List.take_succ_cons,List.take_zero,List.drop_succ_cons,List.drop_zero];iterate 5 (refine Ez (fun K' hK'=>?_);go_simp;refine hK' _ ?_;clear hK' K')
  refine Ez (fun K' hK'=>?_);go_simp;refine⟨_,HOp.o _,hK' _ ?_⟩;clear hK' K';iterate 4 (refine Ez (fun K' hK'=>?_);go_simp;refine hK' _ ?_;clear hK' K')
  refine Ig ?_;go_wp2_with fail
  refine(Kz (A7.o.drewN 1).ew z4va (binOp sg) 0 l.line).mono ?_;rintro r w2 ⟨rfl,B0,A8⟩;have Ai:=A0 ((A7.o.drewN 1).next (e':=C0.step (binOp sg) 0 l.line) A8 B0 rfl);have hb2':=(Dw D w1 1).trans A8;have Aa:Hid (A3 D w w2):=A4.o.trans hb2';have Dc:=(hb2'.block b hD).trans HBk1.o;have HBk2:=A0 Dc;clear B0 A8 hb2' d0 d1 d2 d3 ld;have d0:=A2 Dc 0 _ rfl;have d3:=A2 Dc 3 _ rfl;have ld:=A5 Dc;clear Dc;have Gs:(C0.step (binOp sg) 0 l.line).st.length=C0.st.length+1:=Dy _ _ _ _;have hl3:=Gj K.fns K.gl l2 c2 (C0.step (binOp sg) 0 l.line);have Fi:=A0 Gs;go_wp2_with fail
  refine(Ev.o _ _ z4va Ai.o Aa.o).mono ?_;rintro r w3 ⟨rfl,C6,Aj⟩;have Bc:=A0 C6;have Av:Hid (A3 D w w3):=Aa.o.trans Aj;have Ej:=(Aj.block b hD).trans HBk2.o;clear C6 Aj d0 d3 ld;have d0:=A2 Ej 0 _ rfl;have ld:=A5 Ej;clear Ej;have hl4:C0.st.length<(Ar K.fns K.gl l2 (Ax c2) (em K.fns K.gl c2) (C0.step (binOp sg) 0 l.line)).st.length+1:=by
   have:=Wk K.fns K.gl l2 c2 (C0.step (binOp sg) 0 l.line);omega
  generalize hE3:Ar K.fns K.gl l2 (Ax c2) (em K.fns K.gl c2) (C0.step (binOp sg) 0 l.line)=em3 at *;go_wp2_with fail
  refine(Kz Bc.o.ew z4va 11 0 l.line).mono ?_;rintro r w4 ⟨rfl,Ff,B8⟩;have Er:=A0 (Bc.o.next (e':=em3.step 11 0 l.line) B8 Ff rfl);have Cn:Hid (A3 D w w4):=Av.o.trans B8;clear Ff B8;go_wp2_with fail
  refine(Vb Er.o.ew C0.st.length (by rw[Dy];omega)).mono ?_;rintro r w5 ⟨rfl,Cm,Ch⟩;have Gp:=A0 (Er.o.next (e':=(em3.step 11 0 l.line).land C0.st.length) Ch Cm rfl);have E4:Hid (A3 D w w5):=Cn.o.trans Ch;clear Cm Ch;go_wp2;refine bodyPost_ret (v:=.tuple #[]) (by simp[results,Tryz.results90,go_sem]) rfl ?_;subst hE3;exact⟨rfl,Gp.o,E4.o⟩):P:=h
theorem Aq0(K:EC)(l:A6)(c:BT A6)(hk:l.kd=139\/l.kd=140)(ih:D6 (Fj K) c)(D:Nat->Prop)(w:World)(la:Option Addr)(ln lc:Nat)(ps:Value)(e:Em)(b:Nat)(a1 a2:Value)
  (hst:K.Ex D w la ln lc ps e) (hD:D b) (hb:w.heap[b]?=some (.cells #[.int .i64 (l.line:Nat),.int .i64 ((l.kd-100:Nat):Nat),a1,a2] 295 (0,0))) (hr:An D w c [a1,a2]) (hsz:e.st.length+2*bsize (nd l c)<=800000) :
  Calls Tryz.prog 90 #[.pointer (some ⟨K.wb,0,none⟩),.pointer (some ⟨b,0,none⟩)] w fun r w'=>r=.returned (.tuple #[])/\K.Ex D w' la ln lc ps (Ar K.fns K.gl l (Ax c) (em K.fns K.gl c) e)/\A3 D w w':=by
 obtain⟨hlo,lcb,hncb⟩:=hst.lo;have hnds:=Cj l c;obtain⟨x1,y1,l1,c1,r1,Dd,rfl,Bl,At,hz⟩:=hr.cons';obtain⟨x2,y2,l2,c2,r2,Gl,rfl,Di,B5,C5⟩:=hz.cons';obtain rfl:=C5.nil';have By:bsize (.node x1 y1 l1 c1 (.node x2 y2 l2 c2 .nil))=bsize (nd l1 c1)+bsize (nd l2 c2):=by rw[Cj,Cj,bsize,bsize,bsize];omega
 rw[A08 hk];simp only[N2,Qn,U9];have hl1:=Gj K.fns K.gl l1 c1 e;have Hq:=A0 (ih.1 D w la ln lc ps e a1 Dd hst Bl At z4va);have Ev:=A0 (fun(W:World) (e2:Em) (he:e2.st.length+2*bsize (nd l2 c2)<=800000) (hx:K.Ex D W la ln lc ps e2) (hbd:A3 D w W)=>ih.2.1 D W la ln lc ps e2 a2 Gl hx (Di.Bq hbd) (B5.Bq hbd) he);have HBk:=A0 hb;have t40:((((l.kd-100:Nat):Int)==39)||(((l.kd-100:Nat):Int)==40))=true:=by
  rcases hk with h|h <;> rw[h] <;> rfl
 have HOp:=A0 (fun W=>Zq (l.kd-100) z4va z4va W);have hlines:=Cj l2 c2;have d0:=A2 hb 0 _ rfl;have d1:=A2 hb 1 _ rfl;have d2:=A2 hb 2 _ rfl;have d3:=A2 hb 3 _ rfl;have ld:=A5 hb;clear hst hb hr Bl At hz Di B5 C5 ih;have hsg:((l.kd-100:Nat):Int)=39\/((l.kd-100:Nat):Int)=40:=by omega
 generalize l.kd-100=sg at *;clear hk;generalize Hu:Ar K.fns K.gl l1 (Ax c1) (em K.fns K.gl c1) e=C0 at *;go_enter Tryz.func90,Tryz.ntmps90;go_wp2_with fail
 refine Hq.o.mono ?_;rintro r w1 ⟨rfl,Ak,A1⟩;have A7:=A0 Ak;have A4:=A0 A1;have Bp:=(A1.block b hD).trans HBk.o;have HBk1:=A0 Bp;clear Ak A1;clear d0 d1 d2 d3 ld;have d0:=A2 Bp 0 _ rfl;have d1:=A2 Bp 1 _ rfl;have d2:=A2 Bp 2 _ rfl;have d3:=A2 Bp 3 _ rfl;have ld:=A5 Bp;clear Bp;rcases hsg with hsg|hsg
 ·have t39:((sg:Int)==39)=true:=by rw[hsg];rfl
  exact z08a
 ·have t39:((sg:Int)==39)=false:=by rw[hsg];rfl
  have t41:((sg:Int)==40)=true:=by rw[hsg];rfl
  exact z08a
theorem Aqz(K:EC)(l:A6)(c:BT A6)(h1:127<=l.kd)(h2:l.kd<=140)(ih:D6 (Fj K) c):Fj K l c:=by
 intro D w la ln lc ps e v ks hst hn hr hsz;unfold Bs at hn;rw[if_neg z4va]at hn;obtain⟨b,cs,rfl,hD,hb,hl⟩:=hn;have e1:Cg l.kd=248/\Dk l.kd=295:=by
  have hk:l.kd=127\/l.kd=128\/l.kd=129\/l.kd=130\/l.kd=131\/l.kd=132\/l.kd=133\/l.kd=134\/l.kd=135\/l.kd=136\/l.kd=137\/l.kd=138\/l.kd=139\/l.kd=140:=by omega
  rcases hk with h|h|h|h|h|h|h|h|h|h|h|h|h|h <;> rw[h] <;> exact⟨rfl,rfl⟩
 rw[e1.1];rw[e1.2]at hb;have Gs:∃a b,cs=#[Gd l.line,.int .i64 ((l.kd-100:Nat):Nat),a,b]/\ks=[a,b]:=by
  have hk:l.kd=127\/l.kd=128\/l.kd=129\/l.kd=130\/l.kd=131\/l.kd=132\/l.kd=133\/l.kd=134\/l.kd=135\/l.kd=136\/l.kd=137\/l.kd=138\/l.kd=139\/l.kd=140:=by omega
  unfold Cv at hl;rcases hk with h|h|h|h|h|h|h|h|h|h|h|h|h|h <;> simpa only[h]using hl
 obtain⟨a1,a2,rfl,rfl⟩:=Gs;have HC:Hid (Calls Tryz.prog 90 #[.pointer (some ⟨K.wb,0,none⟩),.pointer (some ⟨b,0,none⟩)] w fun r w'=>r=.returned (.tuple #[])/\K.Ex D w' la ln lc ps (Ar K.fns K.gl l (Ax c) (em K.fns K.gl c) e)/\A3 D w w'):=by
  by_cases A8:l.kd<=138
  ·exact Apz K l c h1 A8 ih D w la ln lc ps e b a1 a2 hst hD hb hr hsz
  ·exact Aq0 K l c z4va ih D w la ln lc ps e b a1 a2 hst hD hb hr hsz
 have Dg:=Le 248 z4wa;have Dz:=Lx 248 z4wa;have Ep:=Mp 248 z4wa;have Fh:=Nl 248 z4wa;have G8:=Nn 248 z4wa;have I1:=Pe 248 z4wa;have J6:=Rn 248 z4wa;have ta7:=Are;clear hst hb e1 hr hl ih;exact z45a
theorem Aqa(K:EC)(l:A6)(c:BT A6)(hk:l.kd=10)(ih:D6 (Fj K) c)  (D:Nat->Prop) (w:World) (la:Option Addr) (ln lc:Nat) (ps:Value) (e:Em) (v:Value) (ks:List Value)
  (hst:K.Ex D w la ln lc ps e) (hn:Bs D w l v ks) (hr:An D w c ks) (hsz:e.st.length+2*bsize (nd l c)<=800000) :
  Calls Tryz.prog 91 #[.pointer (some ⟨K.wb,0,none⟩),v] w fun r w'=>r=.returned (.tuple #[])/\K.Ex D w' la ln lc ps (Ar K.fns K.gl l (Ax c) (em K.fns K.gl c) e)/\A3 D w w':=by
 obtain⟨hlo,lcb,hncb⟩:=hst.lo;have hnds:=Cj l c;unfold Bs at hn;rw[if_neg z4va]at hn;obtain⟨b,cs,rfl,hD,hb,hl⟩:=hn;have e1:Cg l.kd=304:=by rw[hk];rfl
 have e2:Dk l.kd=306:=by rw[hk];rfl
 rw[e1];rw[e2]at hb;unfold Cv at hl;simp only[hk]at hl;rw[o6 hk];obtain⟨a,rfl,rfl⟩:=hl;obtain⟨x1,y1,l1,c1,r1,Dd,rfl,Bl,At,hz⟩:=hr.cons';obtain rfl:=hz.nil';have By:bsize (.node x1 y1 l1 c1 .nil)=bsize (nd l1 c1):=by rw[Cj,bsize];rfl
 have hlen1:=Gj K.fns K.gl l1 c1 e;rw[Ii,em];have HC:=A0 (ih.1 D w la ln lc ps e a Dd hst Bl At z4va);have d0:=A2 hb 1 a rfl;have ld:=A5 hb;have HBk:=A0 hb;have Dg:=Vd 304 z4wa;have Dz:=Yz 304 z4wa;have Ep:=Arj;clear hst hb e1 e2 hk hr Bl At hz ih;unfold Cc;go_enter Tryz.func91,Tryz.ntmps91;go_wp2_with fail
 refine(HC.o).mono ?_;rintro r w1 ⟨rfl,Ak,A1⟩;have A7:=A0 Ak;have A4:=A0 A1;have Bp:=(A1.block b hD).trans HBk.o;clear Ak A1 d0 ld;have d0:w1.cell? ⟨b,0,none⟩=some (.int .i64 (l.line:Nat)):=A2 Bp 0 _ rfl;have ld:=A5 Bp;clear Bp;generalize Hu:Ar K.fns K.gl l1 (Ax c1) (em K.fns K.gl c1) e=C0 at *;go_wp2_with fail
 refine(Kz A7.o.ew z4va 37 0 l.line).mono ?_;rintro r w9 ⟨rfl,Fg,Db⟩;have HS9:=A0 (A7.o.next (e':=C0.step 37 0 l.line) Db Fg rfl);have D9:Hid (A3 D w w9):=A4.o.trans Db;clear Fg Db;go_wp2;go_end0;subst Hu;exact⟨rfl,HS9.o,D9.o⟩
theorem z18a {P:Prop} (h:P:=by
  clear hst hb e1 hk hr hl ih;unfold Cc at HM ⊢;go_enter Tryz.func54,Tryz.ntmps54;go_wp2_with fail
  refine HM.o.mono ?_;exact z0ga):P:=h
theorem Ar5(K:EC)(l:A6)(c:BT A6)(hk:l.kd=10)(ih:D6 (Fj K) c):Fj K l c:=by
 intro D w la ln lc ps e v ks hst hn hr hsz;have HM:=A0 (Aqa K l c hk ih D w la ln lc ps e v ks hst hn hr hsz);obtain⟨hlo,lcb,hncb⟩:=hst.lo;unfold Bs at hn;rw[if_neg z4va]at hn;obtain⟨b,cs,rfl,hD,hb,hl⟩:=hn;have e1:Cg l.kd=304:=by rw[hk];rfl
 rw[e1]at HM ⊢;have ld:=A5 hb;have Dg:=Le 304 z4wa;have Dz:=Lx 304 z4wa;have Ep:=Mp 304 z4wa;have Fh:=Nl 304 z4wa;have G8:=Nn 304 z4wa;have I1:=Pe 304 z4wa;have J6:=Rn 304 z4wa;have ta7:=Ti 304 z4wa;exact z18a
theorem Aqc(K:EC)(l:A6)(c:BT A6)(hk:l.kd=11)(ih:D6 (Fj K) c)  (D:Nat->Prop) (w:World) (la:Option Addr) (ln lc:Nat) (ps:Value) (e:Em) (v:Value) (ks:List Value)
  (hst:K.Ex D w la ln lc ps e) (hn:Bs D w l v ks) (hr:An D w c ks) (hsz:e.st.length+2*bsize (nd l c)<=800000) :
  Calls Tryz.prog 91 #[.pointer (some ⟨K.wb,0,none⟩),v] w fun r w'=>r=.returned (.tuple #[])/\K.Ex D w' la ln lc ps (Ar K.fns K.gl l (Ax c) (em K.fns K.gl c) e)/\A3 D w w':=by
 obtain⟨hlo,lcb,hncb⟩:=hst.lo;have hnds:=Cj l c;unfold Bs at hn;rw[if_neg z4va]at hn;obtain⟨b,cs,rfl,hD,hb,hl⟩:=hn;have e1:Cg l.kd=307:=by rw[hk];rfl
 have e2:Dk l.kd=309:=by rw[hk];rfl
 rw[e1];rw[e2]at hb;unfold Cv at hl;simp only[hk]at hl;rw[o7 hk];obtain⟨a1,a2,rfl,rfl⟩:=hl;obtain⟨x1,y1,l1,c1,r1,Dd,rfl,Bl,At,hz⟩:=hr.cons';obtain⟨x2,y2,l2,c2,r2,Gl,rfl,Di,B5,C5⟩:=hz.cons';obtain rfl:=C5.nil';have By:bsize (.node x1 y1 l1 c1 (.node x2 y2 l2 c2 .nil))=bsize (nd l1 c1)+bsize (nd l2 c2):=by rw[Cj,Cj,bsize,bsize,bsize];omega
 rw[Ii,Ii,em];have hl1:=Gj K.fns K.gl l1 c1 e;have Gs:=Gj K.fns K.gl l2 c2 (Ar K.fns K.gl l1 (Ax c1) (em K.fns K.gl c1) e);have Hq:=A0 (ih.1 D w la ln lc ps e a1 Dd hst Bl At z4va);have Ev:=A0 (fun(W:World) (e2:Em) (he:e2.st.length+2*bsize (nd l2 c2)<=800000) (hx:K.Ex D W la ln lc ps e2) (hbd:A3 D w W)=>ih.2.1 D W la ln lc ps e2 a2 Gl hx (Di.Bq hbd) (B5.Bq hbd) he);have HBk:=A0 hb;have d1:=A2 hb 1 a1 rfl;have ld:=A5 hb;have Dg:=Vd 307 z4wa;have Dz:=Yz 307 z4wa;have Ep:=A58 307 z4wa;have Fh:=Arm;clear hst hb hr Bl At hz Di B5 C5 ih e1 e2 hk;generalize Hu:Ar K.fns K.gl l1 (Ax c1) (em K.fns K.gl c1) e=C0 at *;generalize hE2:Ar K.fns K.gl l2 (Ax c2) (em K.fns K.gl c2) C0=Fe at *;unfold Cc;go_enter Tryz.func91,Tryz.ntmps91;go_wp2_with fail
 refine(Hq.o).mono ?_;rintro r w1 ⟨rfl,Ak,A1⟩;have A7:=A0 Ak;have A4:=A0 A1;have Bp:=(A1.block b hD).trans HBk.o;have HBk1:=A0 Bp;clear Ak A1 d1 ld;have d2:=A2 Bp 2 a2 rfl;have ld:=A5 Bp;clear Bp;go_wp2_with fail
 refine(Ev.o _ _ z4va A7.o A4.o).mono ?_;rintro r w2 ⟨rfl,B0,A8⟩;rw[hE2]at B0;have Ai:=A0 B0;have Aa:Hid (A3 D w w2):=A4.o.trans A8;have Dc:=(A8.block b hD).trans HBk1.o;clear B0 A8 d2 ld;have d0:w2.cell? ⟨b,0,none⟩=some (.int .i64 (l.line:Nat)):=A2 Dc 0 _ rfl;have ld:=A5 Dc;clear Dc;go_wp2_with fail
 refine(Kz Ai.o.ew z4va 38 0 l.line).mono ?_;rintro r w9 ⟨rfl,Fg,Db⟩;have HS9:=A0 (Ai.o.next (e':=Fe.step 38 0 l.line) Db Fg rfl);have D9:Hid (A3 D w w9):=Aa.o.trans Db;exact z3za
theorem Ara(K:EC)(l:A6)(c:BT A6)(hk:l.kd=11)(ih:D6 (Fj K) c):Fj K l c:=by
 intro D w la ln lc ps e v ks hst hn hr hsz;have HM:=A0 (Aqc K l c hk ih D w la ln lc ps e v ks hst hn hr hsz);obtain⟨hlo,lcb,hncb⟩:=hst.lo;unfold Bs at hn;rw[if_neg z4va]at hn;obtain⟨b,cs,rfl,hD,hb,hl⟩:=hn;have e1:Cg l.kd=307:=by rw[hk];rfl
 rw[e1]at HM ⊢;have ld:=A5 hb;have Dg:=Le 307 z4wa;have Dz:=Lx 307 z4wa;have Ep:=Mp 307 z4wa;have Fh:=Nl 307 z4wa;have G8:=Nn 307 z4wa;have I1:=Pe 307 z4wa;have J6:=Rn 307 z4wa;have ta7:=Ti 307 z4wa;exact z18a
theorem Aq9(K:EC)(l:A6)(c:BT A6)(hk:l.kd=12)(ih:D6 (Fj K) c)  (D:Nat->Prop) (w:World) (la:Option Addr) (ln lc:Nat) (ps:Value) (e:Em) (v:Value) (ks:List Value)
  (hst:K.Ex D w la ln lc ps e) (hn:Bs D w l v ks) (hr:An D w c ks) (hsz:e.st.length+2*bsize (nd l c)<=800000) :
  Calls Tryz.prog 91 #[.pointer (some ⟨K.wb,0,none⟩),v] w fun r w'=>r=.returned (.tuple #[])/\K.Ex D w' la ln lc ps (Ar K.fns K.gl l (Ax c) (em K.fns K.gl c) e)/\A3 D w w':=by
 obtain⟨hlo,lcb,hncb⟩:=hst.lo;have hnds:=Cj l c;unfold Bs at hn;rw[if_neg z4va]at hn;obtain⟨b,cs,rfl,hD,hb,hl⟩:=hn;have e1:Cg l.kd=310:=by rw[hk];rfl
 have e2:Dk l.kd=312:=by rw[hk];rfl
 rw[e1];rw[e2]at hb;unfold Cv at hl;simp only[hk]at hl;rw[o8 hk];obtain⟨a1,a2,rfl,rfl⟩:=hl;obtain⟨x1,y1,l1,c1,r1,Dd,rfl,Bl,At,hz⟩:=hr.cons';obtain⟨x2,y2,l2,c2,r2,Gl,rfl,Di,B5,C5⟩:=hz.cons';obtain rfl:=C5.nil';have By:bsize (.node x1 y1 l1 c1 (.node x2 y2 l2 c2 .nil))=bsize (nd l1 c1)+bsize (nd l2 c2):=by rw[Cj,Cj,bsize,bsize,bsize];omega
 rw[Ii,Ii,em];have hl1:=Gj K.fns K.gl l1 c1 e;have Gs:=Gj K.fns K.gl l2 c2 (Ar K.fns K.gl l1 (Ax c1) (em K.fns K.gl c1) e);have Hq:=A0 (ih.1 D w la ln lc ps e a1 Dd hst Bl At z4va);have Ev:=A0 (fun(W:World) (e2:Em) (he:e2.st.length+2*bsize (nd l2 c2)<=800000) (hx:K.Ex D W la ln lc ps e2) (hbd:A3 D w W)=>ih.2.1 D W la ln lc ps e2 a2 Gl hx (Di.Bq hbd) (B5.Bq hbd) he);have HBk:=A0 hb;have d1:=A2 hb 1 a1 rfl;have ld:=A5 hb;have Dg:=Vd 310 z4wa;have Dz:=Yz 310 z4wa;have Ep:=A58 310 z4wa;have Fh:=Aro 310 z4wa;have G8:=A55;clear hst hb hr Bl At hz Di B5 C5 ih e1 e2 hk;generalize Hu:Ar K.fns K.gl l1 (Ax c1) (em K.fns K.gl c1) e=C0 at *;generalize hE2:Ar K.fns K.gl l2 (Ax c2) (em K.fns K.gl c2) C0=Fe at *;unfold Cc;go_enter Tryz.func91,Tryz.ntmps91;go_wp2_with fail
 refine(Hq.o).mono ?_;rintro r w1 ⟨rfl,Ak,A1⟩;have A7:=A0 Ak;have A4:=A0 A1;have Bp:=(A1.block b hD).trans HBk.o;have HBk1:=A0 Bp;clear Ak A1 d1 ld;have d2:=A2 Bp 2 a2 rfl;have ld:=A5 Bp;clear Bp;go_wp2_with fail
 refine(Ev.o _ _ z4va A7.o A4.o).mono ?_;rintro r w2 ⟨rfl,B0,A8⟩;rw[hE2]at B0;have Ai:=A0 B0;have Aa:Hid (A3 D w w2):=A4.o.trans A8;have Dc:=(A8.block b hD).trans HBk1.o;clear B0 A8 d2 ld;have d0:w2.cell? ⟨b,0,none⟩=some (.int .i64 (l.line:Nat)):=A2 Dc 0 _ rfl;have ld:=A5 Dc;clear Dc;go_wp2_with fail
 refine(Kz Ai.o.ew z4va 39 0 l.line).mono ?_;rintro r w9 ⟨rfl,Fg,Db⟩;have HS9:=A0 (Ai.o.next (e':=Fe.step 39 0 l.line) Db Fg rfl);have D9:Hid (A3 D w w9):=Aa.o.trans Db;exact z3za
theorem Ar3(K:EC)(l:A6)(c:BT A6)(hk:l.kd=12)(ih:D6 (Fj K) c):Fj K l c:=by
 intro D w la ln lc ps e v ks hst hn hr hsz;have HM:=A0 (Aq9 K l c hk ih D w la ln lc ps e v ks hst hn hr hsz);obtain⟨hlo,lcb,hncb⟩:=hst.lo;unfold Bs at hn;rw[if_neg z4va]at hn;obtain⟨b,cs,rfl,hD,hb,hl⟩:=hn;have e1:Cg l.kd=310:=by rw[hk];rfl
 rw[e1]at HM ⊢;have ld:=A5 hb;have Dg:=Le 310 z4wa;have Dz:=Lx 310 z4wa;have Ep:=Mp 310 z4wa;have Fh:=Nl 310 z4wa;have G8:=Nn 310 z4wa;have I1:=Pe 310 z4wa;have J6:=Rn 310 z4wa;have ta7:=Ti 310 z4wa;exact z18a
theorem Aqb(K:EC)(l:A6)(c:BT A6)(hk:l.kd=9)(ih:D6 (Fj K) c)  (D:Nat->Prop) (w:World) (la:Option Addr) (ln lc:Nat) (ps:Value) (e:Em) (v:Value) (ks:List Value)
  (hst:K.Ex D w la ln lc ps e) (hn:Bs D w l v ks) (hr:An D w c ks) (hsz:e.st.length+2*bsize (nd l c)<=800000) :
  Calls Tryz.prog 91 #[.pointer (some ⟨K.wb,0,none⟩),v] w fun r w'=>r=.returned (.tuple #[])/\K.Ex D w' la ln lc ps (Ar K.fns K.gl l (Ax c) (em K.fns K.gl c) e)/\A3 D w w':=by
 obtain⟨hlo,lcb,hncb⟩:=hst.lo;have hnds:=Cj l c;unfold Bs at hn;rw[if_neg z4va]at hn;obtain⟨b,cs,rfl,hD,hb,hl⟩:=hn;have e1:Cg l.kd=296:=by rw[hk];rfl
 have e2:Dk l.kd=300:=by rw[hk];rfl
 rw[e1];rw[e2]at hb;unfold Cv at hl;simp only[hk]at hl;rw[A05 hk];obtain⟨sl,rfl,ho⟩:=hl;obtain⟨va,vn,vc,rfl⟩:∃va vn vc,sl=.slice va vn vc:=O5 ho.1;have hvn:vn=ks.length:=(C9 ho.1).1;have hkl:=hr.len;have hbl:=Nt c;rw[←hkl];have hem:=(On K.fns K.gl c).1 e;have HC:=A0 (A4w K c ih D w la ln lc ps e va vn vc ks hst ho hr z4va);have HBk:=A0 hb;have d1:=A2 hb 1 _ rfl;have ld:=A5 hb;have Dg:=Ark;clear hst hb e1 e2 hk hr ih ho hkl hbl;subst hvn;generalize Hu:em K.fns K.gl c 0 e=C0 at *;unfold Cc;go_enter Tryz.func91,Tryz.ntmps91;go_wp2_with fail
 refine(HC.o).mono ?_;rintro r w1 ⟨rfl,Ak,A1⟩;have A7:=A0 Ak;have A4:=A0 A1;have Bp:=(A1.block b hD).trans HBk.o;clear Ak A1 d1 ld;have d0:w1.cell? ⟨b,0,none⟩=some (.int .i64 (l.line:Nat)):=A2 Bp 0 _ rfl;have d1:=A2 Bp 1 _ rfl;have ld:=A5 Bp;clear Bp;go_wp2;refine Ih 10 (by kernel_rfl) (by kernel_rfl) ?_;simp only[List.take_succ_cons,List.take_zero,List.drop_succ_cons,List.drop_zero];iterate 10 (refine Ez (fun K' hK'=>?_);go_simp;refine hK' _ ?_;clear hK' K')
 refine Ig ?_;go_wp2_with fail
 refine(Kz (A7.o.drewN 1).ew z4va 36 (ks.length:Nat) l.line).mono ?_;rintro r w9 ⟨rfl,Fg,Db⟩;have HS9:=A0 ((A7.o.drewN 1).next (e':=(C0).step 36 (ks.length:Nat) l.line) Db Fg rfl);exact z1ma
theorem Ar6(K:EC)(l:A6)(c:BT A6)(hk:l.kd=9)(ih:D6 (Fj K) c):Fj K l c:=by
 intro D w la ln lc ps e v ks hst hn hr hsz;have HM:=A0 (Aqb K l c hk ih D w la ln lc ps e v ks hst hn hr hsz);obtain⟨hlo,lcb,hncb⟩:=hst.lo;unfold Bs at hn;rw[if_neg z4va]at hn;obtain⟨b,cs,rfl,hD,hb,hl⟩:=hn;have e1:Cg l.kd=296:=by rw[hk];rfl
 rw[e1]at HM ⊢;have ld:=A5 hb;have Dg:=Le 296 z4wa;have Dz:=Lx 296 z4wa;have Ep:=Mp 296 z4wa;have Fh:=Nl 296 z4wa;have G8:=Nn 296 z4wa;have I1:=Pe 296 z4wa;have J6:=Rn 296 z4wa;have ta7:=Ti 296 z4wa;exact z18a
theorem Aq8(K:EC)(l:A6)(c:BT A6)(hk:l.kd=7)(ih:D6 (Fj K) c)  (D:Nat->Prop) (w:World) (la:Option Addr) (ln lc:Nat) (ps:Value) (e:Em) (v:Value) (ks:List Value)
  (hst:K.Ex D w la ln lc ps e) (hn:Bs D w l v ks) (hr:An D w c ks) (hsz:e.st.length+2*bsize (nd l c)<=800000) :
  Calls Tryz.prog 91 #[.pointer (some ⟨K.wb,0,none⟩),v] w fun r w'=>r=.returned (.tuple #[])/\K.Ex D w' la ln lc ps (Ar K.fns K.gl l (Ax c) (em K.fns K.gl c) e)/\A3 D w w':=by
 obtain⟨hlo,lcb,hncb⟩:=hst.lo;have hnds:=Cj l c;unfold Bs at hn;rw[if_neg z4va]at hn;obtain⟨b,cs,rfl,hD,hb,hl⟩:=hn;have e1:Cg l.kd=301:=by rw[hk];rfl
 have e2:Dk l.kd=303:=by rw[hk];rfl
 rw[e1];rw[e2]at hb;unfold Cv at hl;simp only[hk]at hl;rw[A03 hk];obtain⟨sl,rfl,ho⟩:=hl;obtain⟨va,vn,vc,rfl⟩:∃va vn vc,sl=.slice va vn vc:=O5 ho.1;have hvn:vn=ks.length:=(C9 ho.1).1;have hkl:=hr.len;have hbl:=Nt c;have hem:=(On K.fns K.gl c).1 e;have HC:=A0 (A4w K c ih D w la ln lc ps e va vn vc ks hst ho hr z4va);have HBk:=A0 hb;have d1:=A2 hb 2 _ rfl;have ld:=A5 hb;have Dg:=Vd 301 z4wa;have Dz:=Arf;clear hst hb e1 e2 hk hr ih ho hkl hbl;subst hvn;generalize Hu:em K.fns K.gl c 0 e=C0 at *;unfold Cc;go_enter Tryz.func91,Tryz.ntmps91;go_wp2_with fail
 refine(HC.o).mono ?_;rintro r w1 ⟨rfl,Ak,A1⟩;have A7:=A0 Ak;have A4:=A0 A1;have Bp:=(A1.block b hD).trans HBk.o;clear Ak A1 d1 ld;have HNum:=A0 (Aqd (A7.o.drewN 1).ew (A7.o.drewN 1).fr l.s);have d0:w1.cell? ⟨b,0,none⟩=some (.int .i64 (l.line:Nat)):=A2 Bp 0 _ rfl;have d1:w1.cell? ⟨b,1,none⟩=some (.string ⟨l.s.toArray⟩):=A2 Bp 1 _ rfl;have ld:=A5 Bp;clear Bp;go_wp2;refine Ih 11 (by kernel_rfl) (by kernel_rfl) ?_;simp only[List.take_succ_cons,List.take_zero,List.drop_succ_cons,List.drop_zero];iterate 6 (refine Ez (fun K' hK'=>?_);go_simp;refine hK' _ ?_;clear hK' K')
 refine Ez (fun K' hK'=>?_);go_simp;refine⟨_,HNum.o,hK' _ ?_⟩;clear hK' K';iterate 4 (refine Ez (fun K' hK'=>?_);go_simp;refine hK' _ ?_;clear hK' K')
 refine Ig ?_;go_wp2_with fail
 refine(Kz (A7.o.drewN 1).ew z4va 42 (O0 K.fns l.s) l.line).mono ?_;rintro r w9 ⟨rfl,Fg,Db⟩;have HS9:=A0 ((A7.o.drewN 1).next (e':=(C0).step 42 (O0 K.fns l.s) l.line) Db Fg rfl);exact z1ma
theorem Ar0(K:EC)(l:A6)(c:BT A6)(hk:l.kd=7)(ih:D6 (Fj K) c):Fj K l c:=by
 intro D w la ln lc ps e v ks hst hn hr hsz;have HM:=A0 (Aq8 K l c hk ih D w la ln lc ps e v ks hst hn hr hsz);obtain⟨hlo,lcb,hncb⟩:=hst.lo;unfold Bs at hn;rw[if_neg z4va]at hn;obtain⟨b,cs,rfl,hD,hb,hl⟩:=hn;have e1:Cg l.kd=301:=by rw[hk];rfl
 rw[e1]at HM ⊢;have ld:=A5 hb;have Dg:=Le 301 z4wa;have Dz:=Lx 301 z4wa;have Ep:=Mp 301 z4wa;have Fh:=Nl 301 z4wa;have G8:=Nn 301 z4wa;have I1:=Pe 301 z4wa;have J6:=Rn 301 z4wa;have ta7:=Ti 301 z4wa;exact z18a
theorem Aq2(K:EC):∀(c:BT A6),Wf 0 c->D6 (Fj K) c:=by
 intro c;induction c with
 | nil=>intro _;trivial
 | node x y l c r Dr D8=>
  intro h;have hx:=h.exs;have hc:=Dr hx.2.1;refine⟨?_,D8 h.1⟩;have hk:=hx.1;unfold Iv at hk;simp only[Bool.or_eq_true,Bool.and_eq_true,decide_eq_true_eq]at hk;by_cases hb:127<=l.kd
  ·exact Aqz K l c hb z4va hc
  ·have Ci:l.kd=1\/l.kd=2\/l.kd=3\/l.kd=4\/l.kd=5\/l.kd=6\/l.kd=7\/l.kd=8\/l.kd=9\/l.kd=10\/l.kd=11\/l.kd=12\/l.kd=13\/l.kd=14:=by omega
   rcases Ci with h|h|h|h|h|h|h|h|h|h|h|h|h|h
   ·exact Ar4 K l c h
   ·exact Arb K l c h
   ·exact Arc K l c h
   ·exact Ar1 K l c h
   ·exact Ar9 K l c h
   ·exact Ard K l c h
   ·exact Ar0 K l c h hc
   ·exact Ar2 K l c h hc
   ·exact Ar6 K l c h hc
   ·exact Ar5 K l c h hc
   ·exact Ara K l c h hc
   ·exact Ar3 K l c h hc
   ·exact Ar8 K l c h hc
   ·exact Ar7 K l c h hc
end
end Go.Proofs.YtjdlndhfaaolaaaGreatDoor
