import Derived.Test.YtjdlndhfaaolaaaGreatDoorX24
set_option maxHeartbeats 20000000
namespace Go.Proofs.YtjdlndhfaaolaaaGreatDoor
section
set_option maxRecDepth 100000
open Go.RowKit
open Go.Deep (BT)
theorem z0ua {P:Prop} (h:P:=by
  repeat (first|exact Below.refl _ _|refine Below.alloc ?_ z4wa _|refine Below.setCell ?_ z4wa _|refine Below.drew ?_)):P:=h
theorem Y5(n:Int)(w:World):Calls Tryz.prog 85 #[.int .i64 n] w fun e w'=>e=.returned (.agg #[.int .i64 2,.bool false,.int .i64 n,.string ⟨#[]⟩,.pointer none])/\Below w.heap.size w w':=by
 go_enter Tryz.func85,Tryz.ntmps85;go_wp2;refine bodyPost_ret (v:=.agg #[.int .i64 2,.bool false,.int .i64 n,.string ⟨#[]⟩,.pointer none]) (by simp[results,Tryz.results85,go_sem]) rfl ⟨rfl,?_⟩;exact z0ua
theorem Y6(s:ByteArray)(w:World):Calls Tryz.prog 86 #[.string s] w fun e w'=>e=.returned (.agg #[.int .i64 3,.bool false,.int .i64 0,.string s,.pointer none])/\Below w.heap.size w w':=by
 go_enter Tryz.func86,Tryz.ntmps86;go_wp2;refine bodyPost_ret (v:=.agg #[.int .i64 3,.bool false,.int .i64 0,.string s,.pointer none]) (by simp[results,Tryz.results86,go_sem]) rfl ⟨rfl,?_⟩;exact z0ua
theorem Y4(b:Bool)(w:World):Calls Tryz.prog 87 #[.bool b] w fun e w'=>e=.returned (.agg #[.int .i64 1,.bool b,.int .i64 0,.string ⟨#[]⟩,.pointer none])/\Below w.heap.size w w':=by
 go_enter Tryz.func87,Tryz.ntmps87;go_wp2;refine bodyPost_ret (v:=.agg #[.int .i64 1,.bool b,.int .i64 0,.string ⟨#[]⟩,.pointer none]) (by simp[results,Tryz.results87,go_sem]) rfl ⟨rfl,?_⟩;exact z0ua
theorem Sq{D:Nat->Prop}{wb te:Nat}{w:World}{fs gs ls ps:Value}{slots:Nat}{st:List Af}(h:K8 D wb te w fs gs ls ps slots st)(hn:st.length<=900000)(v:PV) :
  Calls Tryz.prog 84 #[.pointer (some ⟨wb,0,none⟩),.agg #[.int .i64 (v.k:Nat),.bool v.y,.int .i64 v.n,.string ⟨v.t.toArray⟩,.pointer none]] w fun e w'=>e=.returned (.tuple #[])/\K8 D wb te w' fs gs ls ps slots (st++[⟨0,0,0,v⟩])/\A2 D w w':=by
 have h0:K8 D wb te (w.alloc (.cells #[.int .i64 (v.k:Nat),.bool v.y,.int .i64 v.n,.string ⟨v.t.toArray⟩,.pointer none] 225)) fs gs ls ps slots st:=h.keep (fun g hg=>Below.heap_alloc _ _ _ hg) z4wa;have Bv:A2 D w (w.alloc (.cells #[.int .i64 (v.k:Nat),.bool v.y,.int .i64 v.n,.string ⟨v.t.toArray⟩,.pointer none] 225)):=by
  obtain⟨_,_,_,h⟩:=h;exact(A2.refl D w).alloc h.lo _
 have Hf:=heap_alloc_new w (.cells #[.int .i64 (v.k:Nat),.bool v.y,.int .i64 v.n,.string ⟨v.t.toArray⟩,.pointer none] 225);clear h;generalize hW:w.alloc (.cells #[.int .i64 (v.k:Nat),.bool v.y,.int .i64 v.n,.string ⟨v.t.toArray⟩,.pointer none] 225)=w0 at *;generalize hxb:w.heap.size=xb at *;have HW:=A0 hW;have HXb:=A0 hxb;clear hW hxb;have Ae:=A0 Bv;obtain⟨sa,sn,sc,h⟩:=h0;have c:=A7 h.cell 5 _ rfl;have lb:=A6 h.cell;have hv:sn=st.length:=(Cf h.own).1;subst hv;have x0:=A7 Hf 0 _ rfl;have x1:=A7 Hf 1 _ rfl;have x2:=A7 Hf 2 _ rfl;have x3:=A7 Hf 3 _ rfl;have x4:=A7 Hf 4 _ rfl;have lx:=A6 Hf;have hown:w0.drew.ownsRow 0 251 8 (.slice sa st.length sc) st.length (Ez st):=B2 h.own (fun _ _ _=>rfl);have HH:=A0 h;have HP:=A0 (fun(w1:World) (g cap:Nat)=>h.A34 ⟨0,0,0,v⟩ (w1:=w1) (g:=g) (cap:=cap));clear h Bv Hf;go_enter Tryz.func84,Tryz.ntmps84;go_wp2;rw[HW.o,HXb.o];go_region_law (refine Nw _ w0.heap.size #[.int .i64 0,.int .i64 0,.int .i64 0,.int .i64 (v.k:Nat),.bool v.y,.int .i64 v.n,.string ⟨v.t.toArray⟩,.pointer none] 251 (heap_alloc_new w0.drew _) rfl (.tmp 9) (.tmp 12) 96 rfl 0 8 72 _ Tryz.underlying96 A1c rfl z4sa (.slice sa st.length sc) st.length (Ez st) rfl rfl (hown.alloc _) rfl (fun v hv=>by simp at hv;rcases hv with rfl|rfl|rfl|rfl|rfl|rfl|rfl|rfl <;> rfl) z4sa z4sa (Nat.zero_le _) ?_;intro g cap w1 Es hgrow' hat' hg;have Fw:=Md (World.grownBy_alloc w0.drew _ none) hgrow';have hgrow:w0.grownBy w1 (Value.slice sa st.length sc).ownBlock:=⟨Fw.os,Fw.tape,Fw.output,Fw.size,Fw.block⟩;clear Fw;have hat:(Value.slice sa st.length sc).ownBlock=some g\/w0.heap.size<=g:=hat'.imp id (fun e=>by rw[e];simp);have A1:=(hgrow.block wb lb (fun e=>(HH.o.Cp wb e.symm).2 rfl)).trans HH.o.cell;have c1:=A7 A1 5 _ rfl;have f1:=Ci A1;have Bk:=A6 A1;have Bo:=A0 (HP.o w1 g cap Es hgrow hat);clear A1 Es hgrow hat hgrow' hat')
 all_goals go_wp2
 all_goals go_end0
 all_goals exact⟨rfl,⟨_,_,_,Bo.o.1⟩,Ae.o.trans Bo.o.2⟩
theorem Hq.Ae5{D:Nat->Prop}{w:World}{wb te:Nat}{fs gs ls ps:Value}{slots:Nat}{st:List Af}{g sn sc:Nat}(h:Hq D wb te w fs gs ls ps slots st (some ⟨g,0,none⟩) sn sc)(j:Nat)(hj:j<st.length)(a:Int) :
  Hq D wb te (w.setCell ⟨g,j*8+1,none⟩ (.int .i64 a)) fs gs ls ps slots (Gm j a st) (some ⟨g,0,none⟩) sn sc/\A2 D w (w.setCell ⟨g,j*8+1,none⟩ (.int .i64 a)):=by
 have hg:=h.Cp g rfl;obtain⟨hl,⟨h2,h3⟩|⟨g',cap,cur,hv,_,hb,hcap,hmx,hsz,ht⟩⟩:=h.own
 ·cases h2
 injection hv with e1 e2 e3;injection e1 with e1;injection e1 with e1;subst e1 e2 e3;refine⟨⟨(Below.heap_setCell _ _ _ _ (by exact fun e=>hg.2 e.symm)).trans h.cell,⟨?_,.inr ⟨g,sc,cur.setIfInBounds (j*8+1) (.int .i64 a),?_,Nat.zero_le _,heap_set hb _,?_,hmx,?_,?_⟩⟩,h.Gu,h.Cp,fun k hk=>by have:=h.lo k hk;simp[World.setCell];exact this⟩,(A2.refl D w).set hg.1 _⟩
 ·rw[Adp,Qe]
 ·rw[Qe]
 ·rw[Qe];exact hcap
 ·simpa using hsz
 ·rw[Qe,Ado a st j hj,Array.toList_setIfInBounds,←ht,List.take_set]
theorem Uz{D:Nat->Prop}{wb te:Nat}{w:World}{fs gs ls ps:Value}{slots:Nat}{st:List Af}(h:K8 D wb te w fs gs ls ps slots st)(j:Nat)(hj:j<st.length) :
  Calls Tryz.prog 140 #[.pointer (some ⟨wb,0,none⟩),.int .i64 (j:Nat)] w fun e w'=>e=.returned (.tuple #[])/\K8 D wb te w' fs gs ls ps slots (Gm j (st.length:Nat) st)/\A2 D w w':=by
 have HHere:=A0 (Xm (h.keep (w':=w.drew) (fun _ _=>rfl) (Nat.le_refl _)));obtain⟨sa,sn,sc,h⟩:=h;have c:=A7 h.cell 5 _ rfl;have lb:=A6 h.cell;have hv:sn=st.length:=(Cf h.own).1;subst hv;obtain⟨hl,⟨h2,h3⟩|⟨g,cap,cur,hv,_,hb,hcap,hmx,hsz,ht⟩⟩:=h.own
 ·omega
 injection hv with e1 _ e3;subst e1 e3;have HL:=A0 (h.Ae5 j hj (st.length:Nat));have fg:=Ci hb;have lg:=A6 hb;have cg:w.cell? ⟨g,j*8+1,none⟩=some cur[j*8+1]:=by rw[cell_of_row w g (j*8+1) cur _ _ hb,Array.getElem?_eq_getElem z4sa]
 generalize cur[j*8+1]=oldc at cg;have HB:Hid (A2 D w w.drew):=⟨rfl,rfl,rfl,Nat.le_refl _,fun _ _=>rfl⟩;clear h hb ht hl hsz hmx;go_enter Tryz.func140,Tryz.ntmps140;go_wp2;refine Jr 10 (by kernel_rfl) (by kernel_rfl) ?_;simp only[List.take_succ_cons,List.take_zero,List.drop_succ_cons,List.drop_zero];iterate 7 (refine F4 (fun K' hK'=>?_);go_simp;refine hK' _ ?_;clear hK' K')
 refine F4 (fun K' hK'=>?_);go_simp;refine⟨_,HHere.o,hK' _ ?_⟩;clear hK' K';iterate 2 (refine F4 (fun K' hK'=>?_);go_simp;refine hK' _ ?_;clear hK' K')
 refine Jq ?_;go_wp2;go_end0;exact⟨rfl,K8.keep ⟨_,_,_,HL.o.1⟩ (fun _ _=>rfl) (Nat.le_refl _),HL.o.2.trans ⟨rfl,rfl,rfl,Nat.le_refl _,fun _ _=>rfl⟩⟩
theorem Ann{D:Nat->Prop}{wb te:Nat}{w:World}{gs ls ps:Value}{slots:Nat}{st:List Af}{fns:List (Nm×Nat)}{fa:Option Addr}{fn fc:Nat}(h:K8 D wb te w (.slice fa fn fc) gs ls ps slots st)(hf:Ik D w fns fa fn fc)(s:Nm) :
  Calls Tryz.prog 142 #[.pointer (some ⟨wb,0,none⟩),.string ⟨s.toArray⟩] w fun e w'=>e=.returned (.int .i64 (L3 fns s))/\w'=w:=by
 obtain⟨sa,sn,sc,h⟩:=h;have c:=A7 h.cell 0 _ rfl;have lb:=A6 h.cell;have hfew:=hf.Bz;have hcap:=hf.cap;have hlen:=hf.len;subst hlen;have HH:=A0 hf;clear h hf;go_enter Tryz.func142,Tryz.ntmps142;go_wp2;go_loopg [12] fns.length (fun q v wr=>∃i:Nat,v=.int .i64 i/\i+q=fns.length/\(∀j,j<i->∀h':j<fns.length,fns[j].1≠s)/\wr=w)
 case atStart=>exact⟨0,rfl,by omega,fun i hi=>by omega,rfl⟩
 case round=>
  obtain⟨i,rfl,hik,hno,rfl⟩:=hrel;have HNo:=A0 hno;clear hno;by_cases hlt:i<fns.length
  ·obtain⟨g,pb,pa,pc,rfl,_,lg,cg,_,lp,c1,c2⟩:=HH.o.at' i hlt;have HI:Hid (fns[i].1=s->L3 fns s=(i:Nat)):=by
    intro e;unfold L3;rw[A0r s (fns.map Prod.fst) i (by simpa using hlt) (by simpa using e) (fun j hj hji=>by simpa using HNo.o j hji z5oa)]
   have HS:Hid (fns[i].1≠s->∀j,j<i+1->∀h':j<fns.length,fns[j].1≠s):=by
    exact z3xa
   generalize fns[i]=x at *;cases hq:(x.1==s)
   ·have HQ:Hid (x.1≠s):=by rw[beq_eq_false_iff_ne]at hq;exact hq
    exact z29a
   ·have HQ:Hid (x.1=s):=A0 (by simpa using hq);have HE:=A0 (HI.o HQ.o);go_wp2;go_ret;exact⟨Yw HE.o.symm,rfl⟩
  ·have HT:Hid (L3 fns s=-1):=by
    show _=_;unfold L3;rw[A0q s (fns.map Prod.fst) (fun j hj=>by simpa using HNo.o j (by simp at hj;omega) z5oa)]
   go_wp2;go_ret;exact⟨Yw HT.o.symm,rfl⟩
theorem EC.Ex.stk{K:EC}{D:Nat->Prop}{w:World}{la:Option Addr}{ln lc:Nat}{ps:Value}{e:Em}{sa:Option Addr}{sn sc:Nat}(h:K.Ex D w la ln lc ps e)(hv:Hq D K.wb K.te w (.slice K.fa K.fn K.fc) (.slice K.ga K.gn K.gc) (.slice la ln lc) ps e.slots e.st sa sn sc) :
  G0 9 K.wb 2 w #[.slice K.fa K.fn K.fc,.slice K.ga K.gn K.gc,.slice la ln lc,ps,.int .i64 (e.slots:Nat),.slice sa sn sc] K.te la ln lc (Cz e.loc):=
 ⟨hv.cell,rfl,by have:=h.lr.1;rwa [show e.loc.length=(Cz e.loc).length by simp[Cz]]at this,fun e=>hv.Gu (h.lr.2 _ e)⟩
theorem A27{l:List Nm}{i:Nat}(h:i<l.length):(Cz l)[i]'(by simp[Cz];exact h)=.string ⟨l[i].toArray⟩:=by simp[Cz,Ns]
theorem Oh(l:List Nm):(Cz l).length=l.length:=by simp[Cz]
theorem z2ma {P:Prop} (h:P:=by
  have Aa:=A0 A9;clear Az A9;go_wp2;refine bodyPost_ret (v:=.tuple #[]) (by simp[results,Tryz.results88,go_sem]) rfl ?_;rw[HV.o];exact⟨rfl,Ah.o,Aa.o⟩):P:=h
theorem A5c{K:EC}{D:Nat->Prop}{w:World}{la:Option Addr}{ln lc:Nat}{ps:Value}{e:Em}(h:K.Ex D w la ln lc ps e)(hn:e.st.length<=900000)(s:Nm)(lo gb:Nat) :
  Calls Tryz.prog 88 #[.pointer (some ⟨K.wb,0,none⟩),.string ⟨s.toArray⟩,.int .i64 (lo:Nat),.int .i64 (gb:Nat)] w fun r w'=>r=.returned (.tuple #[])/\K.Ex D w' la ln lc ps (e.var K.gl s lo gb)/\A2 D w w':=by
 have HX:=A0 h;obtain⟨sa,sn,sc,hv⟩:=h.ew;have hfew:=h.Bz;obtain⟨c0,c1,c2,c3,c4,c5,fz,lb⟩:=T7 hv.cell;have HL:=A0 (Qs (h.stk hv));rw[Oh]at HL;have HA:=A0 (fun i hi=>A3c (h.stk hv) i hi);have hgr:=h.gr.1;have hgn:K.gn=K.gl.length:=(Cf hgr).1;obtain⟨ga,hga⟩:∃ga,ga=K.ga:=⟨_,rfl⟩;rw[←hga]at c1 hgr;have HGr:=A0 hgr;have HSt:=A0 (fun(op:Nat) (arg:Int)=>Ku h.ew hn op arg 0);rw[hgn]at c1;clear h hv hgr hgn c0 c2 c3 c4 c5 fz hga;go_enter Tryz.func88,Tryz.ntmps88;go_wp2_with fail
 refine HL.o.mono ?_;rintro r w ⟨rfl,rfl⟩;go_wp2;go_loopg [8] e.loc.length (fun k v wr=>v=.int .i64 ((k:Int)-1)/\k<=e.loc.length/\(∀j (h:j<e.loc.length),k<=j->e.loc[j]≠s)/\wr=w)
 case atStart=>exact⟨rfl,Nat.le_refl _,fun j h h'=>by omega,rfl⟩
 case round=>
  obtain⟨rfl,hk,hno,rfl⟩:=hrel;have HNo:=A0 hno;clear hno;by_cases hlt:0<gk
  ·obtain⟨i,rfl⟩:∃i,gk=i+1:=⟨gk-1,by omega⟩;have hi:i<e.loc.length:=by omega
   have HA1:=A0 (HA.o i (by rw[Oh];exact hi));rw[A27 hi]at HA1;have hpi:(((i+1:Nat):Int)-1)=(i:Int):=by omega
   rw[hpi];have HI:Hid (e.loc[i]=s->L4 s e.loc=some i):=fun e1=>Aeb s _ i hi e1 (fun j hj hij=>HNo.o j hj z4sa);have HS:Hid (e.loc[i]≠s->∀j (h:j<e.loc.length),i<=j->e.loc[j]≠s):=by
    intro hn j hj hij e2;by_cases hjn:j=i
    ·subst hjn;exact hn e2
    ·exact HNo.o j hj z4sa e2
   generalize e.loc[i]=x at *;clear hpi;cases hq:(x==s)
   ·have HQ:Hid (x≠s):=by rw[beq_eq_false_iff_ne]at hq;exact hq
    go_wp2_with fail
    refine HA1.o.mono ?_;rintro r w' ⟨rfl,rfl⟩;go_wp2;go_roundg i
    case measure=>omega
    case rel=>exact⟨rfl,by omega,HS.o HQ.o,rfl⟩
   ·have HQ:Hid (x=s):=A0 (by simpa using hq);have HV:Hid (e.var K.gl s lo gb=e.step lo (i:Nat) 0):=by
     show _=_;unfold Em.var;rw[HI.o HQ.o]
    have HSt1:=A0 (HSt.o lo (i:Nat));go_wp2_with fail
    refine HA1.o.mono ?_;rintro r w' ⟨rfl,rfl⟩;go_wp2_with fail
    refine HSt1.o.mono ?_;rintro r w2 ⟨rfl,Az,A9⟩;have Ah:=A0 (HX.o.next (e':=e.step lo (i:Nat) 0) A9 Az rfl);exact z2ma
  ·obtain rfl:gk=0:=by omega
   have HLn:Hid (L4 s e.loc=none):=A1i s _ (fun j hj=>HNo.o j hj z4sa);clear hlt HNo;go_wp2;go_loopg [36] K.gl.length (fun q v wq=>∃i:Nat,v=.int .i64 i/\i+q=K.gl.length/\(∀j,j<i->∀h':j<K.gl.length,K.gl[j]≠s)/\wq=wr)
   case atStart=>exact⟨0,rfl,by omega,fun i hi=>by omega,rfl⟩
   case round=>
    obtain⟨i,rfl,hik,hno,rfl⟩:=hrel;have HNo:=A0 hno;clear hno;by_cases hlt:i<K.gl.length
    ·obtain⟨g,rfl,_,hcap,lg,hcell⟩:=Hg HGr.o z4sa;have d0:=hcell i (.string ⟨K.gl[i].toArray⟩) (by rw[List.getElem?_eq_getElem (by rw[Oh];exact hlt),A27 hlt]);have HI:Hid (K.gl[i]=s->Kj s K.gl=some i):=fun e1=>A0r s _ i hlt e1 (fun j hj hij=>HNo.o j hij hj);have HS:Hid (K.gl[i]≠s->∀j,j<i+1->∀h':j<K.gl.length,K.gl[j]≠s):=by
      intro hn j hj h' e2;by_cases hjn:j=i
      ·subst hjn;exact hn e2
      ·exact HNo.o j z4sa h' e2
     clear hcell;generalize K.gl[i]=x at *;cases hq:(x==s)
     ·have HQ:Hid (x≠s):=by rw[beq_eq_false_iff_ne]at hq;exact hq
      exact z29a
     ·have HQ:Hid (x=s):=A0 (by simpa using hq);have HV:Hid (e.var K.gl s lo gb=e.step gb (i:Nat) 0):=by
       show _=_;unfold Em.var;rw[HLn.o,HI.o HQ.o]
      have HSt1:=A0 (HSt.o gb (i:Nat));go_wp2_with fail
      refine HSt1.o.mono ?_;rintro r w2 ⟨rfl,Az,A9⟩;have Ah:=A0 (HX.o.next (e':=e.step gb (i:Nat) 0) A9 Az rfl);exact z2ma
    ·have HV:Hid (e.var K.gl s lo gb=e):=by
      show _=_;unfold Em.var;rw[HLn.o,A0q s _ (fun j hj=>HNo.o j z4sa hj)]
     go_wp2;go_end0;rw[HV.o];exact⟨rfl,HX.o,A2.refl _ _⟩
theorem Lb(t:TypeId)(h:t≠220)(v:Value)(w:World):(Instr.typeAssert (.iface t v) 150 220 true).run Tryz.prog w=.ok (.tuple #[.pointer none,.bool false]) w:=B6 Tryz.underlying220 (by kernel_rfl) h v w
theorem Aou(v:Value)(w:World):(Instr.typeAssert (.iface 220 v) 150 220 true).run Tryz.prog w=.ok (.tuple #[v,.bool true]) w:=Ds Tryz.underlying220 v w
theorem Lr(t:TypeId)(h:t≠229)(v:Value)(w:World):(Instr.typeAssert (.iface t v) 150 229 true).run Tryz.prog w=.ok (.tuple #[.pointer none,.bool false]) w:=B6 Tryz.underlying229 (by kernel_rfl) h v w
theorem Aoz(v:Value)(w:World):(Instr.typeAssert (.iface 229 v) 150 229 true).run Tryz.prog w=.ok (.tuple #[v,.bool true]) w:=Ds Tryz.underlying229 v w
theorem Ml(t:TypeId)(h:t≠233)(v:Value)(w:World):(Instr.typeAssert (.iface t v) 150 233 true).run Tryz.prog w=.ok (.tuple #[.pointer none,.bool false]) w:=B6 Tryz.underlying233 (by kernel_rfl) h v w
theorem A5d(v:Value)(w:World):(Instr.typeAssert (.iface 233 v) 150 233 true).run Tryz.prog w=.ok (.tuple #[v,.bool true]) w:=Ds Tryz.underlying233 v w
theorem Nb(t:TypeId)(h:t≠237)(v:Value)(w:World):(Instr.typeAssert (.iface t v) 150 237 true).run Tryz.prog w=.ok (.tuple #[.pointer none,.bool false]) w:=B6 Tryz.underlying237 (by kernel_rfl) h v w
theorem Aox(v:Value)(w:World):(Instr.typeAssert (.iface 237 v) 150 237 true).run Tryz.prog w=.ok (.tuple #[v,.bool true]) w:=Ds Tryz.underlying237 v w
theorem Nc(t:TypeId)(h:t≠238)(v:Value)(w:World):(Instr.typeAssert (.iface t v) 150 238 true).run Tryz.prog w=.ok (.tuple #[.pointer none,.bool false]) w:=B6 Tryz.underlying238 (by kernel_rfl) h v w
theorem A5g(v:Value)(w:World):(Instr.typeAssert (.iface 238 v) 150 238 true).run Tryz.prog w=.ok (.tuple #[v,.bool true]) w:=Ds Tryz.underlying238 v w
theorem Ox(t:TypeId)(h:t≠241)(v:Value)(w:World):(Instr.typeAssert (.iface t v) 150 241 true).run Tryz.prog w=.ok (.tuple #[.pointer none,.bool false]) w:=B6 Tryz.underlying241 (by kernel_rfl) h v w
theorem Aot(v:Value)(w:World):(Instr.typeAssert (.iface 241 v) 150 241 true).run Tryz.prog w=.ok (.tuple #[v,.bool true]) w:=Ds Tryz.underlying241 v w
theorem Qz(t:TypeId)(h:t≠244)(v:Value)(w:World):(Instr.typeAssert (.iface t v) 150 244 true).run Tryz.prog w=.ok (.tuple #[.pointer none,.bool false]) w:=B6 Tryz.underlying244 (by kernel_rfl) h v w
theorem A5f(v:Value)(w:World):(Instr.typeAssert (.iface 244 v) 150 244 true).run Tryz.prog w=.ok (.tuple #[v,.bool true]) w:=Ds Tryz.underlying244 v w
theorem Sr(t:TypeId)(h:t≠248)(v:Value)(w:World):(Instr.typeAssert (.iface t v) 150 248 true).run Tryz.prog w=.ok (.tuple #[.pointer none,.bool false]) w:=B6 Tryz.underlying248 (by kernel_rfl) h v w
theorem Aor(v:Value)(w:World):(Instr.typeAssert (.iface 248 v) 150 248 true).run Tryz.prog w=.ok (.tuple #[v,.bool true]) w:=Ds Tryz.underlying248 v w
theorem V2(t:TypeId)(h:t≠296)(v:Value)(w:World):(Instr.typeAssert (.iface t v) 150 296 true).run Tryz.prog w=.ok (.tuple #[.pointer none,.bool false]) w:=B6 Tryz.underlying296 (by kernel_rfl) h v w
theorem Aow(v:Value)(w:World):(Instr.typeAssert (.iface 296 v) 150 296 true).run Tryz.prog w=.ok (.tuple #[v,.bool true]) w:=Ds Tryz.underlying296 v w
theorem Zo(t:TypeId)(h:t≠301)(v:Value)(w:World):(Instr.typeAssert (.iface t v) 150 301 true).run Tryz.prog w=.ok (.tuple #[.pointer none,.bool false]) w:=B6 Tryz.underlying301 (by kernel_rfl) h v w
theorem Aos(v:Value)(w:World):(Instr.typeAssert (.iface 301 v) 150 301 true).run Tryz.prog w=.ok (.tuple #[v,.bool true]) w:=Ds Tryz.underlying301 v w
theorem A5h(t:TypeId)(h:t≠304)(v:Value)(w:World):(Instr.typeAssert (.iface t v) 150 304 true).run Tryz.prog w=.ok (.tuple #[.pointer none,.bool false]) w:=B6 Tryz.underlying304 (by kernel_rfl) h v w
theorem Aov(v:Value)(w:World):(Instr.typeAssert (.iface 304 v) 150 304 true).run Tryz.prog w=.ok (.tuple #[v,.bool true]) w:=Ds Tryz.underlying304 v w
theorem Ap0(t:TypeId)(h:t≠307)(v:Value)(w:World):(Instr.typeAssert (.iface t v) 150 307 true).run Tryz.prog w=.ok (.tuple #[.pointer none,.bool false]) w:=B6 Tryz.underlying307 (by kernel_rfl) h v w
theorem Aoy(v:Value)(w:World):(Instr.typeAssert (.iface 307 v) 150 307 true).run Tryz.prog w=.ok (.tuple #[v,.bool true]) w:=Ds Tryz.underlying307 v w
theorem A5e(v:Value)(w:World):(Instr.typeAssert (.iface 310 v) 150 310 true).run Tryz.prog w=.ok (.tuple #[v,.bool true]) w:=Ds Tryz.underlying310 v w
theorem A43(t:TypeId)(h:t≠143)(v:Value)(w:World):(Instr.typeAssert (.iface t v) 142 143 true).run Tryz.prog w=.ok (.tuple #[.pointer none,.bool false]) w:=B6 Tryz.underlying143 (by kernel_rfl) h v w
theorem Ajz(v:Value)(w:World):(Instr.typeAssert (.iface 143 v) 142 143 true).run Tryz.prog w=.ok (.tuple #[v,.bool true]) w:=Ds Tryz.underlying143 v w
theorem N8(t:TypeId)(h:t≠145)(v:Value)(w:World):(Instr.typeAssert (.iface t v) 142 145 true).run Tryz.prog w=.ok (.tuple #[.pointer none,.bool false]) w:=B6 Tryz.underlying145 (by kernel_rfl) h v w
theorem A3t(v:Value)(w:World):(Instr.typeAssert (.iface 145 v) 142 145 true).run Tryz.prog w=.ok (.tuple #[v,.bool true]) w:=Ds Tryz.underlying145 v w
theorem Oq(t:TypeId)(h:t≠253)(v:Value)(w:World):(Instr.typeAssert (.iface t v) 142 253 true).run Tryz.prog w=.ok (.tuple #[.pointer none,.bool false]) w:=B6 Tryz.underlying253 (by kernel_rfl) h v w
theorem Ak0(v:Value)(w:World):(Instr.typeAssert (.iface 253 v) 142 253 true).run Tryz.prog w=.ok (.tuple #[v,.bool true]) w:=Ds Tryz.underlying253 v w
theorem Pp(t:TypeId)(h:t≠255)(v:Value)(w:World):(Instr.typeAssert (.iface t v) 142 255 true).run Tryz.prog w=.ok (.tuple #[.pointer none,.bool false]) w:=B6 Tryz.underlying255 (by kernel_rfl) h v w
theorem Ak3(v:Value)(w:World):(Instr.typeAssert (.iface 255 v) 142 255 true).run Tryz.prog w=.ok (.tuple #[v,.bool true]) w:=Ds Tryz.underlying255 v w
theorem Qt(t:TypeId)(h:t≠257)(v:Value)(w:World):(Instr.typeAssert (.iface t v) 142 257 true).run Tryz.prog w=.ok (.tuple #[.pointer none,.bool false]) w:=B6 Tryz.underlying257 (by kernel_rfl) h v w
theorem Ak2(v:Value)(w:World):(Instr.typeAssert (.iface 257 v) 142 257 true).run Tryz.prog w=.ok (.tuple #[v,.bool true]) w:=Ds Tryz.underlying257 v w
theorem Sh(t:TypeId)(h:t≠259)(v:Value)(w:World):(Instr.typeAssert (.iface t v) 142 259 true).run Tryz.prog w=.ok (.tuple #[.pointer none,.bool false]) w:=B6 Tryz.underlying259 (by kernel_rfl) h v w
theorem Ajw(v:Value)(w:World):(Instr.typeAssert (.iface 259 v) 142 259 true).run Tryz.prog w=.ok (.tuple #[v,.bool true]) w:=Ds Tryz.underlying259 v w
theorem Uq(t:TypeId)(h:t≠264)(v:Value)(w:World):(Instr.typeAssert (.iface t v) 142 264 true).run Tryz.prog w=.ok (.tuple #[.pointer none,.bool false]) w:=B6 Tryz.underlying264 (by kernel_rfl) h v w
theorem Ajx(v:Value)(w:World):(Instr.typeAssert (.iface 264 v) 142 264 true).run Tryz.prog w=.ok (.tuple #[v,.bool true]) w:=Ds Tryz.underlying264 v w
theorem Z8(t:TypeId)(h:t≠265)(v:Value)(w:World):(Instr.typeAssert (.iface t v) 142 265 true).run Tryz.prog w=.ok (.tuple #[.pointer none,.bool false]) w:=B6 Tryz.underlying265 (by kernel_rfl) h v w
theorem Ak1(v:Value)(w:World):(Instr.typeAssert (.iface 265 v) 142 265 true).run Tryz.prog w=.ok (.tuple #[v,.bool true]) w:=Ds Tryz.underlying265 v w
theorem Akj(t:TypeId)(h:t≠268)(v:Value)(w:World):(Instr.typeAssert (.iface t v) 142 268 true).run Tryz.prog w=.ok (.tuple #[.pointer none,.bool false]) w:=B6 Tryz.underlying268 (by kernel_rfl) h v w
theorem A3u(v:Value)(w:World):(Instr.typeAssert (.iface 268 v) 142 268 true).run Tryz.prog w=.ok (.tuple #[v,.bool true]) w:=Ds Tryz.underlying268 v w
theorem Ajy(v:Value)(w:World):(Instr.typeAssert (.iface 270 v) 142 270 true).run Tryz.prog w=.ok (.tuple #[v,.bool true]) w:=Ds Tryz.underlying270 v w
def Fb(K:EC)(l:A3)(c:BT A3):Prop:=∀(D:Nat->Prop) (w:World) (la:Option Addr) (ln lc:Nat) (ps:Value) (e:Em) (v:Value) (ks:List Value),
 K.Ex D w la ln lc ps e->Bh D w l v ks->Al D w c ks->e.st.length+2*bsize (nd l c)<=800000->
 Calls Tryz.prog 54 #[.pointer (some ⟨K.wb,0,none⟩),v] w fun r w'=>r=.returned (.tuple #[])/\K.Ex D w' la ln lc ps (Am K.fns K.gl l (Ak c) (em K.fns K.gl c) e)/\A2 D w w'
theorem A53(K:EC)(c:BT A3)(hok:Cq (Fb K) c)(D:Nat->Prop)(w:World)(la:Option Addr)(ln lc:Nat)(ps:Value)(e:Em)(va:Option Addr)(vn vc:Nat)(ks:List Value)
  (hst:K.Ex D w la ln lc ps e) (hown:Cr D w 150 1 (.slice va vn vc) ks.length ks) (hrep:Al D w c ks) (hsz:e.st.length+2*bsize c<=800000) :
  Calls Tryz.prog 141 #[.pointer (some ⟨K.wb,0,none⟩),.slice va vn vc] w fun r w'=>r=.returned (.tuple #[])/\K.Ex D w' la ln lc ps (em K.fns K.gl c 0 e)/\A2 D w w':=by
 have hvn:vn=ks.length:=(Cf hown.1).1;subst hvn;have HSt0:=A0 hst;have HOwn:=A0 hown;have HRep:=A0 hrep;have hlen:=hrep.len;have HLen:=A0 hlen;have hls:=Ni c;have hkl:ks.length<=400000:=by omega
 clear hst hown hrep hlen;go_enter Tryz.func141,Tryz.ntmps141;go_wp2;go_loopg [8] ks.length (fun k v wr=>∃(i:Nat) (ei:Em),v=.int .i64 i/\i+k=ks.length/\K.Ex D wr la ln lc ps ei/\em K.fns K.gl (C2 i c) 0 ei=em K.fns K.gl c 0 e/\ei.st.length+2*bsize (C2 i c)<=800000/\A2 D w wr)
 case atStart=>exact⟨0,e,rfl,by omega,HSt0.o,rfl,hsz,A2.refl _ _⟩
 case round=>
  clear HSt0;obtain⟨i,ei,rfl,hik,hst,hse,hsi,hbel⟩:=hrel;have HSt:=A0 hst;have HSe:=A0 hse;have HBel:=A0 hbel;clear hst hse hbel;by_cases hlt:i<ks.length
  ·have hr:=HRep.o.Bf HBel.o;obtain⟨x,y,l,cc,r,hd,v,ks',hv,hn,hrk⟩:=Al.at' i c ks hr z5ca;obtain⟨g,rfl,_,hcap,lg,hcell⟩:=Hg (HOwn.o.Bf HBel.o).1 z4sa;have d0:=hcell i v hv;have hE:=A0 (hok.at' i c x y l cc r hd);have hz:bsize (C2 i c)=bsize (nd l cc)+bsize r:=by rw[hd,Br,bsize]
   have HNx:Hid (em K.fns K.gl (C2 (i+1) c) 0 (Am K.fns K.gl l (Ak cc) (em K.fns K.gl cc) ei)=em K.fns K.gl c 0 e):=by
    show _=_;rw[O8 i c x y l cc r hd,←HSe.o,hd,Ib]
   have hsn:(Am K.fns K.gl l (Ak cc) (em K.fns K.gl cc) ei).st.length+2*bsize (C2 (i+1) c)<=800000:=by
    have:=Gh K.fns K.gl l cc ei;rw[O8 i c x y l cc r hd];omega
   have HC:=A0 (hE.out D wr la ln lc ps ei v ks' HSt.o hn hrk z4sa);have HSn:=A0 hsn;clear hr hd hv hn hrk hcell hsn hz;go_wp2_with fail
   refine HC.o.mono ?_;rintro r' w1 ⟨rfl,Ai,A1⟩;have A8:=A0 Ai;have A4:Hid (A2 D w w1):=HBel.o.trans A1;clear Ai A1;go_wp2;go_roundg (gk-1)
   case measure=>omega
   case rel=>exact⟨i+1,_,rfl,by omega,A8.o,HNx.o,HSn.o,A4.o⟩
  ·have HE:Hid (ei=em K.fns K.gl c 0 e):=by
    exact z0pa
   exact z2qa
theorem Aoh(K:EC)(l:A3)(c:BT A3)(hk:l.kd=1):Fb K l c:=by
 intro D w la ln lc ps e v ks hst hn hr hsz;obtain⟨hlo,lcb,hncb⟩:=hst.lo;have hnds:=Br l c;unfold Bh at hn;rw[if_neg z4sa]at hn;obtain⟨b,cs,rfl,hD,hb,hl⟩:=hn;have e1:Cc l.kd=220:=by rw[hk];rfl
 have e2:D8 l.kd=228:=by rw[hk];rfl
 rw[e1];rw[e2]at hb;unfold Cm at hl;simp only[hk]at hl;rw[Wc hk];obtain⟨rfl,rfl⟩:=hl;have d0:w.cell? ⟨b,0,none⟩=some (.int .i64 l.n):=A7 hb 0 _ rfl;have ld:=A6 hb;have HX:=A0 hst;have HLo:=A0 hlo;have D4:=Aou;clear hst hb e1 e2 hk hr;unfold C3;go_enter Tryz.func54,Tryz.ntmps54;go_wp2_with fail
 refine(Y5 l.n _).mono ?_;rintro r w1 ⟨rfl,A1⟩;have Gz:=A0 (HX.o.keep A1.block A1.size A1.os A1.tape A1.output);have A4:Hid (A2 D w w1):=⟨A1.os,A1.tape,A1.output,A1.size,fun g hg=>A1.block g (HLo.o g hg)⟩;clear A1;go_wp2_with fail
 refine(Sq Gz.o.ew z4sa ⟨2,false,l.n,[],none⟩).mono ?_;rintro r w2 ⟨rfl,Az,A9⟩;have Ah:=A0 (Gz.o.next (e':=e.F0 ⟨2,false,l.n,[],none⟩) A9 Az rfl);exact z0xa
theorem Aoo(K:EC)(l:A3)(c:BT A3)(hk:l.kd=2):Fb K l c:=by
 intro D w la ln lc ps e v ks hst hn hr hsz;obtain⟨hlo,lcb,hncb⟩:=hst.lo;have hnds:=Br l c;unfold Bh at hn;rw[if_neg z4sa]at hn;obtain⟨b,cs,rfl,hD,hb,hl⟩:=hn;have e1:Cc l.kd=229:=by rw[hk];rfl
 have e2:D8 l.kd=232:=by rw[hk];rfl
 rw[e1];rw[e2]at hb;unfold Cm at hl;simp only[hk]at hl;rw[Wj hk];obtain⟨rfl,rfl⟩:=hl;have d0:w.cell? ⟨b,0,none⟩=some (.string ⟨l.s.toArray⟩):=A7 hb 0 _ rfl;have ld:=A6 hb;have HX:=A0 hst;have HLo:=A0 hlo;have D4:=Lb 229 z4ta;have Dp:=Aoz;clear hst hb e1 e2 hk hr;unfold C3;go_enter Tryz.func54,Tryz.ntmps54;go_wp2_with fail
 refine(Y6 ⟨l.s.toArray⟩ _).mono ?_;rintro r w1 ⟨rfl,A1⟩;have Gz:=A0 (HX.o.keep A1.block A1.size A1.os A1.tape A1.output);have A4:Hid (A2 D w w1):=⟨A1.os,A1.tape,A1.output,A1.size,fun g hg=>A1.block g (HLo.o g hg)⟩;clear A1;go_wp2_with fail
 refine(Sq Gz.o.ew z4sa ⟨3,false,0,l.s,none⟩).mono ?_;rintro r w2 ⟨rfl,Az,A9⟩;have Ah:=A0 (Gz.o.next (e':=e.F0 ⟨3,false,0,l.s,none⟩) A9 Az rfl);exact z0xa
theorem Aop(K:EC)(l:A3)(c:BT A3)(hk:l.kd=3):Fb K l c:=by
 intro D w la ln lc ps e v ks hst hn hr hsz;obtain⟨hlo,lcb,hncb⟩:=hst.lo;have hnds:=Br l c;unfold Bh at hn;rw[if_neg z4sa]at hn;obtain⟨b,cs,rfl,hD,hb,hl⟩:=hn;have e1:Cc l.kd=233:=by rw[hk];rfl
 have e2:D8 l.kd=236:=by rw[hk];rfl
 rw[e1];rw[e2]at hb;unfold Cm at hl;simp only[hk]at hl;rw[Wq hk];obtain⟨rfl,rfl⟩:=hl;have d0:w.cell? ⟨b,0,none⟩=some (.bool true):=A7 hb 0 _ rfl;have ld:=A6 hb;have HX:=A0 hst;have HLo:=A0 hlo;have D4:=Lb 233 z4ta;have Dp:=Lr 233 z4ta;have Ej:=A5d;clear hst hb e1 e2 hk hr;unfold C3;go_enter Tryz.func54,Tryz.ntmps54;go_wp2_with fail
 refine(Y4 true _).mono ?_;rintro r w1 ⟨rfl,A1⟩;have Gz:=A0 (HX.o.keep A1.block A1.size A1.os A1.tape A1.output);have A4:Hid (A2 D w w1):=⟨A1.os,A1.tape,A1.output,A1.size,fun g hg=>A1.block g (HLo.o g hg)⟩;clear A1;go_wp2_with fail
 refine(Sq Gz.o.ew z4sa ⟨1,true,0,[],none⟩).mono ?_;rintro r w2 ⟨rfl,Az,A9⟩;have Ah:=A0 (Gz.o.next (e':=e.F0 ⟨1,true,0,[],none⟩) A9 Az rfl);exact z0xa
theorem Aoe(K:EC)(l:A3)(c:BT A3)(hk:l.kd=4):Fb K l c:=by
 intro D w la ln lc ps e v ks hst hn hr hsz;obtain⟨hlo,lcb,hncb⟩:=hst.lo;have hnds:=Br l c;unfold Bh at hn;rw[if_neg z4sa]at hn;obtain⟨b,cs,rfl,hD,hb,hl⟩:=hn;have e1:Cc l.kd=233:=by rw[hk];rfl
 have e2:D8 l.kd=236:=by rw[hk];rfl
 rw[e1];rw[e2]at hb;unfold Cm at hl;simp only[hk]at hl;rw[Wt hk];obtain⟨rfl,rfl⟩:=hl;have d0:w.cell? ⟨b,0,none⟩=some (.bool false):=A7 hb 0 _ rfl;have ld:=A6 hb;have HX:=A0 hst;have HLo:=A0 hlo;have D4:=Lb 233 z4ta;have Dp:=Lr 233 z4ta;have Ej:=A5d;clear hst hb e1 e2 hk hr;unfold C3;go_enter Tryz.func54,Tryz.ntmps54;go_wp2_with fail
 refine(Y4 false _).mono ?_;rintro r w1 ⟨rfl,A1⟩;have Gz:=A0 (HX.o.keep A1.block A1.size A1.os A1.tape A1.output);have A4:Hid (A2 D w w1):=⟨A1.os,A1.tape,A1.output,A1.size,fun g hg=>A1.block g (HLo.o g hg)⟩;clear A1;go_wp2_with fail
 refine(Sq Gz.o.ew z4sa ⟨1,false,0,[],none⟩).mono ?_;rintro r w2 ⟨rfl,Az,A9⟩;have Ah:=A0 (Gz.o.next (e':=e.F0 ⟨1,false,0,[],none⟩) A9 Az rfl);exact z0xa
theorem Aom(K:EC)(l:A3)(c:BT A3)(hk:l.kd=5):Fb K l c:=by
 intro D w la ln lc ps e v ks hst hn hr hsz;obtain⟨hlo,lcb,hncb⟩:=hst.lo;have hnds:=Br l c;unfold Bh at hn;rw[if_neg z4sa]at hn;obtain⟨b,cs,rfl,hD,hb,hl⟩:=hn;have e1:Cc l.kd=237:=by rw[hk];rfl
 have e2:D8 l.kd=450:=by rw[hk];rfl
 rw[e1];rw[e2]at hb;unfold Cm at hl;simp only[hk]at hl;rw[Wu hk];obtain⟨rfl,rfl⟩:=hl;have ld:=A6 hb;have HX:=A0 hst;have HLo:=A0 hlo;have D4:=Lb 237 z4ta;have Dp:=Lr 237 z4ta;have Ej:=Ml 237 z4ta;have F9:=Aox;clear hst hb e1 e2 hk hr;unfold C3;go_enter Tryz.func54,Tryz.ntmps54;have Gz:=HX;have A4:=A0 (A2.refl D w);go_wp2_with fail
 refine(Sq Gz.o.ew z4sa Bp).mono ?_;rintro r w2 ⟨rfl,Az,A9⟩;have Ah:=A0 (Gz.o.next (e':=e.F0 Bp) A9 Az rfl);exact z0xa
theorem z0ca {P:Prop} (h:P:=by
  rintro r w1 ⟨rfl,Ai,A1⟩;have A8:=A0 Ai;have A4:=A0 A1;clear Ai A1;go_wp2;go_end0;exact⟨rfl,A8.o,A4.o⟩):P:=h
theorem Aoq(K:EC)(l:A3)(c:BT A3)(hk:l.kd=6):Fb K l c:=by
 intro D w la ln lc ps e v ks hst hn hr hsz;obtain⟨hlo,lcb,hncb⟩:=hst.lo;have hnds:=Br l c;unfold Bh at hn;rw[if_neg z4sa]at hn;obtain⟨b,cs,rfl,hD,hb,hl⟩:=hn;have e1:Cc l.kd=238:=by rw[hk];rfl
 have e2:D8 l.kd=240:=by rw[hk];rfl
 rw[e1];rw[e2]at hb;unfold Cm at hl;simp only[hk]at hl;rw[Wv hk];obtain⟨rfl,rfl⟩:=hl;have d0:w.cell? ⟨b,1,none⟩=some (.string ⟨l.s.toArray⟩):=A7 hb 1 _ rfl;have ld:=A6 hb;have HV:=A0 (A5c hst z4sa l.s 1 2);have D4:=Lb 238 z4ta;have Dp:=Lr 238 z4ta;have Ej:=Ml 238 z4ta;have F9:=Nb 238 z4ta;have G6:=A5g;clear hst hb e1 e2 hk hr;unfold C3;go_enter Tryz.func54,Tryz.ntmps54;go_wp2_with fail
 refine HV.o.mono ?_;exact z0ca
theorem An0(w:World):Calls Tryz.prog 89 #[.int .i64 28] w fun e w'=>e=.returned (.int .i64 27)/\w'=w:=by
 go_enter Tryz.func89,Tryz.ntmps89;exact z46a
theorem Amz(w:World):Calls Tryz.prog 89 #[.int .i64 35] w fun e w'=>e=.returned (.int .i64 23)/\w'=w:=by
 go_enter Tryz.func89,Tryz.ntmps89;exact z46a
theorem z3wa {P:Prop} (h:P:=by
  unfold C3;go_enter Tryz.func54,Tryz.ntmps54;go_wp2_with fail
  refine HC.o.mono ?_;exact z0ca):P:=h
theorem Aof(K:EC)(l:A3)(c:BT A3)(hk:l.kd=8)(ih:Cq (Fb K) c):Fb K l c:=by
 intro D w la ln lc ps e v ks hst hn hr hsz;obtain⟨hlo,lcb,hncb⟩:=hst.lo;have hnds:=Br l c;unfold Bh at hn;rw[if_neg z4sa]at hn;obtain⟨b,cs,rfl,hD,hb,hl⟩:=hn;have e1:Cc l.kd=241:=by rw[hk];rfl
 have e2:D8 l.kd=243:=by rw[hk];rfl
 rw[e1];rw[e2]at hb;unfold Cm at hl;simp only[hk]at hl;rw[Wx hk];obtain⟨a,rfl,rfl⟩:=hl;obtain⟨x1,y1,l1,c1,r1,Cx,rfl,B9,B8,hz⟩:=hr.cons';obtain rfl:=hz.nil';have Bq:bsize (.node x1 y1 l1 c1 .nil)=bsize (nd l1 c1):=by rw[Br,bsize];rfl
 have hlen1:=Gh K.fns K.gl l1 c1 e;rw[Ib,em];have HC:=A0 (ih.1 D w la ln lc ps e a Cx hst B9 B8 z4sa);have d0:=A7 hb 0 a rfl;have ld:=A6 hb;have HBk:=A0 hb;have D4:=Lb 241 z4ta;have Dp:=Lr 241 z4ta;have Ej:=Ml 241 z4ta;have F9:=Nb 241 z4ta;have G6:=Nc 241 z4ta;have I7:=Aot;clear hst hb e1 e2 hk hr B9 B8 hz ih;exact z3wa
theorem z1ia {P:Prop} (h:P:=by
  have Gx:Hid (A2 D w w9):=A4.o.trans ((Dk D w1 1).trans Dl);clear F7 Dl;go_wp2;go_end0;exact⟨rfl,HS9.o,Gx.o⟩):P:=h
theorem Aol(K:EC)(l:A3)(c:BT A3)(hk:l.kd=13)(ih:Cq (Fb K) c):Fb K l c:=by
 intro D w la ln lc ps e v ks hst hn hr hsz;obtain⟨hlo,lcb,hncb⟩:=hst.lo;have hnds:=Br l c;unfold Bh at hn;rw[if_neg z4sa]at hn;obtain⟨b,cs,rfl,hD,hb,hl⟩:=hn;have e1:Cc l.kd=244:=by rw[hk];rfl
 have e2:D8 l.kd=246:=by rw[hk];rfl
 rw[e1];rw[e2]at hb;unfold Cm at hl;simp only[hk]at hl;rw[Wh hk];obtain⟨a,rfl,rfl⟩:=hl;obtain⟨x1,y1,l1,c1,r1,Cx,rfl,B9,B8,hz⟩:=hr.cons';obtain rfl:=hz.nil';have Bq:bsize (.node x1 y1 l1 c1 .nil)=bsize (nd l1 c1):=by rw[Br,bsize];rfl
 have hlen1:=Gh K.fns K.gl l1 c1 e;rw[Ib,em];have HC:=A0 (ih.1 D w la ln lc ps e a Cx hst B9 B8 z4sa);have d0:=A7 hb 2 a rfl;have ld:=A6 hb;have HBk:=A0 hb;have D4:=Lb 244 z4ta;have Dp:=Lr 244 z4ta;have Ej:=Ml 244 z4ta;have F9:=Nb 244 z4ta;have G6:=Nc 244 z4ta;have I7:=Ox 244 z4ta;have Jg:=A5f;clear hst hb e1 e2 hk hr B9 B8 hz ih;unfold C3;go_enter Tryz.func54,Tryz.ntmps54;go_wp2_with fail
 refine HC.o.mono ?_;rintro r w1 ⟨rfl,Ai,A1⟩;have A8:=A0 Ai;have A4:=A0 A1;have Bd:=(A1.block b hD).trans HBk.o;clear Ai A1 d0 ld;have d0:w1.cell? ⟨b,0,none⟩=some (.int .i64 (l.line:Nat)):=A7 Bd 0 _ rfl;have d1:=A7 Bd 1 _ rfl;have ld:=A6 Bd;clear Bd;go_wp2;refine Jr 10 (by kernel_rfl) (by kernel_rfl) ?_;simp only[List.take_succ_cons,List.take_zero,List.drop_succ_cons,List.drop_zero];iterate 5 (refine F4 (fun K' hK'=>?_);go_simp;refine hK' _ ?_;clear hK' K')
 refine F4 (fun K' hK'=>?_);go_simp;refine⟨_,An0 _,hK' _ ?_⟩;clear hK' K';iterate 4 (refine F4 (fun K' hK'=>?_);go_simp;refine hK' _ ?_;clear hK' K')
 refine Jq ?_;go_wp2_with fail
 refine(Ku (A8.o.drewN 1).ew z4sa 27 0 l.line).mono ?_;rintro r w9 ⟨rfl,F7,Dl⟩;have HS9:=A0 ((A8.o.drewN 1).next (e':=(em K.fns K.gl .nil 0 (Am K.fns K.gl l1 (Ak c1) (em K.fns K.gl c1) e)).step 27 0 l.line) Dl F7 rfl);exact z1ia
theorem Aok(K:EC)(l:A3)(c:BT A3)(hk:l.kd=14)(ih:Cq (Fb K) c):Fb K l c:=by
 intro D w la ln lc ps e v ks hst hn hr hsz;obtain⟨hlo,lcb,hncb⟩:=hst.lo;have hnds:=Br l c;unfold Bh at hn;rw[if_neg z4sa]at hn;obtain⟨b,cs,rfl,hD,hb,hl⟩:=hn;have e1:Cc l.kd=244:=by rw[hk];rfl
 have e2:D8 l.kd=246:=by rw[hk];rfl
 rw[e1];rw[e2]at hb;unfold Cm at hl;simp only[hk]at hl;rw[Wi hk];obtain⟨a,rfl,rfl⟩:=hl;obtain⟨x1,y1,l1,c1,r1,Cx,rfl,B9,B8,hz⟩:=hr.cons';obtain rfl:=hz.nil';have Bq:bsize (.node x1 y1 l1 c1 .nil)=bsize (nd l1 c1):=by rw[Br,bsize];rfl
 have hlen1:=Gh K.fns K.gl l1 c1 e;rw[Ib,em];have HC:=A0 (ih.1 D w la ln lc ps e a Cx hst B9 B8 z4sa);have d0:=A7 hb 2 a rfl;have ld:=A6 hb;have HBk:=A0 hb;have D4:=Lb 244 z4ta;have Dp:=Lr 244 z4ta;have Ej:=Ml 244 z4ta;have F9:=Nb 244 z4ta;have G6:=Nc 244 z4ta;have I7:=Ox 244 z4ta;have Jg:=A5f;clear hst hb e1 e2 hk hr B9 B8 hz ih;unfold C3;go_enter Tryz.func54,Tryz.ntmps54;go_wp2_with fail
 refine HC.o.mono ?_;rintro r w1 ⟨rfl,Ai,A1⟩;have A8:=A0 Ai;have A4:=A0 A1;have Bd:=(A1.block b hD).trans HBk.o;clear Ai A1 d0 ld;have d0:w1.cell? ⟨b,0,none⟩=some (.int .i64 (l.line:Nat)):=A7 Bd 0 _ rfl;have d1:=A7 Bd 1 _ rfl;have ld:=A6 Bd;clear Bd;go_wp2;refine Jr 10 (by kernel_rfl) (by kernel_rfl) ?_;simp only[List.take_succ_cons,List.take_zero,List.drop_succ_cons,List.drop_zero];iterate 5 (refine F4 (fun K' hK'=>?_);go_simp;refine hK' _ ?_;clear hK' K')
 refine F4 (fun K' hK'=>?_);go_simp;refine⟨_,Amz _,hK' _ ?_⟩;clear hK' K';iterate 4 (refine F4 (fun K' hK'=>?_);go_simp;refine hK' _ ?_;clear hK' K')
 refine Jq ?_;go_wp2_with fail
 refine(Ku (A8.o.drewN 1).ew z4sa 23 0 l.line).mono ?_;rintro r w9 ⟨rfl,F7,Dl⟩;have HS9:=A0 ((A8.o.drewN 1).next (e':=(em K.fns K.gl .nil 0 (Am K.fns K.gl l1 (Ak c1) (em K.fns K.gl c1) e)).step 23 0 l.line) Dl F7 rfl);exact z1ia
theorem z0na {P:Prop} (h:P:=by
  go_enter Tryz.func139,Tryz.ntmps139;go_wp2;go_ret;exact⟨rfl,rfl⟩):P:=h
theorem A8q(w:World):Calls Tryz.prog 139 #[.int .i64 27] w fun e w'=>e=.returned (.int .i64 25)/\w'=w:=by
 exact z0na
theorem A8r(w:World):Calls Tryz.prog 139 #[.int .i64 28] w fun e w'=>e=.returned (.int .i64 21)/\w'=w:=by
 exact z0na
theorem A8s(w:World):Calls Tryz.prog 139 #[.int .i64 29] w fun e w'=>e=.returned (.int .i64 26)/\w'=w:=by
 exact z0na
theorem A8t(w:World):Calls Tryz.prog 139 #[.int .i64 30] w fun e w'=>e=.returned (.int .i64 29)/\w'=w:=by
 exact z0na
theorem A8u(w:World):Calls Tryz.prog 139 #[.int .i64 31] w fun e w'=>e=.returned (.int .i64 31)/\w'=w:=by
 exact z0na
theorem A8v(w:World):Calls Tryz.prog 139 #[.int .i64 32] w fun e w'=>e=.returned (.int .i64 28)/\w'=w:=by
 exact z0na
theorem A8w(w:World):Calls Tryz.prog 139 #[.int .i64 33] w fun e w'=>e=.returned (.int .i64 30)/\w'=w:=by
 exact z0na
theorem A8x(w:World):Calls Tryz.prog 139 #[.int .i64 34] w fun e w'=>e=.returned (.int .i64 12)/\w'=w:=by
 exact z0na
theorem A8y(w:World):Calls Tryz.prog 139 #[.int .i64 35] w fun e w'=>e=.returned (.int .i64 15)/\w'=w:=by
 exact z0na
theorem A8z(w:World):Calls Tryz.prog 139 #[.int .i64 36] w fun e w'=>e=.returned (.int .i64 17)/\w'=w:=by
 exact z0na
theorem A90(w:World):Calls Tryz.prog 139 #[.int .i64 37] w fun e w'=>e=.returned (.int .i64 19)/\w'=w:=by
 exact z0na
theorem A91(w:World):Calls Tryz.prog 139 #[.int .i64 38] w fun e w'=>e=.returned (.int .i64 21)/\w'=w:=by
 exact z0na
theorem A92(w:World):Calls Tryz.prog 139 #[.int .i64 39] w fun e w'=>e=.returned (.int .i64 9)/\w'=w:=by
 exact z0na
theorem A93(w:World):Calls Tryz.prog 139 #[.int .i64 40] w fun e w'=>e=.returned (.int .i64 10)/\w'=w:=by
 exact z0na
theorem l6(s:Nat)(h1:27<=s)(h2:s<=40)(w:World):Calls Tryz.prog 139 #[.int .i64 (s:Nat)] w fun e w'=>e=.returned (.int .i64 (binOp s:Nat))/\w'=w:=by
 have h:s=27\/s=28\/s=29\/s=30\/s=31\/s=32\/s=33\/s=34\/s=35\/s=36\/s=37\/s=38\/s=39\/s=40:=by omega
 rcases h with rfl|rfl|rfl|rfl|rfl|rfl|rfl|rfl|rfl|rfl|rfl|rfl|rfl|rfl
 ·exact A8q w
 ·exact A8r w
 ·exact A8s w
 ·exact A8t w
 ·exact A8u w
 ·exact A8v w
 ·exact A8w w
 ·exact A8x w
 ·exact A8y w
 ·exact A8z w
 ·exact A90 w
 ·exact A91 w
 ·exact A92 w
 ·exact A93 w
theorem An9(K:EC)(l:A3)(c:BT A3)(h1:127<=l.kd)(h2:l.kd<=138)(ih:Cq (Fb K) c)(D:Nat->Prop)(w:World)(la:Option Addr)(ln lc:Nat)(ps:Value)(e:Em)(b:Nat)(a1 a2:Value)
  (hst:K.Ex D w la ln lc ps e) (hD:D b) (hb:w.heap[b]?=some (.cells #[.int .i64 (l.line:Nat),.int .i64 ((l.kd-100:Nat):Nat),a1,a2] 295 (0,0))) (hr:Al D w c [a1,a2]) (hsz:e.st.length+2*bsize (nd l c)<=800000) :
  Calls Tryz.prog 90 #[.pointer (some ⟨K.wb,0,none⟩),.pointer (some ⟨b,0,none⟩)] w fun r w'=>r=.returned (.tuple #[])/\K.Ex D w' la ln lc ps (Am K.fns K.gl l (Ak c) (em K.fns K.gl c) e)/\A2 D w w':=by
 obtain⟨hlo,lcb,hncb⟩:=hst.lo;have hnds:=Br l c;obtain⟨x1,y1,l1,c1,r1,Cx,rfl,B9,B8,hz⟩:=hr.cons';obtain⟨x2,y2,l2,c2,r2,Gl,rfl,D7,Bm,Bw⟩:=hz.cons';obtain rfl:=Bw.nil';have Bq:bsize (.node x1 y1 l1 c1 (.node x2 y2 l2 c2 .nil))=bsize (nd l1 c1)+bsize (nd l2 c2):=by rw[Br,Br,bsize,bsize,bsize];omega
 rw[Wz h1 h2,Ib,Ib,em];have Jm:=Gh K.fns K.gl l1 c1 e;have Ip:=Gh K.fns K.gl l2 c2 (Am K.fns K.gl l1 (Ak c1) (em K.fns K.gl c1) e);have Gy:=A0 (ih.1 D w la ln lc ps e a1 Cx hst B9 B8 z4sa);have Ed:=A0 (fun(W:World) (e2:Em) (he:e2.st.length+2*bsize (nd l2 c2)<=800000) (hx:K.Ex D W la ln lc ps e2) (hbd:A2 D w W)=>ih.2.1 D W la ln lc ps e2 a2 Gl hx (D7.Bf hbd) (Bm.Bf hbd) he);have HBk:=A0 hb;have t39:(((l.kd-100:Nat):Int)==39)=false:=by rw[beq_eq_false_iff_ne];omega
 have t40:(((l.kd-100:Nat):Int)==40)=false:=by rw[beq_eq_false_iff_ne];omega
 have HOp:=A0 (fun W=>l6 (l.kd-100) z4sa z4sa W);have d0:=A7 hb 0 _ rfl;have d1:=A7 hb 1 _ rfl;have d2:=A7 hb 2 _ rfl;have d3:=A7 hb 3 _ rfl;have ld:=A6 hb;clear hst hb hr B9 B8 hz D7 Bm Bw ih h1 h2;generalize l.kd-100=sg at *;generalize I0:Am K.fns K.gl l1 (Ak c1) (em K.fns K.gl c1) e=Bu at *;generalize hE2:Am K.fns K.gl l2 (Ak c2) (em K.fns K.gl c2) Bu=F5 at *;go_enter Tryz.func90,Tryz.ntmps90;go_wp2_with fail
 refine Gy.o.mono ?_;rintro r w1 ⟨rfl,Ai,A1⟩;have A8:=A0 Ai;have A4:=A0 A1;have Bd:=(A1.block b hD).trans HBk.o;have HBk1:=A0 Bd;clear Ai A1;clear d0 d1 d2 d3 ld;have d0:=A7 Bd 0 _ rfl;have d1:=A7 Bd 1 _ rfl;have d2:=A7 Bd 2 _ rfl;have d3:=A7 Bd 3 _ rfl;have ld:=A6 Bd;clear Bd;go_wp2_with fail
 refine(Ed.o _ _ z4sa A8.o A4.o).mono ?_;rintro r w3 ⟨rfl,C0,Ar⟩;rw[hE2]at C0;have Be:=A0 C0;have Ay:Hid (A2 D w w3):=A4.o.trans Ar;have Eh:=(Ar.block b hD).trans HBk1.o;clear C0 Ar;clear d0 d1 d2 d3 ld;have d0:=A7 Eh 0 _ rfl;have d1:=A7 Eh 1 _ rfl;have d2:=A7 Eh 2 _ rfl;have d3:=A7 Eh 3 _ rfl;have ld:=A6 Eh;clear Eh;go_wp2;refine Jr 10 (by kernel_rfl) (by kernel_rfl) ?_;simp only[List.take_succ_cons,List.take_zero,List.drop_succ_cons,List.drop_zero];iterate 5 (refine F4 (fun K' hK'=>?_);go_simp;refine hK' _ ?_;clear hK' K')
 refine F4 (fun K' hK'=>?_);go_simp;refine⟨_,HOp.o _,hK' _ ?_⟩;clear hK' K';iterate 4 (refine F4 (fun K' hK'=>?_);go_simp;refine hK' _ ?_;clear hK' K')
 refine Jq ?_;go_wp2_with fail
 refine(Ku (Be.o.drewN 1).ew z4sa (binOp sg) 0 l.line).mono ?_;rintro r w9 ⟨rfl,F7,Dl⟩;have HS9:=A0 ((Be.o.drewN 1).next (e':=(F5).step (binOp sg) 0 l.line) Dl F7 rfl);have Gx:Hid (A2 D w w9):=Ay.o.trans ((Dk D w3 1).trans Dl);clear F7 Dl;go_wp2;go_end0;exact⟨rfl,HS9.o,Gx.o⟩
theorem z04a {P:Prop} (h:P:=by
  clear hsg t40;go_wp2_with fail
  refine Jr 10 (by kernel_rfl) (by kernel_rfl) ?_;simp only[List.take_succ_cons,List.take_zero,List.drop_succ_cons,List.drop_zero];iterate 5 (refine F4 (fun K' hK'=>?_);go_simp;refine hK' _ ?_;clear hK' K')
  refine F4 (fun K' hK'=>?_);go_simp;refine⟨_,HOp.o _,hK' _ ?_⟩;clear hK' K';iterate 4 (refine F4 (fun K' hK'=>?_);go_simp;refine hK' _ ?_;clear hK' K')
  refine Jq ?_;go_wp2_with fail
  refine(Ku (A8.o.drewN 1).ew z4sa (binOp sg) 0 l.line).mono ?_;rintro r w2 ⟨rfl,Az,A9⟩;have Ah:=A0 ((A8.o.drewN 1).next (e':=Bu.step (binOp sg) 0 l.line) A9 Az rfl);have hb2':=(Dk D w1 1).trans A9;have Aa:Hid (A2 D w w2):=A4.o.trans hb2';have Cv:=(hb2'.block b hD).trans HBk1.o;have HBk2:=A0 Cv;clear Az A9 hb2' d0 d1 d2 d3 ld;have d0:=A7 Cv 0 _ rfl;have d3:=A7 Cv 3 _ rfl;have ld:=A6 Cv;clear Cv;have Ip:(Bu.step (binOp sg) 0 l.line).st.length=Bu.st.length+1:=Dg _ _ _ _;have hl3:=Gh K.fns K.gl l2 c2 (Bu.step (binOp sg) 0 l.line);have HL2:=A0 Ip;go_wp2_with fail
  refine(Ed.o _ _ z4sa Ah.o Aa.o).mono ?_;rintro r w3 ⟨rfl,C0,Ar⟩;have Be:=A0 C0;have Ay:Hid (A2 D w w3):=Aa.o.trans Ar;have Eh:=(Ar.block b hD).trans HBk2.o;clear C0 Ar d0 d3 ld;have d0:=A7 Eh 0 _ rfl;have ld:=A6 Eh;clear Eh;have hl4:Bu.st.length<(Am K.fns K.gl l2 (Ak c2) (em K.fns K.gl c2) (Bu.step (binOp sg) 0 l.line)).st.length+1:=by
   have:=X3 K.fns K.gl l2 c2 (Bu.step (binOp sg) 0 l.line);omega
  generalize hE3:Am K.fns K.gl l2 (Ak c2) (em K.fns K.gl c2) (Bu.step (binOp sg) 0 l.line)=em3 at *;go_wp2_with fail
  refine(Ku Be.o.ew z4sa 11 0 l.line).mono ?_;rintro r w4 ⟨rfl,F6,Bi⟩;have El:=A0 (Be.o.next (e':=em3.step 11 0 l.line) Bi F6 rfl);have Cs:Hid (A2 D w w4):=Ay.o.trans Bi;clear F6 Bi;go_wp2_with fail
  refine(Uz El.o.ew Bu.st.length z6ba).mono ?_;rintro r w5 ⟨rfl,Ch,Dd⟩;have Hs:=A0 (El.o.next (e':=(em3.step 11 0 l.line).land Bu.st.length) Dd Ch rfl);have Ek:Hid (A2 D w w5):=Cs.o.trans Dd;clear Ch Dd;go_wp2;refine bodyPost_ret (v:=.tuple #[]) (by simp[results,Tryz.results90,go_sem]) rfl ?_;subst hE3;exact⟨rfl,Hs.o,Ek.o⟩):P:=h
theorem Ana(K:EC)(l:A3)(c:BT A3)(hk:l.kd=139\/l.kd=140)(ih:Cq (Fb K) c)(D:Nat->Prop)(w:World)(la:Option Addr)(ln lc:Nat)(ps:Value)(e:Em)(b:Nat)(a1 a2:Value)
  (hst:K.Ex D w la ln lc ps e) (hD:D b) (hb:w.heap[b]?=some (.cells #[.int .i64 (l.line:Nat),.int .i64 ((l.kd-100:Nat):Nat),a1,a2] 295 (0,0))) (hr:Al D w c [a1,a2]) (hsz:e.st.length+2*bsize (nd l c)<=800000) :
  Calls Tryz.prog 90 #[.pointer (some ⟨K.wb,0,none⟩),.pointer (some ⟨b,0,none⟩)] w fun r w'=>r=.returned (.tuple #[])/\K.Ex D w' la ln lc ps (Am K.fns K.gl l (Ak c) (em K.fns K.gl c) e)/\A2 D w w':=by
 obtain⟨hlo,lcb,hncb⟩:=hst.lo;have hnds:=Br l c;obtain⟨x1,y1,l1,c1,r1,Cx,rfl,B9,B8,hz⟩:=hr.cons';obtain⟨x2,y2,l2,c2,r2,Gl,rfl,D7,Bm,Bw⟩:=hz.cons';obtain rfl:=Bw.nil';have Bq:bsize (.node x1 y1 l1 c1 (.node x2 y2 l2 c2 .nil))=bsize (nd l1 c1)+bsize (nd l2 c2):=by rw[Br,Br,bsize,bsize,bsize];omega
 rw[X0 hk];simp only[Lf,P9,Ti];have Jm:=Gh K.fns K.gl l1 c1 e;have Gy:=A0 (ih.1 D w la ln lc ps e a1 Cx hst B9 B8 z4sa);have Ed:=A0 (fun(W:World) (e2:Em) (he:e2.st.length+2*bsize (nd l2 c2)<=800000) (hx:K.Ex D W la ln lc ps e2) (hbd:A2 D w W)=>ih.2.1 D W la ln lc ps e2 a2 Gl hx (D7.Bf hbd) (Bm.Bf hbd) he);have HBk:=A0 hb;have t40:((((l.kd-100:Nat):Int)==39)||(((l.kd-100:Nat):Int)==40))=true:=by
  rcases hk with h|h <;> rw[h] <;> rfl
 have HOp:=A0 (fun W=>l6 (l.kd-100) z4sa z4sa W);have hlines:=Br l2 c2;have d0:=A7 hb 0 _ rfl;have d1:=A7 hb 1 _ rfl;have d2:=A7 hb 2 _ rfl;have d3:=A7 hb 3 _ rfl;have ld:=A6 hb;clear hst hb hr B9 B8 hz D7 Bm Bw ih;have hsg:((l.kd-100:Nat):Int)=39\/((l.kd-100:Nat):Int)=40:=by omega
 generalize l.kd-100=sg at *;clear hk;generalize I0:Am K.fns K.gl l1 (Ak c1) (em K.fns K.gl c1) e=Bu at *;go_enter Tryz.func90,Tryz.ntmps90;go_wp2_with fail
 refine Gy.o.mono ?_;rintro r w1 ⟨rfl,Ai,A1⟩;have A8:=A0 Ai;have A4:=A0 A1;have Bd:=(A1.block b hD).trans HBk.o;have HBk1:=A0 Bd;clear Ai A1;clear d0 d1 d2 d3 ld;have d0:=A7 Bd 0 _ rfl;have d1:=A7 Bd 1 _ rfl;have d2:=A7 Bd 2 _ rfl;have d3:=A7 Bd 3 _ rfl;have ld:=A6 Bd;clear Bd;rcases hsg with hsg|hsg
 ·have t39:((sg:Int)==39)=true:=by rw[hsg];rfl
  exact z04a
 ·have t39:((sg:Int)==39)=false:=by rw[hsg];rfl
  have t41:((sg:Int)==40)=true:=by rw[hsg];rfl
  exact z04a
theorem Aoc(K:EC)(l:A3)(c:BT A3)(h1:127<=l.kd)(h2:l.kd<=140)(ih:Cq (Fb K) c):Fb K l c:=by
 intro D w la ln lc ps e v ks hst hn hr hsz;unfold Bh at hn;rw[if_neg z4sa]at hn;obtain⟨b,cs,rfl,hD,hb,hl⟩:=hn;have e1:Cc l.kd=248/\D8 l.kd=295:=by
  have hk:l.kd=127\/l.kd=128\/l.kd=129\/l.kd=130\/l.kd=131\/l.kd=132\/l.kd=133\/l.kd=134\/l.kd=135\/l.kd=136\/l.kd=137\/l.kd=138\/l.kd=139\/l.kd=140:=by omega
  rcases hk with h|h|h|h|h|h|h|h|h|h|h|h|h|h <;> rw[h] <;> exact⟨rfl,rfl⟩
 rw[e1.1];rw[e1.2]at hb;have Ip:∃a b,cs=#[Gd l.line,.int .i64 ((l.kd-100:Nat):Nat),a,b]/\ks=[a,b]:=by
  have hk:l.kd=127\/l.kd=128\/l.kd=129\/l.kd=130\/l.kd=131\/l.kd=132\/l.kd=133\/l.kd=134\/l.kd=135\/l.kd=136\/l.kd=137\/l.kd=138\/l.kd=139\/l.kd=140:=by omega
  unfold Cm at hl;rcases hk with h|h|h|h|h|h|h|h|h|h|h|h|h|h <;> simpa only[h]using hl
 obtain⟨a1,a2,rfl,rfl⟩:=Ip;have HC:Hid (Calls Tryz.prog 90 #[.pointer (some ⟨K.wb,0,none⟩),.pointer (some ⟨b,0,none⟩)] w fun r w'=>r=.returned (.tuple #[])/\K.Ex D w' la ln lc ps (Am K.fns K.gl l (Ak c) (em K.fns K.gl c) e)/\A2 D w w'):=by
  by_cases A9:l.kd<=138
  ·exact An9 K l c h1 A9 ih D w la ln lc ps e b a1 a2 hst hD hb hr hsz
  ·exact Ana K l c z4sa ih D w la ln lc ps e b a1 a2 hst hD hb hr hsz
 have D4:=Lb 248 z4ta;have Dp:=Lr 248 z4ta;have Ej:=Ml 248 z4ta;have F9:=Nb 248 z4ta;have G6:=Nc 248 z4ta;have I7:=Ox 248 z4ta;have Jg:=Qz 248 z4ta;have ta7:=Aor;clear hst hb e1 hr hl ih;exact z3wa
end
end Go.Proofs.YtjdlndhfaaolaaaGreatDoor
