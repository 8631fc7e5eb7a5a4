import Derived.Test.YtjdlndhfaaolaaaGreatDoorR39
set_option maxHeartbeats 20000000
namespace Go.Proofs.YtjdlndhfaaolaaaGreatDoor
section
set_option maxRecDepth 100000
open Go.RowKit
open Go.Deep (BT)
theorem A7r(n:Int)(w:World):Calls Tryz.prog 85 #[.int .i64 n] w fun e w'=>e=.returned (.agg #[.int .i64 2,.bool false,.int .i64 n,.string ⟨#[]⟩,.pointer none])/\Below w.heap.size w w':=by
 go_enter Tryz.func85,Tryz.ntmps85;go_wp2;refine bodyPost_ret (v:=.agg #[.int .i64 2,.bool false,.int .i64 n,.string ⟨#[]⟩,.pointer none]) (by simp[results,Tryz.results85,go_sem]) rfl ⟨rfl,?_⟩;repeat (first|exact Below.refl _ _|refine Below.alloc ?_ (by simp) _|refine Below.setCell ?_ (by simp) _|refine Below.drew ?_)
theorem A7s(s:ByteArray)(w:World):Calls Tryz.prog 86 #[.string s] w fun e w'=>e=.returned (.agg #[.int .i64 3,.bool false,.int .i64 0,.string s,.pointer none])/\Below w.heap.size w w':=by
 go_enter Tryz.func86,Tryz.ntmps86;go_wp2;refine bodyPost_ret (v:=.agg #[.int .i64 3,.bool false,.int .i64 0,.string s,.pointer none]) (by simp[results,Tryz.results86,go_sem]) rfl ⟨rfl,?_⟩;repeat (first|exact Below.refl _ _|refine Below.alloc ?_ (by simp) _|refine Below.setCell ?_ (by simp) _|refine Below.drew ?_)
theorem Zm(b:Bool)(w:World):Calls Tryz.prog 87 #[.bool b] w fun e w'=>e=.returned (.agg #[.int .i64 1,.bool b,.int .i64 0,.string ⟨#[]⟩,.pointer none])/\Below w.heap.size w w':=by
 go_enter Tryz.func87,Tryz.ntmps87;go_wp2;refine bodyPost_ret (v:=.agg #[.int .i64 1,.bool b,.int .i64 0,.string ⟨#[]⟩,.pointer none]) (by simp[results,Tryz.results87,go_sem]) rfl ⟨rfl,?_⟩;repeat (first|exact Below.refl _ _|refine Below.alloc ?_ (by simp) _|refine Below.setCell ?_ (by simp) _|refine Below.drew ?_)
theorem Sj{D:Nat->Prop}{wb te:Nat}{w:World}{fs gs ls ps:Value}{slots:Nat}{st:List G4}(h:Ld D wb te w fs gs ls ps slots st)(hn:st.length<=900000)(v:PV) :
  Calls Tryz.prog 84 #[.pointer (some ⟨wb,0,none⟩),.agg #[.int .i64 (v.k:Nat),.bool v.y,.int .i64 v.n,.string ⟨v.t.toArray⟩,.pointer none]] w fun e w'=>e=.returned (.tuple #[])/\Ld D wb te w' fs gs ls ps slots (st++[⟨0,0,0,v⟩])/\A4 D w w':=by
 have h0:Ld D wb te (w.alloc (.cells #[.int .i64 (v.k:Nat),.bool v.y,.int .i64 v.n,.string ⟨v.t.toArray⟩,.pointer none] 225)) fs gs ls ps slots st:=h.keep (fun g hg=>Below.heap_alloc _ _ _ hg) (by simp);have Cf:A4 D w (w.alloc (.cells #[.int .i64 (v.k:Nat),.bool v.y,.int .i64 v.n,.string ⟨v.t.toArray⟩,.pointer none] 225)):=by
  obtain⟨_,_,_,h⟩:=h;exact(A4.refl D w).alloc h.lo _
 have hx0:=heap_alloc_new w (.cells #[.int .i64 (v.k:Nat),.bool v.y,.int .i64 v.n,.string ⟨v.t.toArray⟩,.pointer none] 225);clear h;generalize hW:w.alloc (.cells #[.int .i64 (v.k:Nat),.bool v.y,.int .i64 v.n,.string ⟨v.t.toArray⟩,.pointer none] 225)=w0 at *;generalize hxb:w.heap.size=xb at *;have HW:=A0 hW;have HXb:=A0 hxb;clear hW hxb;have Br:=A0 Cf;obtain⟨sa,sn,sc,h⟩:=h0;have c:=Ac h.cell 5 _ rfl;have lb:=A5 h.cell;have hv:sn=st.length:=(C9 h.own).1;subst hv;have x0:=Ac hx0 0 _ rfl;have x1:=Ac hx0 1 _ rfl;have x2:=Ac hx0 2 _ rfl;have x3:=Ac hx0 3 _ rfl;have x4:=Ac hx0 4 _ rfl;have lx:=A5 hx0;have hown:w0.drew.ownsRow 0 251 8 (.slice sa st.length sc) st.length (G1 st):=Bb h.own (fun _ _ _=>rfl);have HH:=A0 h;have HP:=A0 (fun(w1:World) (g cap:Nat)=>h.b8 ⟨0,0,0,v⟩ (w1:=w1) (g:=g) (cap:=cap));clear h Cf hx0;go_enter Tryz.func84,Tryz.ntmps84;go_wp2;rw[HW.o,HXb.o];go_region_law (refine P9 _ w0.heap.size #[.int .i64 0,.int .i64 0,.int .i64 0,.int .i64 (v.k:Nat),.bool v.y,.int .i64 v.n,.string ⟨v.t.toArray⟩,.pointer none] 251 (heap_alloc_new w0.drew _) rfl (.tmp 9) (.tmp 12) 96 rfl 0 8 72 _ Tryz.underlying96 Z7 rfl (by omega) (.slice sa st.length sc) st.length (G1 st) rfl rfl (hown.alloc _) rfl (fun v hv=>by simp at hv;rcases hv with rfl|rfl|rfl|rfl|rfl|rfl|rfl|rfl <;> rfl) (by omega) (by omega) (Nat.zero_le _) ?_;intro g cap w1 E1 hgrow' hat' hg;have hg0:=N6 (World.grownBy_alloc w0.drew _ none) hgrow';have hgrow:w0.grownBy w1 (Value.slice sa st.length sc).ownBlock:=⟨hg0.os,hg0.tape,hg0.output,hg0.size,hg0.block⟩;clear hg0;have hat:(Value.slice sa st.length sc).ownBlock=some g\/w0.heap.size<=g:=hat'.imp id (fun e=>by rw[e];simp);have A3:=(hgrow.block wb lb (fun e=>(HH.o.C5 wb e.symm).2 rfl)).trans HH.o.cell;have c1:=Ac A3 5 _ rfl;have f1:=Ce A3;have F7:=A5 A3;have Bh:=A0 (HP.o w1 g cap E1 hgrow hat);clear A3 E1 hgrow hat hgrow' hat')
 all_goals go_wp2
 all_goals go_end0
 all_goals exact⟨rfl,⟨_,_,_,Bh.o.1⟩,Br.o.trans Bh.o.2⟩
theorem Ik.A6k{D:Nat->Prop}{w:World}{wb te:Nat}{fs gs ls ps:Value}{slots:Nat}{st:List G4}{g sn sc:Nat}(h:Ik D wb te w fs gs ls ps slots st (some ⟨g,0,none⟩) sn sc)(j:Nat)(hj:j<st.length)(a:Int) :
  Ik D wb te (w.setCell ⟨g,j*8+1,none⟩ (.int .i64 a)) fs gs ls ps slots (N8 j a st) (some ⟨g,0,none⟩) sn sc/\A4 D w (w.setCell ⟨g,j*8+1,none⟩ (.int .i64 a)):=by
 have hg:=h.C5 g rfl;obtain⟨hl,⟨h2,h3⟩|⟨g',cap,cur,hv,_,hb,hcap,hmx,hsz,ht⟩⟩:=h.own
 ·cases h2
 injection hv with e1 e2 e3;injection e1 with e1;injection e1 with e1;subst e1 e2 e3;refine⟨⟨(Below.heap_setCell _ _ _ _ (by exact fun e=>hg.2 e.symm)).trans h.cell,⟨?_,.inr ⟨g,sc,cur.setIfInBounds (j*8+1) (.int .i64 a),?_,Nat.zero_le _,heap_set hb _,?_,hmx,?_,?_⟩⟩,h.Di,h.C5,fun k hk=>by have:=h.lo k hk;simp[World.setCell];exact this⟩,(A4.refl D w).set hg.1 _⟩
 ·rw[A6a,Rs]
 ·rw[Rs]
 ·rw[Rs];exact hcap
 ·simpa using hsz
 ·rw[Rs,A69 a st j hj,Array.toList_setIfInBounds,←ht,List.take_set]
theorem Uc{D:Nat->Prop}{wb te:Nat}{w:World}{fs gs ls ps:Value}{slots:Nat}{st:List G4}(h:Ld D wb te w fs gs ls ps slots st)(j:Nat)(hj:j<st.length) :
  Calls Tryz.prog 140 #[.pointer (some ⟨wb,0,none⟩),.int .i64 (j:Nat)] w fun e w'=>e=.returned (.tuple #[])/\Ld D wb te w' fs gs ls ps slots (N8 j (st.length:Nat) st)/\A4 D w w':=by
 have HHere:=A0 (V5 (h.keep (w':=w.drew) (fun _ _=>rfl) (Nat.le_refl _)));obtain⟨sa,sn,sc,h⟩:=h;have c:=Ac h.cell 5 _ rfl;have lb:=A5 h.cell;have hv:sn=st.length:=(C9 h.own).1;subst hv;obtain⟨hl,⟨h2,h3⟩|⟨g,cap,cur,hv,_,hb,hcap,hmx,hsz,ht⟩⟩:=h.own
 ·omega
 injection hv with e1 _ e3;subst e1 e3;have HL:=A0 (h.A6k j hj (st.length:Nat));have fg:=Ce hb;have lg:=A5 hb;have cg:w.cell? ⟨g,j*8+1,none⟩=some cur[j*8+1]:=by rw[cell_of_row w g (j*8+1) cur _ _ hb,Array.getElem?_eq_getElem (by omega)]
 generalize cur[j*8+1]=oldc at cg;have HB:Hid (A4 D w w.drew):=⟨rfl,rfl,rfl,Nat.le_refl _,fun _ _=>rfl⟩;clear h hb ht hl hsz hmx;go_enter Tryz.func140,Tryz.ntmps140;go_wp2;refine Mu 10 (by kernel_rfl) (by kernel_rfl) ?_;simp only[List.take_succ_cons,List.take_zero,List.drop_succ_cons,List.drop_zero];iterate 7 (refine Gv (fun K' hK'=>?_);go_simp;refine hK' _ ?_;clear hK' K')
 refine Gv (fun K' hK'=>?_);go_simp;refine⟨_,HHere.o,hK' _ ?_⟩;clear hK' K';iterate 2 (refine Gv (fun K' hK'=>?_);go_simp;refine hK' _ ?_;clear hK' K')
 refine Mt ?_;go_wp2;go_end0;exact⟨rfl,Ld.keep ⟨_,_,_,HL.o.1⟩ (fun _ _=>rfl) (Nat.le_refl _),HL.o.2.trans ⟨rfl,rfl,rfl,Nat.le_refl _,fun _ _=>rfl⟩⟩
theorem Adu{D:Nat->Prop}{wb te:Nat}{w:World}{gs ls ps:Value}{slots:Nat}{st:List G4}{fns:List (Nm×Nat)}{fa:Option Addr}{fn fc:Nat}(h:Ld D wb te w (.slice fa fn fc) gs ls ps slots st)(hf:Je D w fns fa fn fc)(s:Nm) :
  Calls Tryz.prog 142 #[.pointer (some ⟨wb,0,none⟩),.string ⟨s.toArray⟩] w fun e w'=>e=.returned (.int .i64 (O9 fns s))/\w'=w:=by
 obtain⟨sa,sn,sc,h⟩:=h;have c:=Ac h.cell 0 _ rfl;have lb:=A5 h.cell;have hfew:=hf.few;have hcap:=hf.cap;have hlen:=hf.len;subst hlen;have HH:=A0 hf;clear h hf;go_enter Tryz.func142,Tryz.ntmps142;go_wp2;go_loopg [12] fns.length (fun q v wr=>∃i:Nat,v=.int .i64 i/\i+q=fns.length/\(∀j,j<i->∀h':j<fns.length,fns[j].1≠s)/\wr=w)
 case atStart=>exact⟨0,rfl,by omega,fun i hi=>by omega,rfl⟩
 case round=>
  obtain⟨i,rfl,hik,hno,rfl⟩:=hrel;have HNo:=A0 hno;clear hno;by_cases hlt:i<fns.length
  ·obtain⟨g,pb,pa,pc,rfl,_,lg,cg,_,lp,c1,c2⟩:=HH.o.at' i hlt;have HI:Hid (fns[i].1=s->O9 fns s=(i:Nat)):=by
    intro e;unfold O9;rw[Yp s (fns.map Prod.fst) i (by simpa using hlt) (by simpa using e) (fun j hj hji=>by simpa using HNo.o j hji (by simpa using hj))]
   have HS:Hid (fns[i].1≠s->∀j,j<i+1->∀h':j<fns.length,fns[j].1≠s):=by
    intro hn j hj h' e;by_cases hjn:j=i
    ·subst hjn;exact hn e
    ·exact HNo.o j (by omega) h' e
   generalize fns[i]=x at *;cases hq:(x.1==s)
   ·have HQ:Hid (x.1≠s):=by rw[beq_eq_false_iff_ne]at hq;exact hq
    go_wp2;go_roundg (gk-1)
    case measure=>omega
    case rel=>exact⟨i+1,rfl,by omega,HS.o HQ.o,rfl⟩
   ·have HQ:Hid (x.1=s):=A0 (by simpa using hq);have HE:=A0 (HI.o HQ.o);go_wp2;go_ret;exact⟨R5 HE.o.symm,rfl⟩
  ·have HT:Hid (O9 fns s=-1):=by
    show _=_;unfold O9;rw[Yo s (fns.map Prod.fst) (fun j hj=>by simpa using HNo.o j (by simp at hj;omega) (by simpa using hj))]
   go_wp2;go_ret;exact⟨R5 HT.o.symm,rfl⟩
theorem EC.Ex.stk{K:EC}{D:Nat->Prop}{w:World}{la:Option Addr}{ln lc:Nat}{ps:Value}{e:Em}{sa:Option Addr}{sn sc:Nat}(h:K.Ex D w la ln lc ps e)(hv:Ik D K.wb K.te w (.slice K.fa K.fn K.fc) (.slice K.ga K.gn K.gc) (.slice la ln lc) ps e.slots e.st sa sn sc) :
  Gl 9 K.wb 2 w #[.slice K.fa K.fn K.fc,.slice K.ga K.gn K.gc,.slice la ln lc,ps,.int .i64 (e.slots:Nat),.slice sa sn sc] K.te la ln lc (D3 e.loc):=
 ⟨hv.cell,rfl,by have:=h.lr.1;rwa [show e.loc.length=(D3 e.loc).length by simp[D3]]at this,fun e=>hv.Di (h.lr.2 _ e)⟩
theorem Zl{l:List Nm}{i:Nat}(h:i<l.length):(D3 l)[i]'(by simp[D3];exact h)=.string ⟨l[i].toArray⟩:=by simp[D3,Lr]
theorem Oy(l:List Nm):(D3 l).length=l.length:=by simp[D3]
theorem A0i{K:EC}{D:Nat->Prop}{w:World}{la:Option Addr}{ln lc:Nat}{ps:Value}{e:Em}(h:K.Ex D w la ln lc ps e)(hn:e.st.length<=900000)(s:Nm)(lo gb:Nat) :
  Calls Tryz.prog 88 #[.pointer (some ⟨K.wb,0,none⟩),.string ⟨s.toArray⟩,.int .i64 (lo:Nat),.int .i64 (gb:Nat)] w fun r w'=>r=.returned (.tuple #[])/\K.Ex D w' la ln lc ps (e.var K.gl s lo gb)/\A4 D w w':=by
 have HX:=A0 h;obtain⟨sa,sn,sc,hv⟩:=h.ew;have hfew:=h.few;obtain⟨c0,c1,c2,c3,c4,c5,fz,lb⟩:=As hv.cell;have HL:=A0 (R8 (h.stk hv));rw[Oy]at HL;have HA:=A0 (fun i hi=>o3 (h.stk hv) i hi);have hgr:=h.gr.1;have hgn:K.gn=K.gl.length:=(C9 hgr).1;obtain⟨ga,hga⟩:∃ga,ga=K.ga:=⟨_,rfl⟩;rw[←hga]at c1 hgr;have HGr:=A0 hgr;have HSt:=A0 (fun(op:Nat) (arg:Int)=>Ly h.ew hn op arg 0);rw[hgn]at c1;clear h hv hgr hgn c0 c2 c3 c4 c5 fz hga;go_enter Tryz.func88,Tryz.ntmps88;go_wp2_with fail
 refine HL.o.mono ?_;rintro r w ⟨rfl,rfl⟩;go_wp2;go_loopg [8] e.loc.length (fun k v wr=>v=.int .i64 ((k:Int)-1)/\k<=e.loc.length/\(∀j (h:j<e.loc.length),k<=j->e.loc[j]≠s)/\wr=w)
 case atStart=>exact⟨rfl,Nat.le_refl _,fun j h h'=>by omega,rfl⟩
 case round=>
  obtain⟨rfl,hk,hno,rfl⟩:=hrel;have HNo:=A0 hno;clear hno;by_cases hlt:0<gk
  ·obtain⟨i,rfl⟩:∃i,gk=i+1:=⟨gk-1,by omega⟩;have hi:i<e.loc.length:=by omega
   have HA1:=A0 (HA.o i (by rw[Oy];exact hi));rw[Zl hi]at HA1;have hpi:(((i+1:Nat):Int)-1)=(i:Int):=by omega
   rw[hpi];have HI:Hid (e.loc[i]=s->Ob s e.loc=some i):=fun e1=>A6n s _ i hi e1 (fun j hj hij=>HNo.o j hj (by omega));have HS:Hid (e.loc[i]≠s->∀j (h:j<e.loc.length),i<=j->e.loc[j]≠s):=by
    intro hn j hj hij e2;by_cases hjn:j=i
    ·subst hjn;exact hn e2
    ·exact HNo.o j hj (by omega) e2
   generalize e.loc[i]=x at *;clear hpi;cases hq:(x==s)
   ·have HQ:Hid (x≠s):=by rw[beq_eq_false_iff_ne]at hq;exact hq
    go_wp2_with fail
    refine HA1.o.mono ?_;rintro r w' ⟨rfl,rfl⟩;go_wp2;go_roundg i
    case measure=>omega
    case rel=>exact⟨rfl,by omega,HS.o HQ.o,rfl⟩
   ·have HQ:Hid (x=s):=A0 (by simpa using hq);have HV:Hid (e.var K.gl s lo gb=e.step lo (i:Nat) 0):=by
     show _=_;unfold Em.var;rw[HI.o HQ.o]
    have E9:=A0 (HSt.o lo (i:Nat));go_wp2_with fail
    refine HA1.o.mono ?_;rintro r w' ⟨rfl,rfl⟩;go_wp2_with fail
    refine E9.o.mono ?_;rintro r w2 ⟨rfl,Av,A9⟩;have Bi:=A0 (HX.o.next (e':=e.step lo (i:Nat) 0) A9 Av rfl);have Ai:=A0 A9;clear Av A9;go_wp2;refine bodyPost_ret (v:=.tuple #[]) (by simp[results,Tryz.results88,go_sem]) rfl ?_;rw[HV.o];exact⟨rfl,Bi.o,Ai.o⟩
  ·obtain rfl:gk=0:=by omega
   have HLn:Hid (Ob s e.loc=none):=Zc s _ (fun j hj=>HNo.o j hj (by omega));clear hlt HNo;go_wp2;go_loopg [36] K.gl.length (fun q v wq=>∃i:Nat,v=.int .i64 i/\i+q=K.gl.length/\(∀j,j<i->∀h':j<K.gl.length,K.gl[j]≠s)/\wq=wr)
   case atStart=>exact⟨0,rfl,by omega,fun i hi=>by omega,rfl⟩
   case round=>
    obtain⟨i,rfl,hik,hno,rfl⟩:=hrel;have HNo:=A0 hno;clear hno;by_cases hlt:i<K.gl.length
    ·obtain⟨g,rfl,_,hcap,lg,hcell⟩:=Fs HGr.o (by omega);have d0:=hcell i (.string ⟨K.gl[i].toArray⟩) (by rw[List.getElem?_eq_getElem (by rw[Oy];exact hlt),Zl hlt]);have HI:Hid (K.gl[i]=s->O8 s K.gl=some i):=fun e1=>Yp s _ i hlt e1 (fun j hj hij=>HNo.o j hij hj);have HS:Hid (K.gl[i]≠s->∀j,j<i+1->∀h':j<K.gl.length,K.gl[j]≠s):=by
      intro hn j hj h' e2;by_cases hjn:j=i
      ·subst hjn;exact hn e2
      ·exact HNo.o j (by omega) h' e2
     clear hcell;generalize K.gl[i]=x at *;cases hq:(x==s)
     ·have HQ:Hid (x≠s):=by rw[beq_eq_false_iff_ne]at hq;exact hq
      go_wp2;go_roundg (gk-1)
      case measure=>omega
      case rel=>exact⟨i+1,rfl,by omega,HS.o HQ.o,rfl⟩
     ·have HQ:Hid (x=s):=A0 (by simpa using hq);have HV:Hid (e.var K.gl s lo gb=e.step gb (i:Nat) 0):=by
       show _=_;unfold Em.var;rw[HLn.o,HI.o HQ.o]
      have E9:=A0 (HSt.o gb (i:Nat));go_wp2_with fail
      refine E9.o.mono ?_;rintro r w2 ⟨rfl,Av,A9⟩;have Bi:=A0 (HX.o.next (e':=e.step gb (i:Nat) 0) A9 Av rfl);have Ai:=A0 A9;clear Av A9;go_wp2;refine bodyPost_ret (v:=.tuple #[]) (by simp[results,Tryz.results88,go_sem]) rfl ?_;rw[HV.o];exact⟨rfl,Bi.o,Ai.o⟩
    ·have HV:Hid (e.var K.gl s lo gb=e):=by
      show _=_;unfold Em.var;rw[HLn.o,Yo s _ (fun j hj=>HNo.o j (by omega) hj)]
     go_wp2;go_end0;rw[HV.o];exact⟨rfl,HX.o,A4.refl _ _⟩
theorem Ma(t:TypeId)(h:t≠220)(v:Value)(w:World):(Instr.typeAssert (.iface t v) 150 220 true).run Tryz.prog w=.ok (.tuple #[.pointer none,.bool false]) w:=Az Tryz.underlying220 (by kernel_rfl) h v w
theorem Aez(v:Value)(w:World):(Instr.typeAssert (.iface 220 v) 150 220 true).run Tryz.prog w=.ok (.tuple #[v,.bool true]) w:=Dz Tryz.underlying220 v w
theorem Ml(t:TypeId)(h:t≠229)(v:Value)(w:World):(Instr.typeAssert (.iface t v) 150 229 true).run Tryz.prog w=.ok (.tuple #[.pointer none,.bool false]) w:=Az Tryz.underlying229 (by kernel_rfl) h v w
theorem Af4(v:Value)(w:World):(Instr.typeAssert (.iface 229 v) 150 229 true).run Tryz.prog w=.ok (.tuple #[v,.bool true]) w:=Dz Tryz.underlying229 v w
theorem Ng(t:TypeId)(h:t≠233)(v:Value)(w:World):(Instr.typeAssert (.iface t v) 150 233 true).run Tryz.prog w=.ok (.tuple #[.pointer none,.bool false]) w:=Az Tryz.underlying233 (by kernel_rfl) h v w
theorem A0j(v:Value)(w:World):(Instr.typeAssert (.iface 233 v) 150 233 true).run Tryz.prog w=.ok (.tuple #[v,.bool true]) w:=Dz Tryz.underlying233 v w
theorem O0(t:TypeId)(h:t≠237)(v:Value)(w:World):(Instr.typeAssert (.iface t v) 150 237 true).run Tryz.prog w=.ok (.tuple #[.pointer none,.bool false]) w:=Az Tryz.underlying237 (by kernel_rfl) h v w
theorem Af2(v:Value)(w:World):(Instr.typeAssert (.iface 237 v) 150 237 true).run Tryz.prog w=.ok (.tuple #[v,.bool true]) w:=Dz Tryz.underlying237 v w
theorem O1(t:TypeId)(h:t≠238)(v:Value)(w:World):(Instr.typeAssert (.iface t v) 150 238 true).run Tryz.prog w=.ok (.tuple #[.pointer none,.bool false]) w:=Az Tryz.underlying238 (by kernel_rfl) h v w
theorem A0m(v:Value)(w:World):(Instr.typeAssert (.iface 238 v) 150 238 true).run Tryz.prog w=.ok (.tuple #[v,.bool true]) w:=Dz Tryz.underlying238 v w
theorem Pb(t:TypeId)(h:t≠241)(v:Value)(w:World):(Instr.typeAssert (.iface t v) 150 241 true).run Tryz.prog w=.ok (.tuple #[.pointer none,.bool false]) w:=Az Tryz.underlying241 (by kernel_rfl) h v w
theorem Aey(v:Value)(w:World):(Instr.typeAssert (.iface 241 v) 150 241 true).run Tryz.prog w=.ok (.tuple #[v,.bool true]) w:=Dz Tryz.underlying241 v w
theorem Re(t:TypeId)(h:t≠244)(v:Value)(w:World):(Instr.typeAssert (.iface t v) 150 244 true).run Tryz.prog w=.ok (.tuple #[.pointer none,.bool false]) w:=Az Tryz.underlying244 (by kernel_rfl) h v w
theorem A0l(v:Value)(w:World):(Instr.typeAssert (.iface 244 v) 150 244 true).run Tryz.prog w=.ok (.tuple #[v,.bool true]) w:=Dz Tryz.underlying244 v w
theorem Sk(t:TypeId)(h:t≠248)(v:Value)(w:World):(Instr.typeAssert (.iface t v) 150 248 true).run Tryz.prog w=.ok (.tuple #[.pointer none,.bool false]) w:=Az Tryz.underlying248 (by kernel_rfl) h v w
theorem Aew(v:Value)(w:World):(Instr.typeAssert (.iface 248 v) 150 248 true).run Tryz.prog w=.ok (.tuple #[v,.bool true]) w:=Dz Tryz.underlying248 v w
theorem Ug(t:TypeId)(h:t≠296)(v:Value)(w:World):(Instr.typeAssert (.iface t v) 150 296 true).run Tryz.prog w=.ok (.tuple #[.pointer none,.bool false]) w:=Az Tryz.underlying296 (by kernel_rfl) h v w
theorem Af1(v:Value)(w:World):(Instr.typeAssert (.iface 296 v) 150 296 true).run Tryz.prog w=.ok (.tuple #[v,.bool true]) w:=Dz Tryz.underlying296 v w
theorem Wq(t:TypeId)(h:t≠301)(v:Value)(w:World):(Instr.typeAssert (.iface t v) 150 301 true).run Tryz.prog w=.ok (.tuple #[.pointer none,.bool false]) w:=Az Tryz.underlying301 (by kernel_rfl) h v w
theorem Aex(v:Value)(w:World):(Instr.typeAssert (.iface 301 v) 150 301 true).run Tryz.prog w=.ok (.tuple #[v,.bool true]) w:=Dz Tryz.underlying301 v w
theorem A0n(t:TypeId)(h:t≠304)(v:Value)(w:World):(Instr.typeAssert (.iface t v) 150 304 true).run Tryz.prog w=.ok (.tuple #[.pointer none,.bool false]) w:=Az Tryz.underlying304 (by kernel_rfl) h v w
theorem Af0(v:Value)(w:World):(Instr.typeAssert (.iface 304 v) 150 304 true).run Tryz.prog w=.ok (.tuple #[v,.bool true]) w:=Dz Tryz.underlying304 v w
theorem Af5(t:TypeId)(h:t≠307)(v:Value)(w:World):(Instr.typeAssert (.iface t v) 150 307 true).run Tryz.prog w=.ok (.tuple #[.pointer none,.bool false]) w:=Az Tryz.underlying307 (by kernel_rfl) h v w
theorem Af3(v:Value)(w:World):(Instr.typeAssert (.iface 307 v) 150 307 true).run Tryz.prog w=.ok (.tuple #[v,.bool true]) w:=Dz Tryz.underlying307 v w
theorem A0k(v:Value)(w:World):(Instr.typeAssert (.iface 310 v) 150 310 true).run Tryz.prog w=.ok (.tuple #[v,.bool true]) w:=Dz Tryz.underlying310 v w
theorem v7(t:TypeId)(h:t≠143)(v:Value)(w:World):(Instr.typeAssert (.iface t v) 142 143 true).run Tryz.prog w=.ok (.tuple #[.pointer none,.bool false]) w:=Az Tryz.underlying143 (by kernel_rfl) h v w
theorem Ab9(v:Value)(w:World):(Instr.typeAssert (.iface 143 v) 142 143 true).run Tryz.prog w=.ok (.tuple #[v,.bool true]) w:=Dz Tryz.underlying143 v w
theorem Nx(t:TypeId)(h:t≠145)(v:Value)(w:World):(Instr.typeAssert (.iface t v) 142 145 true).run Tryz.prog w=.ok (.tuple #[.pointer none,.bool false]) w:=Az Tryz.underlying145 (by kernel_rfl) h v w
theorem p8(v:Value)(w:World):(Instr.typeAssert (.iface 145 v) 142 145 true).run Tryz.prog w=.ok (.tuple #[v,.bool true]) w:=Dz Tryz.underlying145 v w
theorem P8(t:TypeId)(h:t≠253)(v:Value)(w:World):(Instr.typeAssert (.iface t v) 142 253 true).run Tryz.prog w=.ok (.tuple #[.pointer none,.bool false]) w:=Az Tryz.underlying253 (by kernel_rfl) h v w
theorem Aba(v:Value)(w:World):(Instr.typeAssert (.iface 253 v) 142 253 true).run Tryz.prog w=.ok (.tuple #[v,.bool true]) w:=Dz Tryz.underlying253 v w
theorem Q9(t:TypeId)(h:t≠255)(v:Value)(w:World):(Instr.typeAssert (.iface t v) 142 255 true).run Tryz.prog w=.ok (.tuple #[.pointer none,.bool false]) w:=Az Tryz.underlying255 (by kernel_rfl) h v w
theorem Abd(v:Value)(w:World):(Instr.typeAssert (.iface 255 v) 142 255 true).run Tryz.prog w=.ok (.tuple #[v,.bool true]) w:=Dz Tryz.underlying255 v w
theorem R9(t:TypeId)(h:t≠257)(v:Value)(w:World):(Instr.typeAssert (.iface t v) 142 257 true).run Tryz.prog w=.ok (.tuple #[.pointer none,.bool false]) w:=Az Tryz.underlying257 (by kernel_rfl) h v w
theorem Abc(v:Value)(w:World):(Instr.typeAssert (.iface 257 v) 142 257 true).run Tryz.prog w=.ok (.tuple #[v,.bool true]) w:=Dz Tryz.underlying257 v w
theorem Se(t:TypeId)(h:t≠259)(v:Value)(w:World):(Instr.typeAssert (.iface t v) 142 259 true).run Tryz.prog w=.ok (.tuple #[.pointer none,.bool false]) w:=Az Tryz.underlying259 (by kernel_rfl) h v w
theorem Ab6(v:Value)(w:World):(Instr.typeAssert (.iface 259 v) 142 259 true).run Tryz.prog w=.ok (.tuple #[v,.bool true]) w:=Dz Tryz.underlying259 v w
theorem Tz(t:TypeId)(h:t≠264)(v:Value)(w:World):(Instr.typeAssert (.iface t v) 142 264 true).run Tryz.prog w=.ok (.tuple #[.pointer none,.bool false]) w:=Az Tryz.underlying264 (by kernel_rfl) h v w
theorem Ab7(v:Value)(w:World):(Instr.typeAssert (.iface 264 v) 142 264 true).run Tryz.prog w=.ok (.tuple #[v,.bool true]) w:=Dz Tryz.underlying264 v w
theorem Wc(t:TypeId)(h:t≠265)(v:Value)(w:World):(Instr.typeAssert (.iface t v) 142 265 true).run Tryz.prog w=.ok (.tuple #[.pointer none,.bool false]) w:=Az Tryz.underlying265 (by kernel_rfl) h v w
theorem Abb(v:Value)(w:World):(Instr.typeAssert (.iface 265 v) 142 265 true).run Tryz.prog w=.ok (.tuple #[v,.bool true]) w:=Dz Tryz.underlying265 v w
theorem Abv(t:TypeId)(h:t≠268)(v:Value)(w:World):(Instr.typeAssert (.iface t v) 142 268 true).run Tryz.prog w=.ok (.tuple #[.pointer none,.bool false]) w:=Az Tryz.underlying268 (by kernel_rfl) h v w
theorem p9(v:Value)(w:World):(Instr.typeAssert (.iface 268 v) 142 268 true).run Tryz.prog w=.ok (.tuple #[v,.bool true]) w:=Dz Tryz.underlying268 v w
theorem Ab8(v:Value)(w:World):(Instr.typeAssert (.iface 270 v) 142 270 true).run Tryz.prog w=.ok (.tuple #[v,.bool true]) w:=Dz Tryz.underlying270 v w
def Fw(K:EC)(l:A2)(c:BT A2):Prop:=∀(D:Nat->Prop) (w:World) (la:Option Addr) (ln lc:Nat) (ps:Value) (e:Em) (v:Value) (ks:List Value),
 K.Ex D w la ln lc ps e->Ba D w l v ks->Aj D w c ks->e.st.length+2*bsize (nd l c)<=800000->
 Calls Tryz.prog 54 #[.pointer (some ⟨K.wb,0,none⟩),v] w fun r w'=>r=.returned (.tuple #[])/\K.Ex D w' la ln lc ps (Am K.fns K.gl l (A8 c) (em K.fns K.gl c) e)/\A4 D w w'
theorem A0a(K:EC)(c:BT A2)(hok:Co (Fw K) c)(D:Nat->Prop)(w:World)(la:Option Addr)(ln lc:Nat)(ps:Value)(e:Em)(va:Option Addr)(vn vc:Nat)(ks:List Value)
  (hst:K.Ex D w la ln lc ps e) (hown:C1 D w 150 1 (.slice va vn vc) ks.length ks) (hrep:Aj D w c ks) (hsz:e.st.length+2*bsize c<=800000) :
  Calls Tryz.prog 141 #[.pointer (some ⟨K.wb,0,none⟩),.slice va vn vc] w fun r w'=>r=.returned (.tuple #[])/\K.Ex D w' la ln lc ps (em K.fns K.gl c 0 e)/\A4 D w w':=by
 have hvn:vn=ks.length:=(C9 hown.1).1;subst hvn;have Dk:=A0 hst;have HOwn:=A0 hown;have HRep:=A0 hrep;have hlen:=hrep.len;have HLen:=A0 hlen;have hls:=Kl c;have hkl:ks.length<=400000:=by omega
 clear hst hown hrep hlen;go_enter Tryz.func141,Tryz.ntmps141;go_wp2;go_loopg [8] ks.length (fun k v wr=>∃(i:Nat) (ei:Em),v=.int .i64 i/\i+k=ks.length/\K.Ex D wr la ln lc ps ei/\em K.fns K.gl (Au i c) 0 ei=em K.fns K.gl c 0 e/\ei.st.length+2*bsize (Au i c)<=800000/\A4 D w wr)
 case atStart=>exact⟨0,e,rfl,by omega,Dk.o,rfl,hsz,A4.refl _ _⟩
 case round=>
  clear Dk;obtain⟨i,ei,rfl,hik,hst,hse,hsi,hbel⟩:=hrel;have HSt:=A0 hst;have HSe:=A0 hse;have HBel:=A0 hbel;clear hst hse hbel;by_cases hlt:i<ks.length
  ·have hr:=HRep.o.Be HBel.o;obtain⟨x,y,l,cc,r,hd,v,ks',hv,hn,hrk⟩:=Aj.at' i c ks hr (by rw[←HLen.o];exact hlt);obtain⟨g,rfl,_,hcap,lg,hcell⟩:=Fs (HOwn.o.Be HBel.o).1 (by omega);have d0:=hcell i v hv;have hE:=A0 (hok.at' i c x y l cc r hd);have hz:bsize (Au i c)=bsize (nd l cc)+bsize r:=by rw[hd,B8,bsize]
   have HNx:Hid (em K.fns K.gl (Au (i+1) c) 0 (Am K.fns K.gl l (A8 cc) (em K.fns K.gl cc) ei)=em K.fns K.gl c 0 e):=by
    show _=_;rw[Ko i c x y l cc r hd,←HSe.o,hd,Jk]
   have hsn:(Am K.fns K.gl l (A8 cc) (em K.fns K.gl cc) ei).st.length+2*bsize (Au (i+1) c)<=800000:=by
    have:=Hj K.fns K.gl l cc ei;rw[Ko i c x y l cc r hd];omega
   have HC:=A0 (hE.out D wr la ln lc ps ei v ks' HSt.o hn hrk (by omega));have HSn:=A0 hsn;clear hr hd hv hn hrk hcell hsn hz;go_wp2_with fail
   refine HC.o.mono ?_;rintro r' w1 ⟨rfl,Ad,A3⟩;have Aq:=A0 Ad;have Ab:Hid (A4 D w w1):=HBel.o.trans A3;clear Ad A3;go_wp2;go_roundg (gk-1)
   case measure=>omega
   case rel=>exact⟨i+1,_,rfl,by omega,Aq.o,HNx.o,HSn.o,Ab.o⟩
  ·have HE:Hid (ei=em K.fns K.gl c 0 e):=by
    have h0:Au i c=.nil:=by
     have:A8 (Au i c)=0:=by rw[L4,←HLen.o];omega
     cases hd:Au i c with
     | nil=>rfl
     | node x y l c r=>rw[hd]at this;simp[A8]at this
    have:=HSe.o;rw[h0]at this;exact this
   go_wp2;go_end0;rw[←HE.o];exact⟨rfl,HSt.o,HBel.o⟩
theorem Aem(K:EC)(l:A2)(c:BT A2)(hk:l.kd=1):Fw K l c:=by
 intro D w la ln lc ps e v ks hst hn hr hsz;obtain⟨hlo,lcb,hncb⟩:=hst.lo;have hnds:=B8 l c;unfold Ba at hn;rw[if_neg (by omega)]at hn;obtain⟨b,cs,rfl,hD,hb,hl⟩:=hn;have e1:C3 l.kd=220:=by rw[hk];rfl
 have e2:Db l.kd=228:=by rw[hk];rfl
 rw[e1];rw[e2]at hb;unfold Ck at hl;simp only[hk]at hl;rw[Xl hk];obtain⟨rfl,rfl⟩:=hl;have d0:w.cell? ⟨b,0,none⟩=some (.int .i64 l.n):=Ac hb 0 _ rfl;have ld:=A5 hb;have HX:=A0 hst;have HLo:=A0 hlo;have D4:=Aez;clear hst hb e1 e2 hk hr;unfold Bx;go_enter Tryz.func54,Tryz.ntmps54;go_wp2_with fail
 refine(A7r l.n _).mono ?_;rintro r w1 ⟨rfl,A3⟩;have Ea:=A0 (HX.o.keep A3.block A3.size A3.os A3.tape A3.output);have Ab:Hid (A4 D w w1):=⟨A3.os,A3.tape,A3.output,A3.size,fun g hg=>A3.block g (HLo.o g hg)⟩;clear A3;go_wp2_with fail
 refine(Sj Ea.o.ew (by omega) ⟨2,false,l.n,[],none⟩).mono ?_;rintro r w2 ⟨rfl,Av,A9⟩;have Bi:=A0 (Ea.o.next (e':=e.Kn ⟨2,false,l.n,[],none⟩) A9 Av rfl);have Ai:Hid (A4 D w w2):=Ab.o.trans A9;clear Av A9;go_wp2;go_end0;exact⟨rfl,Bi.o,Ai.o⟩
theorem Aet(K:EC)(l:A2)(c:BT A2)(hk:l.kd=2):Fw K l c:=by
 intro D w la ln lc ps e v ks hst hn hr hsz;obtain⟨hlo,lcb,hncb⟩:=hst.lo;have hnds:=B8 l c;unfold Ba at hn;rw[if_neg (by omega)]at hn;obtain⟨b,cs,rfl,hD,hb,hl⟩:=hn;have e1:C3 l.kd=229:=by rw[hk];rfl
 have e2:Db l.kd=232:=by rw[hk];rfl
 rw[e1];rw[e2]at hb;unfold Ck at hl;simp only[hk]at hl;rw[Xr hk];obtain⟨rfl,rfl⟩:=hl;have d0:w.cell? ⟨b,0,none⟩=some (.string ⟨l.s.toArray⟩):=Ac hb 0 _ rfl;have ld:=A5 hb;have HX:=A0 hst;have HLo:=A0 hlo;have D4:=Ma 229 (by decide);have Dt:=Af4;clear hst hb e1 e2 hk hr;unfold Bx;go_enter Tryz.func54,Tryz.ntmps54;go_wp2_with fail
 refine(A7s ⟨l.s.toArray⟩ _).mono ?_;rintro r w1 ⟨rfl,A3⟩;have Ea:=A0 (HX.o.keep A3.block A3.size A3.os A3.tape A3.output);have Ab:Hid (A4 D w w1):=⟨A3.os,A3.tape,A3.output,A3.size,fun g hg=>A3.block g (HLo.o g hg)⟩;clear A3;go_wp2_with fail
 refine(Sj Ea.o.ew (by omega) ⟨3,false,0,l.s,none⟩).mono ?_;rintro r w2 ⟨rfl,Av,A9⟩;have Bi:=A0 (Ea.o.next (e':=e.Kn ⟨3,false,0,l.s,none⟩) A9 Av rfl);have Ai:Hid (A4 D w w2):=Ab.o.trans A9;clear Av A9;go_wp2;go_end0;exact⟨rfl,Bi.o,Ai.o⟩
theorem Aeu(K:EC)(l:A2)(c:BT A2)(hk:l.kd=3):Fw K l c:=by
 intro D w la ln lc ps e v ks hst hn hr hsz;obtain⟨hlo,lcb,hncb⟩:=hst.lo;have hnds:=B8 l c;unfold Ba at hn;rw[if_neg (by omega)]at hn;obtain⟨b,cs,rfl,hD,hb,hl⟩:=hn;have e1:C3 l.kd=233:=by rw[hk];rfl
 have e2:Db l.kd=236:=by rw[hk];rfl
 rw[e1];rw[e2]at hb;unfold Ck at hl;simp only[hk]at hl;rw[Y0 hk];obtain⟨rfl,rfl⟩:=hl;have d0:w.cell? ⟨b,0,none⟩=some (.bool true):=Ac hb 0 _ rfl;have ld:=A5 hb;have HX:=A0 hst;have HLo:=A0 hlo;have D4:=Ma 233 (by decide);have Dt:=Ml 233 (by decide);have Er:=A0j;clear hst hb e1 e2 hk hr;unfold Bx;go_enter Tryz.func54,Tryz.ntmps54;go_wp2_with fail
 refine(Zm true _).mono ?_;rintro r w1 ⟨rfl,A3⟩;have Ea:=A0 (HX.o.keep A3.block A3.size A3.os A3.tape A3.output);have Ab:Hid (A4 D w w1):=⟨A3.os,A3.tape,A3.output,A3.size,fun g hg=>A3.block g (HLo.o g hg)⟩;clear A3;go_wp2_with fail
 refine(Sj Ea.o.ew (by omega) ⟨1,true,0,[],none⟩).mono ?_;rintro r w2 ⟨rfl,Av,A9⟩;have Bi:=A0 (Ea.o.next (e':=e.Kn ⟨1,true,0,[],none⟩) A9 Av rfl);have Ai:Hid (A4 D w w2):=Ab.o.trans A9;clear Av A9;go_wp2;go_end0;exact⟨rfl,Bi.o,Ai.o⟩
theorem Aej(K:EC)(l:A2)(c:BT A2)(hk:l.kd=4):Fw K l c:=by
 intro D w la ln lc ps e v ks hst hn hr hsz;obtain⟨hlo,lcb,hncb⟩:=hst.lo;have hnds:=B8 l c;unfold Ba at hn;rw[if_neg (by omega)]at hn;obtain⟨b,cs,rfl,hD,hb,hl⟩:=hn;have e1:C3 l.kd=233:=by rw[hk];rfl
 have e2:Db l.kd=236:=by rw[hk];rfl
 rw[e1];rw[e2]at hb;unfold Ck at hl;simp only[hk]at hl;rw[Y3 hk];obtain⟨rfl,rfl⟩:=hl;have d0:w.cell? ⟨b,0,none⟩=some (.bool false):=Ac hb 0 _ rfl;have ld:=A5 hb;have HX:=A0 hst;have HLo:=A0 hlo;have D4:=Ma 233 (by decide);have Dt:=Ml 233 (by decide);have Er:=A0j;clear hst hb e1 e2 hk hr;unfold Bx;go_enter Tryz.func54,Tryz.ntmps54;go_wp2_with fail
 refine(Zm false _).mono ?_;rintro r w1 ⟨rfl,A3⟩;have Ea:=A0 (HX.o.keep A3.block A3.size A3.os A3.tape A3.output);have Ab:Hid (A4 D w w1):=⟨A3.os,A3.tape,A3.output,A3.size,fun g hg=>A3.block g (HLo.o g hg)⟩;clear A3;go_wp2_with fail
 refine(Sj Ea.o.ew (by omega) ⟨1,false,0,[],none⟩).mono ?_;rintro r w2 ⟨rfl,Av,A9⟩;have Bi:=A0 (Ea.o.next (e':=e.Kn ⟨1,false,0,[],none⟩) A9 Av rfl);have Ai:Hid (A4 D w w2):=Ab.o.trans A9;clear Av A9;go_wp2;go_end0;exact⟨rfl,Bi.o,Ai.o⟩
theorem Aer(K:EC)(l:A2)(c:BT A2)(hk:l.kd=5):Fw K l c:=by
 intro D w la ln lc ps e v ks hst hn hr hsz;obtain⟨hlo,lcb,hncb⟩:=hst.lo;have hnds:=B8 l c;unfold Ba at hn;rw[if_neg (by omega)]at hn;obtain⟨b,cs,rfl,hD,hb,hl⟩:=hn;have e1:C3 l.kd=237:=by rw[hk];rfl
 have e2:Db l.kd=450:=by rw[hk];rfl
 rw[e1];rw[e2]at hb;unfold Ck at hl;simp only[hk]at hl;rw[Y4 hk];obtain⟨rfl,rfl⟩:=hl;have ld:=A5 hb;have HX:=A0 hst;have HLo:=A0 hlo;have D4:=Ma 237 (by decide);have Dt:=Ml 237 (by decide);have Er:=Ng 237 (by decide);have Fm:=Af2;clear hst hb e1 e2 hk hr;unfold Bx;go_enter Tryz.func54,Tryz.ntmps54;have Ea:=HX;have Ab:=A0 (A4.refl D w);go_wp2_with fail
 refine(Sj Ea.o.ew (by omega) Nb).mono ?_;rintro r w2 ⟨rfl,Av,A9⟩;have Bi:=A0 (Ea.o.next (e':=e.Kn Nb) A9 Av rfl);have Ai:Hid (A4 D w w2):=Ab.o.trans A9;clear Av A9;go_wp2;go_end0;exact⟨rfl,Bi.o,Ai.o⟩
theorem Aev(K:EC)(l:A2)(c:BT A2)(hk:l.kd=6):Fw K l c:=by
 intro D w la ln lc ps e v ks hst hn hr hsz;obtain⟨hlo,lcb,hncb⟩:=hst.lo;have hnds:=B8 l c;unfold Ba at hn;rw[if_neg (by omega)]at hn;obtain⟨b,cs,rfl,hD,hb,hl⟩:=hn;have e1:C3 l.kd=238:=by rw[hk];rfl
 have e2:Db l.kd=240:=by rw[hk];rfl
 rw[e1];rw[e2]at hb;unfold Ck at hl;simp only[hk]at hl;rw[Y5 hk];obtain⟨rfl,rfl⟩:=hl;have d0:w.cell? ⟨b,1,none⟩=some (.string ⟨l.s.toArray⟩):=Ac hb 1 _ rfl;have ld:=A5 hb;have HV:=A0 (A0i hst (by omega) l.s 1 2);have D4:=Ma 238 (by decide);have Dt:=Ml 238 (by decide);have Er:=Ng 238 (by decide);have Fm:=O0 238 (by decide);have Gs:=A0m;clear hst hb e1 e2 hk hr;unfold Bx;go_enter Tryz.func54,Tryz.ntmps54;go_wp2_with fail
 refine HV.o.mono ?_;rintro r w1 ⟨rfl,Ad,A3⟩;have Aq:=A0 Ad;have Ab:=A0 A3;clear Ad A3;go_wp2;go_end0;exact⟨rfl,Aq.o,Ab.o⟩
theorem Ad6(w:World):Calls Tryz.prog 89 #[.int .i64 28] w fun e w'=>e=.returned (.int .i64 27)/\w'=w:=by
 go_enter Tryz.func89,Tryz.ntmps89;go_wp2;go_ret;exact⟨rfl,rfl⟩
theorem Ad5(w:World):Calls Tryz.prog 89 #[.int .i64 35] w fun e w'=>e=.returned (.int .i64 23)/\w'=w:=by
 go_enter Tryz.func89,Tryz.ntmps89;go_wp2;go_ret;exact⟨rfl,rfl⟩
theorem Aek(K:EC)(l:A2)(c:BT A2)(hk:l.kd=8)(ih:Co (Fw K) c):Fw K l c:=by
 intro D w la ln lc ps e v ks hst hn hr hsz;obtain⟨hlo,lcb,hncb⟩:=hst.lo;have hnds:=B8 l c;unfold Ba at hn;rw[if_neg (by omega)]at hn;obtain⟨b,cs,rfl,hD,hb,hl⟩:=hn;have e1:C3 l.kd=241:=by rw[hk];rfl
 have e2:Db l.kd=243:=by rw[hk];rfl
 rw[e1];rw[e2]at hb;unfold Ck at hl;simp only[hk]at hl;rw[Y7 hk];obtain⟨a,rfl,rfl⟩:=hl;obtain⟨x1,y1,l1,c1,r1,Cx,rfl,B1,B0,hz⟩:=hr.cons';obtain rfl:=hz.nil';have C4:bsize (.node x1 y1 l1 c1 .nil)=bsize (nd l1 c1):=by rw[B8,bsize];rfl
 have hlen1:=Hj K.fns K.gl l1 c1 e;rw[Jk,em];have HC:=A0 (ih.1 D w la ln lc ps e a Cx hst B1 B0 (by omega));have d0:=Ac hb 0 a rfl;have ld:=A5 hb;have HBk:=A0 hb;have D4:=Ma 241 (by decide);have Dt:=Ml 241 (by decide);have Er:=Ng 241 (by decide);have Fm:=O0 241 (by decide);have Gs:=O1 241 (by decide);have Iy:=Aey;clear hst hb e1 e2 hk hr B1 B0 hz ih;unfold Bx;go_enter Tryz.func54,Tryz.ntmps54;go_wp2_with fail
 refine HC.o.mono ?_;rintro r w1 ⟨rfl,Ad,A3⟩;have Aq:=A0 Ad;have Ab:=A0 A3;clear Ad A3;go_wp2;go_end0;exact⟨rfl,Aq.o,Ab.o⟩
theorem Aeq(K:EC)(l:A2)(c:BT A2)(hk:l.kd=13)(ih:Co (Fw K) c):Fw K l c:=by
 intro D w la ln lc ps e v ks hst hn hr hsz;obtain⟨hlo,lcb,hncb⟩:=hst.lo;have hnds:=B8 l c;unfold Ba at hn;rw[if_neg (by omega)]at hn;obtain⟨b,cs,rfl,hD,hb,hl⟩:=hn;have e1:C3 l.kd=244:=by rw[hk];rfl
 have e2:Db l.kd=246:=by rw[hk];rfl
 rw[e1];rw[e2]at hb;unfold Ck at hl;simp only[hk]at hl;rw[Xp hk];obtain⟨a,rfl,rfl⟩:=hl;obtain⟨x1,y1,l1,c1,r1,Cx,rfl,B1,B0,hz⟩:=hr.cons';obtain rfl:=hz.nil';have C4:bsize (.node x1 y1 l1 c1 .nil)=bsize (nd l1 c1):=by rw[B8,bsize];rfl
 have hlen1:=Hj K.fns K.gl l1 c1 e;rw[Jk,em];have HC:=A0 (ih.1 D w la ln lc ps e a Cx hst B1 B0 (by omega));have d0:=Ac hb 2 a rfl;have ld:=A5 hb;have HBk:=A0 hb;have D4:=Ma 244 (by decide);have Dt:=Ml 244 (by decide);have Er:=Ng 244 (by decide);have Fm:=O0 244 (by decide);have Gs:=O1 244 (by decide);have Iy:=Pb 244 (by decide);have Kh:=A0l;clear hst hb e1 e2 hk hr B1 B0 hz ih;unfold Bx;go_enter Tryz.func54,Tryz.ntmps54;go_wp2_with fail
 refine HC.o.mono ?_;rintro r w1 ⟨rfl,Ad,A3⟩;have Aq:=A0 Ad;have Ab:=A0 A3;have B7:=(A3.block b hD).trans HBk.o;clear Ad A3 d0 ld;have d0:w1.cell? ⟨b,0,none⟩=some (.int .i64 (l.line:Nat)):=Ac B7 0 _ rfl;have d1:=Ac B7 1 _ rfl;have ld:=A5 B7;clear B7;go_wp2;refine Mu 10 (by kernel_rfl) (by kernel_rfl) ?_;simp only[List.take_succ_cons,List.take_zero,List.drop_succ_cons,List.drop_zero];iterate 5 (refine Gv (fun K' hK'=>?_);go_simp;refine hK' _ ?_;clear hK' K')
 refine Gv (fun K' hK'=>?_);go_simp;refine⟨_,Ad6 _,hK' _ ?_⟩;clear hK' K';iterate 4 (refine Gv (fun K' hK'=>?_);go_simp;refine hK' _ ?_;clear hK' K')
 refine Mt ?_;go_wp2_with fail
 refine(Ly (Aq.o.drewN 1).ew (by omega) 27 0 l.line).mono ?_;rintro r w9 ⟨rfl,Fk,E0⟩;have HS9:=A0 ((Aq.o.drewN 1).next (e':=(em K.fns K.gl .nil 0 (Am K.fns K.gl l1 (A8 c1) (em K.fns K.gl c1) e)).step 27 0 l.line) E0 Fk rfl);have Jv:Hid (A4 D w w9):=Ab.o.trans ((Hi D w1 1).trans E0);clear Fk E0;go_wp2;go_end0;exact⟨rfl,HS9.o,Jv.o⟩
theorem Aep(K:EC)(l:A2)(c:BT A2)(hk:l.kd=14)(ih:Co (Fw K) c):Fw K l c:=by
 intro D w la ln lc ps e v ks hst hn hr hsz;obtain⟨hlo,lcb,hncb⟩:=hst.lo;have hnds:=B8 l c;unfold Ba at hn;rw[if_neg (by omega)]at hn;obtain⟨b,cs,rfl,hD,hb,hl⟩:=hn;have e1:C3 l.kd=244:=by rw[hk];rfl
 have e2:Db l.kd=246:=by rw[hk];rfl
 rw[e1];rw[e2]at hb;unfold Ck at hl;simp only[hk]at hl;rw[Xq hk];obtain⟨a,rfl,rfl⟩:=hl;obtain⟨x1,y1,l1,c1,r1,Cx,rfl,B1,B0,hz⟩:=hr.cons';obtain rfl:=hz.nil';have C4:bsize (.node x1 y1 l1 c1 .nil)=bsize (nd l1 c1):=by rw[B8,bsize];rfl
 have hlen1:=Hj K.fns K.gl l1 c1 e;rw[Jk,em];have HC:=A0 (ih.1 D w la ln lc ps e a Cx hst B1 B0 (by omega));have d0:=Ac hb 2 a rfl;have ld:=A5 hb;have HBk:=A0 hb;have D4:=Ma 244 (by decide);have Dt:=Ml 244 (by decide);have Er:=Ng 244 (by decide);have Fm:=O0 244 (by decide);have Gs:=O1 244 (by decide);have Iy:=Pb 244 (by decide);have Kh:=A0l;clear hst hb e1 e2 hk hr B1 B0 hz ih;unfold Bx;go_enter Tryz.func54,Tryz.ntmps54;go_wp2_with fail
 refine HC.o.mono ?_;rintro r w1 ⟨rfl,Ad,A3⟩;have Aq:=A0 Ad;have Ab:=A0 A3;have B7:=(A3.block b hD).trans HBk.o;clear Ad A3 d0 ld;have d0:w1.cell? ⟨b,0,none⟩=some (.int .i64 (l.line:Nat)):=Ac B7 0 _ rfl;have d1:=Ac B7 1 _ rfl;have ld:=A5 B7;clear B7;go_wp2;refine Mu 10 (by kernel_rfl) (by kernel_rfl) ?_;simp only[List.take_succ_cons,List.take_zero,List.drop_succ_cons,List.drop_zero];iterate 5 (refine Gv (fun K' hK'=>?_);go_simp;refine hK' _ ?_;clear hK' K')
 refine Gv (fun K' hK'=>?_);go_simp;refine⟨_,Ad5 _,hK' _ ?_⟩;clear hK' K';iterate 4 (refine Gv (fun K' hK'=>?_);go_simp;refine hK' _ ?_;clear hK' K')
 refine Mt ?_;go_wp2_with fail
 refine(Ly (Aq.o.drewN 1).ew (by omega) 23 0 l.line).mono ?_;rintro r w9 ⟨rfl,Fk,E0⟩;have HS9:=A0 ((Aq.o.drewN 1).next (e':=(em K.fns K.gl .nil 0 (Am K.fns K.gl l1 (A8 c1) (em K.fns K.gl c1) e)).step 23 0 l.line) E0 Fk rfl);have Jv:Hid (A4 D w w9):=Ab.o.trans ((Hi D w1 1).trans E0);clear Fk E0;go_wp2;go_end0;exact⟨rfl,HS9.o,Jv.o⟩
theorem A2c(w:World):Calls Tryz.prog 139 #[.int .i64 27] w fun e w'=>e=.returned (.int .i64 25)/\w'=w:=by
 go_enter Tryz.func139,Tryz.ntmps139;go_wp2;go_ret;exact⟨rfl,rfl⟩
theorem A2d(w:World):Calls Tryz.prog 139 #[.int .i64 28] w fun e w'=>e=.returned (.int .i64 21)/\w'=w:=by
 go_enter Tryz.func139,Tryz.ntmps139;go_wp2;go_ret;exact⟨rfl,rfl⟩
theorem A2e(w:World):Calls Tryz.prog 139 #[.int .i64 29] w fun e w'=>e=.returned (.int .i64 26)/\w'=w:=by
 go_enter Tryz.func139,Tryz.ntmps139;go_wp2;go_ret;exact⟨rfl,rfl⟩
theorem A2f(w:World):Calls Tryz.prog 139 #[.int .i64 30] w fun e w'=>e=.returned (.int .i64 29)/\w'=w:=by
 go_enter Tryz.func139,Tryz.ntmps139;go_wp2;go_ret;exact⟨rfl,rfl⟩
theorem A2g(w:World):Calls Tryz.prog 139 #[.int .i64 31] w fun e w'=>e=.returned (.int .i64 31)/\w'=w:=by
 go_enter Tryz.func139,Tryz.ntmps139;go_wp2;go_ret;exact⟨rfl,rfl⟩
theorem A2h(w:World):Calls Tryz.prog 139 #[.int .i64 32] w fun e w'=>e=.returned (.int .i64 28)/\w'=w:=by
 go_enter Tryz.func139,Tryz.ntmps139;go_wp2;go_ret;exact⟨rfl,rfl⟩
theorem A2i(w:World):Calls Tryz.prog 139 #[.int .i64 33] w fun e w'=>e=.returned (.int .i64 30)/\w'=w:=by
 go_enter Tryz.func139,Tryz.ntmps139;go_wp2;go_ret;exact⟨rfl,rfl⟩
theorem A2j(w:World):Calls Tryz.prog 139 #[.int .i64 34] w fun e w'=>e=.returned (.int .i64 12)/\w'=w:=by
 go_enter Tryz.func139,Tryz.ntmps139;go_wp2;go_ret;exact⟨rfl,rfl⟩
theorem A2k(w:World):Calls Tryz.prog 139 #[.int .i64 35] w fun e w'=>e=.returned (.int .i64 15)/\w'=w:=by
 go_enter Tryz.func139,Tryz.ntmps139;go_wp2;go_ret;exact⟨rfl,rfl⟩
theorem A2l(w:World):Calls Tryz.prog 139 #[.int .i64 36] w fun e w'=>e=.returned (.int .i64 17)/\w'=w:=by
 go_enter Tryz.func139,Tryz.ntmps139;go_wp2;go_ret;exact⟨rfl,rfl⟩
theorem A2m(w:World):Calls Tryz.prog 139 #[.int .i64 37] w fun e w'=>e=.returned (.int .i64 19)/\w'=w:=by
 go_enter Tryz.func139,Tryz.ntmps139;go_wp2;go_ret;exact⟨rfl,rfl⟩
theorem A2n(w:World):Calls Tryz.prog 139 #[.int .i64 38] w fun e w'=>e=.returned (.int .i64 21)/\w'=w:=by
 go_enter Tryz.func139,Tryz.ntmps139;go_wp2;go_ret;exact⟨rfl,rfl⟩
theorem A2o(w:World):Calls Tryz.prog 139 #[.int .i64 39] w fun e w'=>e=.returned (.int .i64 9)/\w'=w:=by
 go_enter Tryz.func139,Tryz.ntmps139;go_wp2;go_ret;exact⟨rfl,rfl⟩
theorem A2p(w:World):Calls Tryz.prog 139 #[.int .i64 40] w fun e w'=>e=.returned (.int .i64 10)/\w'=w:=by
 go_enter Tryz.func139,Tryz.ntmps139;go_wp2;go_ret;exact⟨rfl,rfl⟩
theorem X0(s:Nat)(h1:27<=s)(h2:s<=40)(w:World):Calls Tryz.prog 139 #[.int .i64 (s:Nat)] w fun e w'=>e=.returned (.int .i64 (binOp s:Nat))/\w'=w:=by
 have h:s=27\/s=28\/s=29\/s=30\/s=31\/s=32\/s=33\/s=34\/s=35\/s=36\/s=37\/s=38\/s=39\/s=40:=by omega
 rcases h with rfl|rfl|rfl|rfl|rfl|rfl|rfl|rfl|rfl|rfl|rfl|rfl|rfl|rfl
 ·exact A2c w
 ·exact A2d w
 ·exact A2e w
 ·exact A2f w
 ·exact A2g w
 ·exact A2h w
 ·exact A2i w
 ·exact A2j w
 ·exact A2k w
 ·exact A2l w
 ·exact A2m w
 ·exact A2n w
 ·exact A2o w
 ·exact A2p w
theorem Adh(K:EC)(l:A2)(c:BT A2)(h1:127<=l.kd)(h2:l.kd<=138)(ih:Co (Fw K) c)(D:Nat->Prop)(w:World)(la:Option Addr)(ln lc:Nat)(ps:Value)(e:Em)(b:Nat)(a1 a2:Value)
  (hst:K.Ex D w la ln lc ps e) (hD:D b) (hb:w.heap[b]?=some (.cells #[.int .i64 (l.line:Nat),.int .i64 ((l.kd-100:Nat):Nat),a1,a2] 295 (0,0))) (hr:Aj D w c [a1,a2]) (hsz:e.st.length+2*bsize (nd l c)<=800000) :
  Calls Tryz.prog 90 #[.pointer (some ⟨K.wb,0,none⟩),.pointer (some ⟨b,0,none⟩)] w fun r w'=>r=.returned (.tuple #[])/\K.Ex D w' la ln lc ps (Am K.fns K.gl l (A8 c) (em K.fns K.gl c) e)/\A4 D w w':=by
 obtain⟨hlo,lcb,hncb⟩:=hst.lo;have hnds:=B8 l c;obtain⟨x1,y1,l1,c1,r1,Cx,rfl,B1,B0,hz⟩:=hr.cons';obtain⟨x2,y2,l2,c2,r2,Ho,rfl,D9,Bt,Bv⟩:=hz.cons';obtain rfl:=Bv.nil';have C4:bsize (.node x1 y1 l1 c1 (.node x2 y2 l2 c2 .nil))=bsize (nd l1 c1)+bsize (nd l2 c2):=by rw[B8,B8,bsize,bsize,bsize];omega
 rw[Y9 h1 h2,Jk,Jk,em];have hl1:=Hj K.fns K.gl l1 c1 e;have J5:=Hj K.fns K.gl l2 c2 (Am K.fns K.gl l1 (A8 c1) (em K.fns K.gl c1) e);have I3:=A0 (ih.1 D w la ln lc ps e a1 Cx hst B1 B0 (by omega));have E8:=A0 (fun(W:World) (e2:Em) (he:e2.st.length+2*bsize (nd l2 c2)<=800000) (hx:K.Ex D W la ln lc ps e2) (hbd:A4 D w W)=>ih.2.1 D W la ln lc ps e2 a2 Ho hx (D9.Be hbd) (Bt.Be hbd) he);have HBk:=A0 hb;have t39:(((l.kd-100:Nat):Int)==39)=false:=by rw[beq_eq_false_iff_ne];omega
 have t40:(((l.kd-100:Nat):Int)==40)=false:=by rw[beq_eq_false_iff_ne];omega
 have HOp:=A0 (fun W=>X0 (l.kd-100) (by omega) (by omega) W);have d0:=Ac hb 0 _ rfl;have d1:=Ac hb 1 _ rfl;have d2:=Ac hb 2 _ rfl;have d3:=Ac hb 3 _ rfl;have ld:=A5 hb;clear hst hb hr B1 B0 hz D9 Bt Bv ih h1 h2;generalize l.kd-100=sg at *;generalize Is:Am K.fns K.gl l1 (A8 c1) (em K.fns K.gl c1) e=Bp at *;generalize hE2:Am K.fns K.gl l2 (A8 c2) (em K.fns K.gl c2) Bp=Fh at *;go_enter Tryz.func90,Tryz.ntmps90;go_wp2_with fail
 refine I3.o.mono ?_;rintro r w1 ⟨rfl,Ad,A3⟩;have Aq:=A0 Ad;have Ab:=A0 A3;have B7:=(A3.block b hD).trans HBk.o;have HBk1:=A0 B7;clear Ad A3;clear d0 d1 d2 d3 ld;have d0:=Ac B7 0 _ rfl;have d1:=Ac B7 1 _ rfl;have d2:=Ac B7 2 _ rfl;have d3:=Ac B7 3 _ rfl;have ld:=A5 B7;clear B7;go_wp2_with fail
 refine(E8.o _ _ (by omega) Aq.o Ab.o).mono ?_;rintro r w3 ⟨rfl,At,Ar⟩;rw[hE2]at At;have Df:=A0 At;have B4:Hid (A4 D w w3):=Ab.o.trans Ar;have En:=(Ar.block b hD).trans HBk1.o;clear At Ar;clear d0 d1 d2 d3 ld;have d0:=Ac En 0 _ rfl;have d1:=Ac En 1 _ rfl;have d2:=Ac En 2 _ rfl;have d3:=Ac En 3 _ rfl;have ld:=A5 En;clear En;go_wp2;refine Mu 10 (by kernel_rfl) (by kernel_rfl) ?_;simp only[List.take_succ_cons,List.take_zero,List.drop_succ_cons,List.drop_zero];iterate 5 (refine Gv (fun K' hK'=>?_);go_simp;refine hK' _ ?_;clear hK' K')
 refine Gv (fun K' hK'=>?_);go_simp;refine⟨_,HOp.o _,hK' _ ?_⟩;clear hK' K';iterate 4 (refine Gv (fun K' hK'=>?_);go_simp;refine hK' _ ?_;clear hK' K')
 refine Mt ?_;go_wp2_with fail
 refine(Ly (Df.o.drewN 1).ew (by omega) (binOp sg) 0 l.line).mono ?_;rintro r w9 ⟨rfl,Fk,E0⟩;have HS9:=A0 ((Df.o.drewN 1).next (e':=(Fh).step (binOp sg) 0 l.line) E0 Fk rfl);have Jv:Hid (A4 D w w9):=B4.o.trans ((Hi D w3 1).trans E0);clear Fk E0;go_wp2;go_end0;exact⟨rfl,HS9.o,Jv.o⟩
theorem Adi(K:EC)(l:A2)(c:BT A2)(hk:l.kd=139\/l.kd=140)(ih:Co (Fw K) c)(D:Nat->Prop)(w:World)(la:Option Addr)(ln lc:Nat)(ps:Value)(e:Em)(b:Nat)(a1 a2:Value)
  (hst:K.Ex D w la ln lc ps e) (hD:D b) (hb:w.heap[b]?=some (.cells #[.int .i64 (l.line:Nat),.int .i64 ((l.kd-100:Nat):Nat),a1,a2] 295 (0,0))) (hr:Aj D w c [a1,a2]) (hsz:e.st.length+2*bsize (nd l c)<=800000) :
  Calls Tryz.prog 90 #[.pointer (some ⟨K.wb,0,none⟩),.pointer (some ⟨b,0,none⟩)] w fun r w'=>r=.returned (.tuple #[])/\K.Ex D w' la ln lc ps (Am K.fns K.gl l (A8 c) (em K.fns K.gl c) e)/\A4 D w w':=by
 obtain⟨hlo,lcb,hncb⟩:=hst.lo;have hnds:=B8 l c;obtain⟨x1,y1,l1,c1,r1,Cx,rfl,B1,B0,hz⟩:=hr.cons';obtain⟨x2,y2,l2,c2,r2,Ho,rfl,D9,Bt,Bv⟩:=hz.cons';obtain rfl:=Bv.nil';have C4:bsize (.node x1 y1 l1 c1 (.node x2 y2 l2 c2 .nil))=bsize (nd l1 c1)+bsize (nd l2 c2):=by rw[B8,B8,bsize,bsize,bsize];omega
 rw[Yb hk];simp only[No,Qq,T1];have hl1:=Hj K.fns K.gl l1 c1 e;have I3:=A0 (ih.1 D w la ln lc ps e a1 Cx hst B1 B0 (by omega));have E8:=A0 (fun(W:World) (e2:Em) (he:e2.st.length+2*bsize (nd l2 c2)<=800000) (hx:K.Ex D W la ln lc ps e2) (hbd:A4 D w W)=>ih.2.1 D W la ln lc ps e2 a2 Ho hx (D9.Be hbd) (Bt.Be hbd) he);have HBk:=A0 hb;have t40:((((l.kd-100:Nat):Int)==39)||(((l.kd-100:Nat):Int)==40))=true:=by
  rcases hk with h|h <;> rw[h] <;> rfl
 have HOp:=A0 (fun W=>X0 (l.kd-100) (by omega) (by omega) W);have hlines:=B8 l2 c2;have d0:=Ac hb 0 _ rfl;have d1:=Ac hb 1 _ rfl;have d2:=Ac hb 2 _ rfl;have d3:=Ac hb 3 _ rfl;have ld:=A5 hb;clear hst hb hr B1 B0 hz D9 Bt Bv ih;have hsg:((l.kd-100:Nat):Int)=39\/((l.kd-100:Nat):Int)=40:=by omega
 generalize l.kd-100=sg at *;clear hk;generalize Is:Am K.fns K.gl l1 (A8 c1) (em K.fns K.gl c1) e=Bp at *;go_enter Tryz.func90,Tryz.ntmps90;go_wp2_with fail
 refine I3.o.mono ?_;rintro r w1 ⟨rfl,Ad,A3⟩;have Aq:=A0 Ad;have Ab:=A0 A3;have B7:=(A3.block b hD).trans HBk.o;have HBk1:=A0 B7;clear Ad A3;clear d0 d1 d2 d3 ld;have d0:=Ac B7 0 _ rfl;have d1:=Ac B7 1 _ rfl;have d2:=Ac B7 2 _ rfl;have d3:=Ac B7 3 _ rfl;have ld:=A5 B7;clear B7;rcases hsg with hsg|hsg
 ·have t39:((sg:Int)==39)=true:=by rw[hsg];rfl
  clear hsg t40;go_wp2_with fail
  refine Mu 10 (by kernel_rfl) (by kernel_rfl) ?_;simp only[List.take_succ_cons,List.take_zero,List.drop_succ_cons,List.drop_zero];iterate 5 (refine Gv (fun K' hK'=>?_);go_simp;refine hK' _ ?_;clear hK' K')
  refine Gv (fun K' hK'=>?_);go_simp;refine⟨_,HOp.o _,hK' _ ?_⟩;clear hK' K';iterate 4 (refine Gv (fun K' hK'=>?_);go_simp;refine hK' _ ?_;clear hK' K')
  refine Mt ?_;go_wp2_with fail
  refine(Ly (Aq.o.drewN 1).ew (by omega) (binOp sg) 0 l.line).mono ?_;rintro r w2 ⟨rfl,Av,A9⟩;have Bi:=A0 ((Aq.o.drewN 1).next (e':=Bp.step (binOp sg) 0 l.line) A9 Av rfl);have hb2':=(Hi D w1 1).trans A9;have Ai:Hid (A4 D w w2):=Ab.o.trans hb2';have Cw:=(hb2'.block b hD).trans HBk1.o;have HBk2:=A0 Cw;clear Av A9 hb2' d0 d1 d2 d3 ld;have d0:=Ac Cw 0 _ rfl;have d3:=Ac Cw 3 _ rfl;have ld:=A5 Cw;clear Cw;have J5:(Bp.step (binOp sg) 0 l.line).st.length=Bp.st.length+1:=Ds _ _ _ _;have hl3:=Hj K.fns K.gl l2 c2 (Bp.step (binOp sg) 0 l.line);have C8:=A0 J5;go_wp2_with fail
  refine(E8.o _ _ (by omega) Bi.o Ai.o).mono ?_;rintro r w3 ⟨rfl,At,Ar⟩;have Df:=A0 At;have B4:Hid (A4 D w w3):=Ai.o.trans Ar;have En:=(Ar.block b hD).trans HBk2.o;clear At Ar d0 d3 ld;have d0:=Ac En 0 _ rfl;have ld:=A5 En;clear En;have hl4:Bp.st.length<(Am K.fns K.gl l2 (A8 c2) (em K.fns K.gl c2) (Bp.step (binOp sg) 0 l.line)).st.length+1:=by
   have:=Uy K.fns K.gl l2 c2 (Bp.step (binOp sg) 0 l.line);omega
  generalize hE3:Am K.fns K.gl l2 (A8 c2) (em K.fns K.gl c2) (Bp.step (binOp sg) 0 l.line)=em3 at *;go_wp2_with fail
  refine(Ly Df.o.ew (by omega) 11 0 l.line).mono ?_;rintro r w4 ⟨rfl,Dx,Bc⟩;have Ia:=A0 (Df.o.next (e':=em3.step 11 0 l.line) Bc Dx rfl);have Dm:Hid (A4 D w w4):=B4.o.trans Bc;clear Dx Bc;go_wp2_with fail
  refine(Uc Ia.o.ew Bp.st.length (by rw[Ds];omega)).mono ?_;rintro r w5 ⟨rfl,C0,C7⟩;have HS5:=A0 (Ia.o.next (e':=(em3.step 11 0 l.line).land Bp.st.length) C7 C0 rfl);have Fo:Hid (A4 D w w5):=Dm.o.trans C7;clear C0 C7;go_wp2;refine bodyPost_ret (v:=.tuple #[]) (by simp[results,Tryz.results90,go_sem]) rfl ?_;subst hE3;exact⟨rfl,HS5.o,Fo.o⟩
 ·have t39:((sg:Int)==39)=false:=by rw[hsg];rfl
  have t41:((sg:Int)==40)=true:=by rw[hsg];rfl
  clear hsg t40;go_wp2_with fail
  refine Mu 10 (by kernel_rfl) (by kernel_rfl) ?_;simp only[List.take_succ_cons,List.take_zero,List.drop_succ_cons,List.drop_zero];iterate 5 (refine Gv (fun K' hK'=>?_);go_simp;refine hK' _ ?_;clear hK' K')
  refine Gv (fun K' hK'=>?_);go_simp;refine⟨_,HOp.o _,hK' _ ?_⟩;clear hK' K';iterate 4 (refine Gv (fun K' hK'=>?_);go_simp;refine hK' _ ?_;clear hK' K')
  refine Mt ?_;go_wp2_with fail
  refine(Ly (Aq.o.drewN 1).ew (by omega) (binOp sg) 0 l.line).mono ?_;rintro r w2 ⟨rfl,Av,A9⟩;have Bi:=A0 ((Aq.o.drewN 1).next (e':=Bp.step (binOp sg) 0 l.line) A9 Av rfl);have hb2':=(Hi D w1 1).trans A9;have Ai:Hid (A4 D w w2):=Ab.o.trans hb2';have Cw:=(hb2'.block b hD).trans HBk1.o;have HBk2:=A0 Cw;clear Av A9 hb2' d0 d1 d2 d3 ld;have d0:=Ac Cw 0 _ rfl;have d3:=Ac Cw 3 _ rfl;have ld:=A5 Cw;clear Cw;have J5:(Bp.step (binOp sg) 0 l.line).st.length=Bp.st.length+1:=Ds _ _ _ _;have hl3:=Hj K.fns K.gl l2 c2 (Bp.step (binOp sg) 0 l.line);have C8:=A0 J5;go_wp2_with fail
  refine(E8.o _ _ (by omega) Bi.o Ai.o).mono ?_;rintro r w3 ⟨rfl,At,Ar⟩;have Df:=A0 At;have B4:Hid (A4 D w w3):=Ai.o.trans Ar;have En:=(Ar.block b hD).trans HBk2.o;clear At Ar d0 d3 ld;have d0:=Ac En 0 _ rfl;have ld:=A5 En;clear En;have hl4:Bp.st.length<(Am K.fns K.gl l2 (A8 c2) (em K.fns K.gl c2) (Bp.step (binOp sg) 0 l.line)).st.length+1:=by
   have:=Uy K.fns K.gl l2 c2 (Bp.step (binOp sg) 0 l.line);omega
  generalize hE3:Am K.fns K.gl l2 (A8 c2) (em K.fns K.gl c2) (Bp.step (binOp sg) 0 l.line)=em3 at *;go_wp2_with fail
  refine(Ly Df.o.ew (by omega) 11 0 l.line).mono ?_;rintro r w4 ⟨rfl,Dx,Bc⟩;have Ia:=A0 (Df.o.next (e':=em3.step 11 0 l.line) Bc Dx rfl);have Dm:Hid (A4 D w w4):=B4.o.trans Bc;clear Dx Bc;go_wp2_with fail
  refine(Uc Ia.o.ew Bp.st.length (by rw[Ds];omega)).mono ?_;rintro r w5 ⟨rfl,C0,C7⟩;have HS5:=A0 (Ia.o.next (e':=(em3.step 11 0 l.line).land Bp.st.length) C7 C0 rfl);have Fo:Hid (A4 D w w5):=Dm.o.trans C7;clear C0 C7;go_wp2;refine bodyPost_ret (v:=.tuple #[]) (by simp[results,Tryz.results90,go_sem]) rfl ?_;subst hE3;exact⟨rfl,HS5.o,Fo.o⟩
theorem Aeh(K:EC)(l:A2)(c:BT A2)(h1:127<=l.kd)(h2:l.kd<=140)(ih:Co (Fw K) c):Fw K l c:=by
 intro D w la ln lc ps e v ks hst hn hr hsz;unfold Ba at hn;rw[if_neg (by omega)]at hn;obtain⟨b,cs,rfl,hD,hb,hl⟩:=hn;have e1:C3 l.kd=248/\Db l.kd=295:=by
  have hk:l.kd=127\/l.kd=128\/l.kd=129\/l.kd=130\/l.kd=131\/l.kd=132\/l.kd=133\/l.kd=134\/l.kd=135\/l.kd=136\/l.kd=137\/l.kd=138\/l.kd=139\/l.kd=140:=by omega
  rcases hk with h|h|h|h|h|h|h|h|h|h|h|h|h|h <;> rw[h] <;> exact⟨rfl,rfl⟩
 rw[e1.1];rw[e1.2]at hb;have J5:∃a b,cs=#[Gz l.line,.int .i64 ((l.kd-100:Nat):Nat),a,b]/\ks=[a,b]:=by
  have hk:l.kd=127\/l.kd=128\/l.kd=129\/l.kd=130\/l.kd=131\/l.kd=132\/l.kd=133\/l.kd=134\/l.kd=135\/l.kd=136\/l.kd=137\/l.kd=138\/l.kd=139\/l.kd=140:=by omega
  unfold Ck at hl;rcases hk with h|h|h|h|h|h|h|h|h|h|h|h|h|h <;> simpa only[h]using hl
 obtain⟨a1,a2,rfl,rfl⟩:=J5;have HC:Hid (Calls Tryz.prog 90 #[.pointer (some ⟨K.wb,0,none⟩),.pointer (some ⟨b,0,none⟩)] w fun r w'=>r=.returned (.tuple #[])/\K.Ex D w' la ln lc ps (Am K.fns K.gl l (A8 c) (em K.fns K.gl c) e)/\A4 D w w'):=by
  by_cases A9:l.kd<=138
  ·exact Adh K l c h1 A9 ih D w la ln lc ps e b a1 a2 hst hD hb hr hsz
  ·exact Adi K l c (by omega) ih D w la ln lc ps e b a1 a2 hst hD hb hr hsz
 have D4:=Ma 248 (by decide);have Dt:=Ml 248 (by decide);have Er:=Ng 248 (by decide);have Fm:=O0 248 (by decide);have Gs:=O1 248 (by decide);have Iy:=Pb 248 (by decide);have Kh:=Re 248 (by decide);have ta7:=Aew;clear hst hb e1 hr hl ih;unfold Bx;go_enter Tryz.func54,Tryz.ntmps54;go_wp2_with fail
 refine HC.o.mono ?_;rintro r w1 ⟨rfl,Ad,A3⟩;have Aq:=A0 Ad;have Ab:=A0 A3;clear Ad A3;go_wp2;go_end0;exact⟨rfl,Aq.o,Ab.o⟩
theorem Adr(K:EC)(l:A2)(c:BT A2)(hk:l.kd=10)(ih:Co (Fw K) c)  (D:Nat->Prop) (w:World) (la:Option Addr) (ln lc:Nat) (ps:Value) (e:Em) (v:Value) (ks:List Value)
  (hst:K.Ex D w la ln lc ps e) (hn:Ba D w l v ks) (hr:Aj D w c ks) (hsz:e.st.length+2*bsize (nd l c)<=800000) :
  Calls Tryz.prog 91 #[.pointer (some ⟨K.wb,0,none⟩),v] w fun r w'=>r=.returned (.tuple #[])/\K.Ex D w' la ln lc ps (Am K.fns K.gl l (A8 c) (em K.fns K.gl c) e)/\A4 D w w':=by
 obtain⟨hlo,lcb,hncb⟩:=hst.lo;have hnds:=B8 l c;unfold Ba at hn;rw[if_neg (by omega)]at hn;obtain⟨b,cs,rfl,hD,hb,hl⟩:=hn;have e1:C3 l.kd=304:=by rw[hk];rfl
 have e2:Db l.kd=306:=by rw[hk];rfl
 rw[e1];rw[e2]at hb;unfold Ck at hl;simp only[hk]at hl;rw[Xm hk];obtain⟨a,rfl,rfl⟩:=hl;obtain⟨x1,y1,l1,c1,r1,Cx,rfl,B1,B0,hz⟩:=hr.cons';obtain rfl:=hz.nil';have C4:bsize (.node x1 y1 l1 c1 .nil)=bsize (nd l1 c1):=by rw[B8,bsize];rfl
 have hlen1:=Hj K.fns K.gl l1 c1 e;rw[Jk,em];have HC:=A0 (ih.1 D w la ln lc ps e a Cx hst B1 B0 (by omega));have d0:=Ac hb 1 a rfl;have ld:=A5 hb;have HBk:=A0 hb;have D4:=Ug 304 (by decide);have Dt:=Wq 304 (by decide);have Er:=Af0;clear hst hb e1 e2 hk hr B1 B0 hz ih;unfold Bx;go_enter Tryz.func91,Tryz.ntmps91;go_wp2_with fail
 refine(HC.o).mono ?_;rintro r w1 ⟨rfl,Ad,A3⟩;have Aq:=A0 Ad;have Ab:=A0 A3;have B7:=(A3.block b hD).trans HBk.o;clear Ad A3 d0 ld;have d0:w1.cell? ⟨b,0,none⟩=some (.int .i64 (l.line:Nat)):=Ac B7 0 _ rfl;have ld:=A5 B7;clear B7;generalize Is:Am K.fns K.gl l1 (A8 c1) (em K.fns K.gl c1) e=Bp at *;go_wp2_with fail
 refine(Ly Aq.o.ew (by omega) 37 0 l.line).mono ?_;rintro r w9 ⟨rfl,Fk,E0⟩;have HS9:=A0 (Aq.o.next (e':=Bp.step 37 0 l.line) E0 Fk rfl);have Jv:Hid (A4 D w w9):=Ab.o.trans E0;clear Fk E0;go_wp2;go_end0;subst Is;exact⟨rfl,HS9.o,Jv.o⟩
theorem Aen(K:EC)(l:A2)(c:BT A2)(hk:l.kd=10)(ih:Co (Fw K) c):Fw K l c:=by
 intro D w la ln lc ps e v ks hst hn hr hsz;have HM:=A0 (Adr K l c hk ih D w la ln lc ps e v ks hst hn hr hsz);obtain⟨hlo,lcb,hncb⟩:=hst.lo;unfold Ba at hn;rw[if_neg (by omega)]at hn;obtain⟨b,cs,rfl,hD,hb,hl⟩:=hn;have e1:C3 l.kd=304:=by rw[hk];rfl
 rw[e1]at HM ⊢;have ld:=A5 hb;have D4:=Ma 304 (by decide);have Dt:=Ml 304 (by decide);have Er:=Ng 304 (by decide);have Fm:=O0 304 (by decide);have Gs:=O1 304 (by decide);have Iy:=Pb 304 (by decide);have Kh:=Re 304 (by decide);have ta7:=Sk 304 (by decide);clear hst hb e1 hk hr hl ih;unfold Bx at HM ⊢;go_enter Tryz.func54,Tryz.ntmps54;go_wp2_with fail
 refine HM.o.mono ?_;rintro r w1 ⟨rfl,Ad,A3⟩;have Aq:=A0 Ad;have Ab:=A0 A3;clear Ad A3;go_wp2;go_end0;exact⟨rfl,Aq.o,Ab.o⟩
theorem Adt(K:EC)(l:A2)(c:BT A2)(hk:l.kd=11)(ih:Co (Fw K) c)  (D:Nat->Prop) (w:World) (la:Option Addr) (ln lc:Nat) (ps:Value) (e:Em) (v:Value) (ks:List Value)
  (hst:K.Ex D w la ln lc ps e) (hn:Ba D w l v ks) (hr:Aj D w c ks) (hsz:e.st.length+2*bsize (nd l c)<=800000) :
  Calls Tryz.prog 91 #[.pointer (some ⟨K.wb,0,none⟩),v] w fun r w'=>r=.returned (.tuple #[])/\K.Ex D w' la ln lc ps (Am K.fns K.gl l (A8 c) (em K.fns K.gl c) e)/\A4 D w w':=by
 obtain⟨hlo,lcb,hncb⟩:=hst.lo;have hnds:=B8 l c;unfold Ba at hn;rw[if_neg (by omega)]at hn;obtain⟨b,cs,rfl,hD,hb,hl⟩:=hn;have e1:C3 l.kd=307:=by rw[hk];rfl
 have e2:Db l.kd=309:=by rw[hk];rfl
 rw[e1];rw[e2]at hb;unfold Ck at hl;simp only[hk]at hl;rw[Xn hk];obtain⟨a1,a2,rfl,rfl⟩:=hl;obtain⟨x1,y1,l1,c1,r1,Cx,rfl,B1,B0,hz⟩:=hr.cons';obtain⟨x2,y2,l2,c2,r2,Ho,rfl,D9,Bt,Bv⟩:=hz.cons';obtain rfl:=Bv.nil';have C4:bsize (.node x1 y1 l1 c1 (.node x2 y2 l2 c2 .nil))=bsize (nd l1 c1)+bsize (nd l2 c2):=by rw[B8,B8,bsize,bsize,bsize];omega
 rw[Jk,Jk,em];have hl1:=Hj K.fns K.gl l1 c1 e;have J5:=Hj K.fns K.gl l2 c2 (Am K.fns K.gl l1 (A8 c1) (em K.fns K.gl c1) e);have I3:=A0 (ih.1 D w la ln lc ps e a1 Cx hst B1 B0 (by omega));have E8:=A0 (fun(W:World) (e2:Em) (he:e2.st.length+2*bsize (nd l2 c2)<=800000) (hx:K.Ex D W la ln lc ps e2) (hbd:A4 D w W)=>ih.2.1 D W la ln lc ps e2 a2 Ho hx (D9.Be hbd) (Bt.Be hbd) he);have HBk:=A0 hb;have d1:=Ac hb 1 a1 rfl;have ld:=A5 hb;have D4:=Ug 307 (by decide);have Dt:=Wq 307 (by decide);have Er:=A0n 307 (by decide);have Fm:=Af3;clear hst hb hr B1 B0 hz D9 Bt Bv ih e1 e2 hk;generalize Is:Am K.fns K.gl l1 (A8 c1) (em K.fns K.gl c1) e=Bp at *;generalize hE2:Am K.fns K.gl l2 (A8 c2) (em K.fns K.gl c2) Bp=Fh at *;unfold Bx;go_enter Tryz.func91,Tryz.ntmps91;go_wp2_with fail
 refine(I3.o).mono ?_;rintro r w1 ⟨rfl,Ad,A3⟩;have Aq:=A0 Ad;have Ab:=A0 A3;have B7:=(A3.block b hD).trans HBk.o;have HBk1:=A0 B7;clear Ad A3 d1 ld;have d2:=Ac B7 2 a2 rfl;have ld:=A5 B7;clear B7;go_wp2_with fail
 refine(E8.o _ _ (by omega) Aq.o Ab.o).mono ?_;rintro r w2 ⟨rfl,Av,A9⟩;rw[hE2]at Av;have Bi:=A0 Av;have Ai:Hid (A4 D w w2):=Ab.o.trans A9;have Cw:=(A9.block b hD).trans HBk1.o;clear Av A9 d2 ld;have d0:w2.cell? ⟨b,0,none⟩=some (.int .i64 (l.line:Nat)):=Ac Cw 0 _ rfl;have ld:=A5 Cw;clear Cw;go_wp2_with fail
 refine(Ly Bi.o.ew (by omega) 38 0 l.line).mono ?_;rintro r w9 ⟨rfl,Fk,E0⟩;have HS9:=A0 (Bi.o.next (e':=Fh.step 38 0 l.line) E0 Fk rfl);have Jv:Hid (A4 D w w9):=Ai.o.trans E0;clear Fk E0;go_wp2;go_end0;exact⟨rfl,HS9.o,Jv.o⟩
theorem Aes(K:EC)(l:A2)(c:BT A2)(hk:l.kd=11)(ih:Co (Fw K) c):Fw K l c:=by
 intro D w la ln lc ps e v ks hst hn hr hsz;have HM:=A0 (Adt K l c hk ih D w la ln lc ps e v ks hst hn hr hsz);obtain⟨hlo,lcb,hncb⟩:=hst.lo;unfold Ba at hn;rw[if_neg (by omega)]at hn;obtain⟨b,cs,rfl,hD,hb,hl⟩:=hn;have e1:C3 l.kd=307:=by rw[hk];rfl
 rw[e1]at HM ⊢;have ld:=A5 hb;have D4:=Ma 307 (by decide);have Dt:=Ml 307 (by decide);have Er:=Ng 307 (by decide);have Fm:=O0 307 (by decide);have Gs:=O1 307 (by decide);have Iy:=Pb 307 (by decide);have Kh:=Re 307 (by decide);have ta7:=Sk 307 (by decide);clear hst hb e1 hk hr hl ih;unfold Bx at HM ⊢;go_enter Tryz.func54,Tryz.ntmps54;go_wp2_with fail
 refine HM.o.mono ?_;rintro r w1 ⟨rfl,Ad,A3⟩;have Aq:=A0 Ad;have Ab:=A0 A3;clear Ad A3;go_wp2;go_end0;exact⟨rfl,Aq.o,Ab.o⟩
theorem Adq(K:EC)(l:A2)(c:BT A2)(hk:l.kd=12)(ih:Co (Fw K) c)  (D:Nat->Prop) (w:World) (la:Option Addr) (ln lc:Nat) (ps:Value) (e:Em) (v:Value) (ks:List Value)
  (hst:K.Ex D w la ln lc ps e) (hn:Ba D w l v ks) (hr:Aj D w c ks) (hsz:e.st.length+2*bsize (nd l c)<=800000) :
  Calls Tryz.prog 91 #[.pointer (some ⟨K.wb,0,none⟩),v] w fun r w'=>r=.returned (.tuple #[])/\K.Ex D w' la ln lc ps (Am K.fns K.gl l (A8 c) (em K.fns K.gl c) e)/\A4 D w w':=by
 obtain⟨hlo,lcb,hncb⟩:=hst.lo;have hnds:=B8 l c;unfold Ba at hn;rw[if_neg (by omega)]at hn;obtain⟨b,cs,rfl,hD,hb,hl⟩:=hn;have e1:C3 l.kd=310:=by rw[hk];rfl
 have e2:Db l.kd=312:=by rw[hk];rfl
 rw[e1];rw[e2]at hb;unfold Ck at hl;simp only[hk]at hl;rw[Xo hk];obtain⟨a1,a2,rfl,rfl⟩:=hl;obtain⟨x1,y1,l1,c1,r1,Cx,rfl,B1,B0,hz⟩:=hr.cons';obtain⟨x2,y2,l2,c2,r2,Ho,rfl,D9,Bt,Bv⟩:=hz.cons';obtain rfl:=Bv.nil';have C4:bsize (.node x1 y1 l1 c1 (.node x2 y2 l2 c2 .nil))=bsize (nd l1 c1)+bsize (nd l2 c2):=by rw[B8,B8,bsize,bsize,bsize];omega
 rw[Jk,Jk,em];have hl1:=Hj K.fns K.gl l1 c1 e;have J5:=Hj K.fns K.gl l2 c2 (Am K.fns K.gl l1 (A8 c1) (em K.fns K.gl c1) e);have I3:=A0 (ih.1 D w la ln lc ps e a1 Cx hst B1 B0 (by omega));have E8:=A0 (fun(W:World) (e2:Em) (he:e2.st.length+2*bsize (nd l2 c2)<=800000) (hx:K.Ex D W la ln lc ps e2) (hbd:A4 D w W)=>ih.2.1 D W la ln lc ps e2 a2 Ho hx (D9.Be hbd) (Bt.Be hbd) he);have HBk:=A0 hb;have d1:=Ac hb 1 a1 rfl;have ld:=A5 hb;have D4:=Ug 310 (by decide);have Dt:=Wq 310 (by decide);have Er:=A0n 310 (by decide);have Fm:=Af5 310 (by decide);have Gs:=A0k;clear hst hb hr B1 B0 hz D9 Bt Bv ih e1 e2 hk;generalize Is:Am K.fns K.gl l1 (A8 c1) (em K.fns K.gl c1) e=Bp at *;generalize hE2:Am K.fns K.gl l2 (A8 c2) (em K.fns K.gl c2) Bp=Fh at *;unfold Bx;go_enter Tryz.func91,Tryz.ntmps91;go_wp2_with fail
 refine(I3.o).mono ?_;rintro r w1 ⟨rfl,Ad,A3⟩;have Aq:=A0 Ad;have Ab:=A0 A3;have B7:=(A3.block b hD).trans HBk.o;have HBk1:=A0 B7;clear Ad A3 d1 ld;have d2:=Ac B7 2 a2 rfl;have ld:=A5 B7;clear B7;go_wp2_with fail
 refine(E8.o _ _ (by omega) Aq.o Ab.o).mono ?_;rintro r w2 ⟨rfl,Av,A9⟩;rw[hE2]at Av;have Bi:=A0 Av;have Ai:Hid (A4 D w w2):=Ab.o.trans A9;have Cw:=(A9.block b hD).trans HBk1.o;clear Av A9 d2 ld;have d0:w2.cell? ⟨b,0,none⟩=some (.int .i64 (l.line:Nat)):=Ac Cw 0 _ rfl;have ld:=A5 Cw;clear Cw;go_wp2_with fail
 refine(Ly Bi.o.ew (by omega) 39 0 l.line).mono ?_;rintro r w9 ⟨rfl,Fk,E0⟩;have HS9:=A0 (Bi.o.next (e':=Fh.step 39 0 l.line) E0 Fk rfl);have Jv:Hid (A4 D w w9):=Ai.o.trans E0;clear Fk E0;go_wp2;go_end0;exact⟨rfl,HS9.o,Jv.o⟩
theorem Ael(K:EC)(l:A2)(c:BT A2)(hk:l.kd=12)(ih:Co (Fw K) c):Fw K l c:=by
 intro D w la ln lc ps e v ks hst hn hr hsz;have HM:=A0 (Adq K l c hk ih D w la ln lc ps e v ks hst hn hr hsz);obtain⟨hlo,lcb,hncb⟩:=hst.lo;unfold Ba at hn;rw[if_neg (by omega)]at hn;obtain⟨b,cs,rfl,hD,hb,hl⟩:=hn;have e1:C3 l.kd=310:=by rw[hk];rfl
 rw[e1]at HM ⊢;have ld:=A5 hb;have D4:=Ma 310 (by decide);have Dt:=Ml 310 (by decide);have Er:=Ng 310 (by decide);have Fm:=O0 310 (by decide);have Gs:=O1 310 (by decide);have Iy:=Pb 310 (by decide);have Kh:=Re 310 (by decide);have ta7:=Sk 310 (by decide);clear hst hb e1 hk hr hl ih;unfold Bx at HM ⊢;go_enter Tryz.func54,Tryz.ntmps54;go_wp2_with fail
 refine HM.o.mono ?_;rintro r w1 ⟨rfl,Ad,A3⟩;have Aq:=A0 Ad;have Ab:=A0 A3;clear Ad A3;go_wp2;go_end0;exact⟨rfl,Aq.o,Ab.o⟩
end
end Go.Proofs.YtjdlndhfaaolaaaGreatDoor
