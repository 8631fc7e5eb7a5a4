import Derived.Test.YtjdlndhfaaolaaaGreatDoorQ22
import Derived.Test.YtjdlndhfaaolaaaGreatDoorQ24
set_option maxHeartbeats 20000000
namespace Go.Proofs.YtjdlndhfaaolaaaGreatDoor
section
set_option maxRecDepth 100000
open Go.RowKit
open Go.Deep (BT)
theorem Vg(n:Int)(w:World):Calls Tryz.prog 85 #[.int .i64 n] w fun e w'=>e=.returned (.agg #[.int .i64 2,.bool false,.int .i64 n,.string ⟨#[]⟩,.pointer none])/\Below w.heap.size w w':=by
 go_enter Tryz.func85,Tryz.ntmps85;go_wp2;refine bodyPost_ret (v:=.agg #[.int .i64 2,.bool false,.int .i64 n,.string ⟨#[]⟩,.pointer none]) (by simp[results,Tryz.results85,go_sem]) rfl ⟨rfl,?_⟩;repeat (first|exact Below.refl _ _|refine Below.alloc ?_ (by simp) _|refine Below.setCell ?_ (by simp) _|refine Below.drew ?_)
theorem Zl(s:ByteArray)(w:World):Calls Tryz.prog 86 #[.string s] w fun e w'=>e=.returned (.agg #[.int .i64 3,.bool false,.int .i64 0,.string s,.pointer none])/\Below w.heap.size w w':=by
 go_enter Tryz.func86,Tryz.ntmps86;go_wp2;refine bodyPost_ret (v:=.agg #[.int .i64 3,.bool false,.int .i64 0,.string s,.pointer none]) (by simp[results,Tryz.results86,go_sem]) rfl ⟨rfl,?_⟩;repeat (first|exact Below.refl _ _|refine Below.alloc ?_ (by simp) _|refine Below.setCell ?_ (by simp) _|refine Below.drew ?_)
theorem Up(b:Bool)(w:World):Calls Tryz.prog 87 #[.bool b] w fun e w'=>e=.returned (.agg #[.int .i64 1,.bool b,.int .i64 0,.string ⟨#[]⟩,.pointer none])/\Below w.heap.size w w':=by
 go_enter Tryz.func87,Tryz.ntmps87;go_wp2;refine bodyPost_ret (v:=.agg #[.int .i64 1,.bool b,.int .i64 0,.string ⟨#[]⟩,.pointer none]) (by simp[results,Tryz.results87,go_sem]) rfl ⟨rfl,?_⟩;repeat (first|exact Below.refl _ _|refine Below.alloc ?_ (by simp) _|refine Below.setCell ?_ (by simp) _|refine Below.drew ?_)
theorem R3{D:Nat->Prop}{wb te:Nat}{w:World}{fs gs ls ps:Value}{slots:Nat}{st:List Ad}(h:K0 D wb te w fs gs ls ps slots st)(hn:st.length<=900000)(v:PV) :
  Calls Tryz.prog 84 #[.pointer (some ⟨wb,0,none⟩),.agg #[.int .i64 (v.k:Nat),.bool v.y,.int .i64 v.n,.string ⟨v.t.toArray⟩,.pointer none]] w fun e w'=>e=.returned (.tuple #[])/\K0 D wb te w' fs gs ls ps slots (st++[⟨0,0,0,v⟩])/\A3 D w w':=by
 have h0:K0 D wb te (w.alloc (.cells #[.int .i64 (v.k:Nat),.bool v.y,.int .i64 v.n,.string ⟨v.t.toArray⟩,.pointer none] 225)) fs gs ls ps slots st:=h.keep (fun g hg=>Below.heap_alloc _ _ _ hg) (by simp);have Bi:A3 D w (w.alloc (.cells #[.int .i64 (v.k:Nat),.bool v.y,.int .i64 v.n,.string ⟨v.t.toArray⟩,.pointer none] 225)):=by
  obtain⟨_,_,_,h⟩:=h;exact(A3.refl D w).alloc h.lo _
 have F3:=heap_alloc_new w (.cells #[.int .i64 (v.k:Nat),.bool v.y,.int .i64 v.n,.string ⟨v.t.toArray⟩,.pointer none] 225);clear h;generalize hW:w.alloc (.cells #[.int .i64 (v.k:Nat),.bool v.y,.int .i64 v.n,.string ⟨v.t.toArray⟩,.pointer none] 225)=w0 at *;generalize hxb:w.heap.size=xb at *;have HW:=A0 hW;have HXb:=A0 hxb;clear hW hxb;have Ae:=A0 Bi;obtain⟨sa,sn,sc,h⟩:=h0;have c:=A2 h.cell 5 _ rfl;have lb:=A4 h.cell;have hv:sn=st.length:=(C8 h.own).1;subst hv;have x0:=A2 F3 0 _ rfl;have x1:=A2 F3 1 _ rfl;have x2:=A2 F3 2 _ rfl;have x3:=A2 F3 3 _ rfl;have x4:=A2 F3 4 _ rfl;have lx:=A4 F3;have hown:w0.drew.ownsRow 0 251 8 (.slice sa st.length sc) st.length (Eh st):=B3 h.own (fun _ _ _=>rfl);have HH:=A0 h;have HP:=A0 (fun(w1:World) (g cap:Nat)=>h.A0o ⟨0,0,0,v⟩ (w1:=w1) (g:=g) (cap:=cap));clear h Bi F3;go_enter Tryz.func84,Tryz.ntmps84;go_wp2;rw[HW.o,HXb.o];go_region_law (refine Mr _ w0.heap.size #[.int .i64 0,.int .i64 0,.int .i64 0,.int .i64 (v.k:Nat),.bool v.y,.int .i64 v.n,.string ⟨v.t.toArray⟩,.pointer none] 251 (heap_alloc_new w0.drew _) rfl (.tmp 9) (.tmp 12) 96 rfl 0 8 72 _ Tryz.underlying96 W7 rfl (by omega) (.slice sa st.length sc) st.length (Eh st) rfl rfl (hown.alloc _) rfl (fun v hv=>by simp at hv;rcases hv with rfl|rfl|rfl|rfl|rfl|rfl|rfl|rfl <;> rfl) (by omega) (by omega) (Nat.zero_le _) ?_;intro g cap w1 F1 hgrow' hat' hg;have Fw:=Lx (World.grownBy_alloc w0.drew _ none) hgrow';have hgrow:w0.grownBy w1 (Value.slice sa st.length sc).ownBlock:=⟨Fw.os,Fw.tape,Fw.output,Fw.size,Fw.block⟩;clear Fw;have hat:(Value.slice sa st.length sc).ownBlock=some g\/w0.heap.size<=g:=hat'.imp id (fun e=>by rw[e];simp);have A1:=(hgrow.block wb lb (fun e=>(HH.o.Cu wb e.symm).2 rfl)).trans HH.o.cell;have c1:=A2 A1 5 _ rfl;have f1:=Bd A1;have Bt:=A4 A1;have Bu:=A0 (HP.o w1 g cap F1 hgrow hat);clear A1 F1 hgrow hat hgrow' hat')
 all_goals go_wp2
 all_goals go_end0
 all_goals exact⟨rfl,⟨_,_,_,Bu.o.1⟩,Ae.o.trans Bu.o.2⟩
theorem Hr.A4i{D:Nat->Prop}{w:World}{wb te:Nat}{fs gs ls ps:Value}{slots:Nat}{st:List Ad}{g sn sc:Nat}(h:Hr D wb te w fs gs ls ps slots st (some ⟨g,0,none⟩) sn sc)(j:Nat)(hj:j<st.length)(a:Int) :
  Hr D wb te (w.setCell ⟨g,j*8+1,none⟩ (.int .i64 a)) fs gs ls ps slots (Lv j a st) (some ⟨g,0,none⟩) sn sc/\A3 D w (w.setCell ⟨g,j*8+1,none⟩ (.int .i64 a)):=by
 have hg:=h.Cu g rfl;obtain⟨hl,⟨h2,h3⟩|⟨g',cap,cur,hv,_,hb,hcap,hmx,hsz,ht⟩⟩:=h.own
 ·cases h2
 injection hv with e1 e2 e3;injection e1 with e1;injection e1 with e1;subst e1 e2 e3;refine⟨⟨(Below.heap_setCell _ _ _ _ (by exact fun e=>hg.2 e.symm)).trans h.cell,⟨?_,.inr ⟨g,sc,cur.setIfInBounds (j*8+1) (.int .i64 a),?_,Nat.zero_le _,heap_set hb _,?_,hmx,?_,?_⟩⟩,h.Gp,h.Cu,fun k hk=>by have:=h.lo k hk;simp[World.setCell];exact this⟩,(A3.refl D w).set hg.1 _⟩
 ·rw[Akp,Qx]
 ·rw[Qx]
 ·rw[Qx];exact hcap
 ·simpa using hsz
 ·rw[Qx,Amb a st j hj,Array.toList_setIfInBounds,←ht,List.take_set]
theorem Sn{D:Nat->Prop}{wb te:Nat}{w:World}{fs gs ls ps:Value}{slots:Nat}{st:List Ad}(h:K0 D wb te w fs gs ls ps slots st)(j:Nat)(hj:j<st.length) :
  Calls Tryz.prog 140 #[.pointer (some ⟨wb,0,none⟩),.int .i64 (j:Nat)] w fun e w'=>e=.returned (.tuple #[])/\K0 D wb te w' fs gs ls ps slots (Lv j (st.length:Nat) st)/\A3 D w w':=by
 have HHere:=A0 (Vw (h.keep (w':=w.drew) (fun _ _=>rfl) (Nat.le_refl _)));obtain⟨sa,sn,sc,h⟩:=h;have c:=A2 h.cell 5 _ rfl;have lb:=A4 h.cell;have hv:sn=st.length:=(C8 h.own).1;subst hv;obtain⟨hl,⟨h2,h3⟩|⟨g,cap,cur,hv,_,hb,hcap,hmx,hsz,ht⟩⟩:=h.own
 ·omega
 injection hv with e1 _ e3;subst e1 e3;have HL:=A0 (h.A4i j hj (st.length:Nat));have fg:=Bd hb;have lg:=A4 hb;have cg:w.cell? ⟨g,j*8+1,none⟩=some cur[j*8+1]:=by rw[cell_of_row w g (j*8+1) cur _ _ hb,Array.getElem?_eq_getElem (by omega)]
 generalize cur[j*8+1]=oldc at cg;have HB:Hid (A3 D w w.drew):=⟨rfl,rfl,rfl,Nat.le_refl _,fun _ _=>rfl⟩;clear h hb ht hl hsz hmx;go_enter Tryz.func140,Tryz.ntmps140;go_wp2;refine Ji 10 (by kernel_rfl) (by kernel_rfl) ?_;simp only[List.take_succ_cons,List.take_zero,List.drop_succ_cons,List.drop_zero];iterate 7 (refine Fa (fun K' hK'=>?_);go_simp;refine hK' _ ?_;clear hK' K')
 refine Fa (fun K' hK'=>?_);go_simp;refine⟨_,HHere.o,hK' _ ?_⟩;clear hK' K';iterate 2 (refine Fa (fun K' hK'=>?_);go_simp;refine hK' _ ?_;clear hK' K')
 refine Jk ?_;go_wp2;go_end0;exact⟨rfl,K0.keep ⟨_,_,_,HL.o.1⟩ (fun _ _=>rfl) (Nat.le_refl _),HL.o.2.trans ⟨rfl,rfl,rfl,Nat.le_refl _,fun _ _=>rfl⟩⟩
theorem Ali{D:Nat->Prop}{wb te:Nat}{w:World}{gs ls ps:Value}{slots:Nat}{st:List Ad}{fns:List (Nm×Nat)}{fa:Option Addr}{fn fc:Nat}(h:K0 D wb te w (.slice fa fn fc) gs ls ps slots st)(hf:Ih D w fns fa fn fc)(s:Nm) :
  Calls Tryz.prog 142 #[.pointer (some ⟨wb,0,none⟩),.string ⟨s.toArray⟩] w fun e w'=>e=.returned (.int .i64 (N5 fns s))/\w'=w:=by
 obtain⟨sa,sn,sc,h⟩:=h;have c:=A2 h.cell 0 _ rfl;have lb:=A4 h.cell;have hfew:=hf.Bq;have hcap:=hf.cap;have hlen:=hf.len;subst hlen;have HH:=A0 hf;clear h hf;go_enter Tryz.func142,Tryz.ntmps142;go_wp2;go_loopg [12] fns.length (fun q v wr=>∃i:Nat,v=.int .i64 i/\i+q=fns.length/\(∀j,j<i->∀h':j<fns.length,fns[j].1≠s)/\wr=w)
 case atStart=>exact⟨0,rfl,by omega,fun i hi=>by omega,rfl⟩
 case round=>
  obtain⟨i,rfl,hik,hno,rfl⟩:=hrel;have HNo:=A0 hno;clear hno;by_cases hlt:i<fns.length
  ·obtain⟨g,pb,pa,pc,rfl,_,lg,cg,_,lp,c1,c2⟩:=HH.o.at' i hlt;have HI:Hid (fns[i].1=s->N5 fns s=(i:Nat)):=by
    intro e;unfold N5;rw[Zc s (fns.map Prod.fst) i (by simpa using hlt) (by simpa using e) (fun j hj hji=>by simpa using HNo.o j hji (by simpa using hj))]
   have HS:Hid (fns[i].1≠s->∀j,j<i+1->∀h':j<fns.length,fns[j].1≠s):=by
    intro hn j hj h' e;by_cases hjn:j=i
    ·subst hjn;exact hn e
    ·exact HNo.o j (by omega) h' e
   generalize fns[i]=x at *;cases hq:(x.1==s)
   ·have HQ:Hid (x.1≠s):=by rw[beq_eq_false_iff_ne]at hq;exact hq
    go_wp2;go_roundg (gk-1)
    case measure=>omega
    case rel=>exact⟨i+1,rfl,by omega,HS.o HQ.o,rfl⟩
   ·have HQ:Hid (x.1=s):=A0 (by simpa using hq);have HE:=A0 (HI.o HQ.o);go_wp2;go_ret;exact⟨Ul HE.o.symm,rfl⟩
  ·have HT:Hid (N5 fns s=-1):=by
    show _=_;unfold N5;rw[A03 s (fns.map Prod.fst) (fun j hj=>by simpa using HNo.o j (by simp at hj;omega) (by simpa using hj))]
   go_wp2;go_ret;exact⟨Ul HT.o.symm,rfl⟩
theorem EC.Ex.stk{K:EC}{D:Nat->Prop}{w:World}{la:Option Addr}{ln lc:Nat}{ps:Value}{e:Em}{sa:Option Addr}{sn sc:Nat}(h:K.Ex D w la ln lc ps e)(hv:Hr D K.wb K.te w (.slice K.fa K.fn K.fc) (.slice K.ga K.gn K.gc) (.slice la ln lc) ps e.slots e.st sa sn sc) :
  G0 9 K.wb 2 w #[.slice K.fa K.fn K.fc,.slice K.ga K.gn K.gc,.slice la ln lc,ps,.int .i64 (e.slots:Nat),.slice sa sn sc] K.te la ln lc (Da e.loc):=
 ⟨hv.cell,rfl,by have:=h.lr.1;rwa [show e.loc.length=(Da e.loc).length by simp[Da]]at this,fun e=>hv.Gp (h.lr.2 _ e)⟩
theorem o9{l:List Nm}{i:Nat}(h:i<l.length):(Da l)[i]'(by simp[Da];exact h)=.string ⟨l[i].toArray⟩:=by simp[Da,N1]
theorem Nt(l:List Nm):(Da l).length=l.length:=by simp[Da]
theorem A1q{K:EC}{D:Nat->Prop}{w:World}{la:Option Addr}{ln lc:Nat}{ps:Value}{e:Em}(h:K.Ex D w la ln lc ps e)(hn:e.st.length<=900000)(s:Nm)(lo gb:Nat) :
  Calls Tryz.prog 88 #[.pointer (some ⟨K.wb,0,none⟩),.string ⟨s.toArray⟩,.int .i64 (lo:Nat),.int .i64 (gb:Nat)] w fun r w'=>r=.returned (.tuple #[])/\K.Ex D w' la ln lc ps (e.var K.gl s lo gb)/\A3 D w w':=by
 have HX:=A0 h;obtain⟨sa,sn,sc,hv⟩:=h.ew;have hfew:=h.Bq;obtain⟨c0,c1,c2,c3,c4,c5,fz,lb⟩:=Sj hv.cell;have HL:=A0 (Pp (h.stk hv));rw[Nt]at HL;have HA:=A0 (fun i hi=>j6 (h.stk hv) i hi);have hgr:=h.gr.1;have hgn:K.gn=K.gl.length:=(C8 hgr).1;obtain⟨ga,hga⟩:∃ga,ga=K.ga:=⟨_,rfl⟩;rw[←hga]at c1 hgr;have HGr:=A0 hgr;have HSt:=A0 (fun(op:Nat) (arg:Int)=>Kg h.ew hn op arg 0);rw[hgn]at c1;clear h hv hgr hgn c0 c2 c3 c4 c5 fz hga;go_enter Tryz.func88,Tryz.ntmps88;go_wp2_with fail
 refine HL.o.mono ?_;rintro r w ⟨rfl,rfl⟩;go_wp2;go_loopg [8] e.loc.length (fun k v wr=>v=.int .i64 ((k:Int)-1)/\k<=e.loc.length/\(∀j (h:j<e.loc.length),k<=j->e.loc[j]≠s)/\wr=w)
 case atStart=>exact⟨rfl,Nat.le_refl _,fun j h h'=>by omega,rfl⟩
 case round=>
  obtain⟨rfl,hk,hno,rfl⟩:=hrel;have HNo:=A0 hno;clear hno;by_cases hlt:0<gk
  ·obtain⟨i,rfl⟩:∃i,gk=i+1:=⟨gk-1,by omega⟩;have hi:i<e.loc.length:=by omega
   have HA1:=A0 (HA.o i (by rw[Nt];exact hi));rw[o9 hi]at HA1;have hpi:(((i+1:Nat):Int)-1)=(i:Int):=by omega
   rw[hpi];have HI:Hid (e.loc[i]=s->N8 s e.loc=some i):=fun e1=>Aj8 s _ i hi e1 (fun j hj hij=>HNo.o j hj (by omega));have HS:Hid (e.loc[i]≠s->∀j (h:j<e.loc.length),i<=j->e.loc[j]≠s):=by
    intro hn j hj hij e2;by_cases hjn:j=i
    ·subst hjn;exact hn e2
    ·exact HNo.o j hj (by omega) e2
   generalize e.loc[i]=x at *;clear hpi;cases hq:(x==s)
   ·have HQ:Hid (x≠s):=by rw[beq_eq_false_iff_ne]at hq;exact hq
    go_wp2_with fail
    refine HA1.o.mono ?_;rintro r w' ⟨rfl,rfl⟩;go_wp2;go_roundg i
    case measure=>omega
    case rel=>exact⟨rfl,by omega,HS.o HQ.o,rfl⟩
   ·have HQ:Hid (x=s):=A0 (by simpa using hq);have HV:Hid (e.var K.gl s lo gb=e.step lo (i:Nat) 0):=by
     show _=_;unfold Em.var;rw[HI.o HQ.o]
    have HSt1:=A0 (HSt.o lo (i:Nat));go_wp2_with fail
    refine HA1.o.mono ?_;rintro r w' ⟨rfl,rfl⟩;go_wp2_with fail
    refine HSt1.o.mono ?_;rintro r w2 ⟨rfl,Au,A8⟩;have Ak:=A0 (HX.o.next (e':=e.step lo (i:Nat) 0) A8 Au rfl);have Aa:=A0 A8;clear Au A8;go_wp2;refine bodyPost_ret (v:=.tuple #[]) (by simp[results,Tryz.results88,go_sem]) rfl ?_;rw[HV.o];exact⟨rfl,Ak.o,Aa.o⟩
  ·obtain rfl:gk=0:=by omega
   have HLn:Hid (N8 s e.loc=none):=X2 s _ (fun j hj=>HNo.o j hj (by omega));clear hlt HNo;go_wp2;go_loopg [36] K.gl.length (fun q v wq=>∃i:Nat,v=.int .i64 i/\i+q=K.gl.length/\(∀j,j<i->∀h':j<K.gl.length,K.gl[j]≠s)/\wq=wr)
   case atStart=>exact⟨0,rfl,by omega,fun i hi=>by omega,rfl⟩
   case round=>
    obtain⟨i,rfl,hik,hno,rfl⟩:=hrel;have HNo:=A0 hno;clear hno;by_cases hlt:i<K.gl.length
    ·obtain⟨g,rfl,_,hcap,lg,hcell⟩:=Gj HGr.o (by omega);have d0:=hcell i (.string ⟨K.gl[i].toArray⟩) (by rw[List.getElem?_eq_getElem (by rw[Nt];exact hlt),o9 hlt]);have HI:Hid (K.gl[i]=s->My s K.gl=some i):=fun e1=>Zc s _ i hlt e1 (fun j hj hij=>HNo.o j hij hj);have HS:Hid (K.gl[i]≠s->∀j,j<i+1->∀h':j<K.gl.length,K.gl[j]≠s):=by
      intro hn j hj h' e2;by_cases hjn:j=i
      ·subst hjn;exact hn e2
      ·exact HNo.o j (by omega) h' e2
     clear hcell;generalize K.gl[i]=x at *;cases hq:(x==s)
     ·have HQ:Hid (x≠s):=by rw[beq_eq_false_iff_ne]at hq;exact hq
      go_wp2;go_roundg (gk-1)
      case measure=>omega
      case rel=>exact⟨i+1,rfl,by omega,HS.o HQ.o,rfl⟩
     ·have HQ:Hid (x=s):=A0 (by simpa using hq);have HV:Hid (e.var K.gl s lo gb=e.step gb (i:Nat) 0):=by
       show _=_;unfold Em.var;rw[HLn.o,HI.o HQ.o]
      have HSt1:=A0 (HSt.o gb (i:Nat));go_wp2_with fail
      refine HSt1.o.mono ?_;rintro r w2 ⟨rfl,Au,A8⟩;have Ak:=A0 (HX.o.next (e':=e.step gb (i:Nat) 0) A8 Au rfl);have Aa:=A0 A8;clear Au A8;go_wp2;refine bodyPost_ret (v:=.tuple #[]) (by simp[results,Tryz.results88,go_sem]) rfl ?_;rw[HV.o];exact⟨rfl,Ak.o,Aa.o⟩
    ·have HV:Hid (e.var K.gl s lo gb=e):=by
      show _=_;unfold Em.var;rw[HLn.o,A03 s _ (fun j hj=>HNo.o j (by omega) hj)]
     go_wp2;go_end0;rw[HV.o];exact⟨rfl,HX.o,A3.refl _ _⟩
theorem Ky(t:TypeId)(h:t≠220)(v:Value)(w:World):(Instr.typeAssert (.iface t v) 150 220 true).run Tryz.prog w=.ok (.tuple #[.pointer none,.bool false]) w:=Bc Tryz.underlying220 (by kernel_rfl) h v w
theorem Ae5(v:Value)(w:World):(Instr.typeAssert (.iface 220 v) 150 220 true).run Tryz.prog w=.ok (.tuple #[v,.bool true]) w:=Dv Tryz.underlying220 v w
theorem L6(t:TypeId)(h:t≠229)(v:Value)(w:World):(Instr.typeAssert (.iface t v) 150 229 true).run Tryz.prog w=.ok (.tuple #[.pointer none,.bool false]) w:=Bc Tryz.underlying229 (by kernel_rfl) h v w
theorem Afa(v:Value)(w:World):(Instr.typeAssert (.iface 229 v) 150 229 true).run Tryz.prog w=.ok (.tuple #[v,.bool true]) w:=Dv Tryz.underlying229 v w
theorem M0(t:TypeId)(h:t≠233)(v:Value)(w:World):(Instr.typeAssert (.iface t v) 150 233 true).run Tryz.prog w=.ok (.tuple #[.pointer none,.bool false]) w:=Bc Tryz.underlying233 (by kernel_rfl) h v w
theorem Ya(v:Value)(w:World):(Instr.typeAssert (.iface 233 v) 150 233 true).run Tryz.prog w=.ok (.tuple #[v,.bool true]) w:=Dv Tryz.underlying233 v w
theorem Ma(t:TypeId)(h:t≠237)(v:Value)(w:World):(Instr.typeAssert (.iface t v) 150 237 true).run Tryz.prog w=.ok (.tuple #[.pointer none,.bool false]) w:=Bc Tryz.underlying237 (by kernel_rfl) h v w
theorem Ad9(v:Value)(w:World):(Instr.typeAssert (.iface 237 v) 150 237 true).run Tryz.prog w=.ok (.tuple #[v,.bool true]) w:=Dv Tryz.underlying237 v w
theorem Mp(t:TypeId)(h:t≠238)(v:Value)(w:World):(Instr.typeAssert (.iface t v) 150 238 true).run Tryz.prog w=.ok (.tuple #[.pointer none,.bool false]) w:=Bc Tryz.underlying238 (by kernel_rfl) h v w
theorem A0m(v:Value)(w:World):(Instr.typeAssert (.iface 238 v) 150 238 true).run Tryz.prog w=.ok (.tuple #[v,.bool true]) w:=Dv Tryz.underlying238 v w
theorem Nx(t:TypeId)(h:t≠241)(v:Value)(w:World):(Instr.typeAssert (.iface t v) 150 241 true).run Tryz.prog w=.ok (.tuple #[.pointer none,.bool false]) w:=Bc Tryz.underlying241 (by kernel_rfl) h v w
theorem A44(v:Value)(w:World):(Instr.typeAssert (.iface 241 v) 150 241 true).run Tryz.prog w=.ok (.tuple #[v,.bool true]) w:=Dv Tryz.underlying241 v w
theorem Pc(t:TypeId)(h:t≠244)(v:Value)(w:World):(Instr.typeAssert (.iface t v) 150 244 true).run Tryz.prog w=.ok (.tuple #[.pointer none,.bool false]) w:=Bc Tryz.underlying244 (by kernel_rfl) h v w
theorem A19(v:Value)(w:World):(Instr.typeAssert (.iface 244 v) 150 244 true).run Tryz.prog w=.ok (.tuple #[v,.bool true]) w:=Dv Tryz.underlying244 v w
theorem Qo(t:TypeId)(h:t≠248)(v:Value)(w:World):(Instr.typeAssert (.iface t v) 150 248 true).run Tryz.prog w=.ok (.tuple #[.pointer none,.bool false]) w:=Bc Tryz.underlying248 (by kernel_rfl) h v w
theorem A6n(v:Value)(w:World):(Instr.typeAssert (.iface 248 v) 150 248 true).run Tryz.prog w=.ok (.tuple #[v,.bool true]) w:=Dv Tryz.underlying248 v w
theorem Sy(t:TypeId)(h:t≠296)(v:Value)(w:World):(Instr.typeAssert (.iface t v) 150 296 true).run Tryz.prog w=.ok (.tuple #[.pointer none,.bool false]) w:=Bc Tryz.underlying296 (by kernel_rfl) h v w
theorem Ako(v:Value)(w:World):(Instr.typeAssert (.iface 296 v) 150 296 true).run Tryz.prog w=.ok (.tuple #[v,.bool true]) w:=Dv Tryz.underlying296 v w
theorem V4(t:TypeId)(h:t≠301)(v:Value)(w:World):(Instr.typeAssert (.iface t v) 150 301 true).run Tryz.prog w=.ok (.tuple #[.pointer none,.bool false]) w:=Bc Tryz.underlying301 (by kernel_rfl) h v w
theorem A6x(v:Value)(w:World):(Instr.typeAssert (.iface 301 v) 150 301 true).run Tryz.prog w=.ok (.tuple #[v,.bool true]) w:=Dv Tryz.underlying301 v w
theorem A1i(t:TypeId)(h:t≠304)(v:Value)(w:World):(Instr.typeAssert (.iface t v) 150 304 true).run Tryz.prog w=.ok (.tuple #[.pointer none,.bool false]) w:=Bc Tryz.underlying304 (by kernel_rfl) h v w
theorem Adh(v:Value)(w:World):(Instr.typeAssert (.iface 304 v) 150 304 true).run Tryz.prog w=.ok (.tuple #[v,.bool true]) w:=Dv Tryz.underlying304 v w
theorem Aez(t:TypeId)(h:t≠307)(v:Value)(w:World):(Instr.typeAssert (.iface t v) 150 307 true).run Tryz.prog w=.ok (.tuple #[.pointer none,.bool false]) w:=Bc Tryz.underlying307 (by kernel_rfl) h v w
theorem A97(v:Value)(w:World):(Instr.typeAssert (.iface 307 v) 150 307 true).run Tryz.prog w=.ok (.tuple #[v,.bool true]) w:=Dv Tryz.underlying307 v w
theorem A1v(v:Value)(w:World):(Instr.typeAssert (.iface 310 v) 150 310 true).run Tryz.prog w=.ok (.tuple #[v,.bool true]) w:=Dv Tryz.underlying310 v w
theorem v8(t:TypeId)(h:t≠143)(v:Value)(w:World):(Instr.typeAssert (.iface t v) 142 143 true).run Tryz.prog w=.ok (.tuple #[.pointer none,.bool false]) w:=Bc Tryz.underlying143 (by kernel_rfl) h v w
theorem A5w(v:Value)(w:World):(Instr.typeAssert (.iface 143 v) 142 143 true).run Tryz.prog w=.ok (.tuple #[v,.bool true]) w:=Dv Tryz.underlying143 v w
theorem Mq(t:TypeId)(h:t≠145)(v:Value)(w:World):(Instr.typeAssert (.iface t v) 142 145 true).run Tryz.prog w=.ok (.tuple #[.pointer none,.bool false]) w:=Bc Tryz.underlying145 (by kernel_rfl) h v w
theorem A0i(v:Value)(w:World):(Instr.typeAssert (.iface 145 v) 142 145 true).run Tryz.prog w=.ok (.tuple #[v,.bool true]) w:=Dv Tryz.underlying145 v w
theorem O0(t:TypeId)(h:t≠253)(v:Value)(w:World):(Instr.typeAssert (.iface t v) 142 253 true).run Tryz.prog w=.ok (.tuple #[.pointer none,.bool false]) w:=Bc Tryz.underlying253 (by kernel_rfl) h v w
theorem An6(v:Value)(w:World):(Instr.typeAssert (.iface 253 v) 142 253 true).run Tryz.prog w=.ok (.tuple #[v,.bool true]) w:=Dv Tryz.underlying253 v w
theorem P3(t:TypeId)(h:t≠255)(v:Value)(w:World):(Instr.typeAssert (.iface t v) 142 255 true).run Tryz.prog w=.ok (.tuple #[.pointer none,.bool false]) w:=Bc Tryz.underlying255 (by kernel_rfl) h v w
theorem Agn(v:Value)(w:World):(Instr.typeAssert (.iface 255 v) 142 255 true).run Tryz.prog w=.ok (.tuple #[v,.bool true]) w:=Dv Tryz.underlying255 v w
theorem Q4(t:TypeId)(h:t≠257)(v:Value)(w:World):(Instr.typeAssert (.iface t v) 142 257 true).run Tryz.prog w=.ok (.tuple #[.pointer none,.bool false]) w:=Bc Tryz.underlying257 (by kernel_rfl) h v w
theorem Aiz(v:Value)(w:World):(Instr.typeAssert (.iface 257 v) 142 257 true).run Tryz.prog w=.ok (.tuple #[v,.bool true]) w:=Dv Tryz.underlying257 v w
theorem Qr(t:TypeId)(h:t≠259)(v:Value)(w:World):(Instr.typeAssert (.iface t v) 142 259 true).run Tryz.prog w=.ok (.tuple #[.pointer none,.bool false]) w:=Bc Tryz.underlying259 (by kernel_rfl) h v w
theorem Aan(v:Value)(w:World):(Instr.typeAssert (.iface 259 v) 142 259 true).run Tryz.prog w=.ok (.tuple #[v,.bool true]) w:=Dv Tryz.underlying259 v w
theorem Sf(t:TypeId)(h:t≠264)(v:Value)(w:World):(Instr.typeAssert (.iface t v) 142 264 true).run Tryz.prog w=.ok (.tuple #[.pointer none,.bool false]) w:=Bc Tryz.underlying264 (by kernel_rfl) h v w
theorem Alw(v:Value)(w:World):(Instr.typeAssert (.iface 264 v) 142 264 true).run Tryz.prog w=.ok (.tuple #[v,.bool true]) w:=Dv Tryz.underlying264 v w
theorem Vb(t:TypeId)(h:t≠265)(v:Value)(w:World):(Instr.typeAssert (.iface t v) 142 265 true).run Tryz.prog w=.ok (.tuple #[.pointer none,.bool false]) w:=Bc Tryz.underlying265 (by kernel_rfl) h v w
theorem A8n(v:Value)(w:World):(Instr.typeAssert (.iface 265 v) 142 265 true).run Tryz.prog w=.ok (.tuple #[v,.bool true]) w:=Dv Tryz.underlying265 v w
theorem A7f(t:TypeId)(h:t≠268)(v:Value)(w:World):(Instr.typeAssert (.iface t v) 142 268 true).run Tryz.prog w=.ok (.tuple #[.pointer none,.bool false]) w:=Bc Tryz.underlying268 (by kernel_rfl) h v w
theorem A11(v:Value)(w:World):(Instr.typeAssert (.iface 268 v) 142 268 true).run Tryz.prog w=.ok (.tuple #[v,.bool true]) w:=Dv Tryz.underlying268 v w
theorem A6z(v:Value)(w:World):(Instr.typeAssert (.iface 270 v) 142 270 true).run Tryz.prog w=.ok (.tuple #[v,.bool true]) w:=Dv Tryz.underlying270 v w
def Fg(K:EC)(l:A6)(c:BT A6):Prop:=∀(D:Nat->Prop) (w:World) (la:Option Addr) (ln lc:Nat) (ps:Value) (e:Em) (v:Value) (ks:List Value),
 K.Ex D w la ln lc ps e->Bo D w l v ks->Al D w c ks->e.st.length+2*bsize (nd l c)<=800000->
 Calls Tryz.prog 54 #[.pointer (some ⟨K.wb,0,none⟩),v] w fun r w'=>r=.returned (.tuple #[])/\K.Ex D w' la ln lc ps (An K.fns K.gl l (Ar c) (em K.fns K.gl c) e)/\A3 D w w'
theorem X4(K:EC)(c:BT A6)(hok:Cx (Fg K) c)(D:Nat->Prop)(w:World)(la:Option Addr)(ln lc:Nat)(ps:Value)(e:Em)(va:Option Addr)(vn vc:Nat)(ks:List Value)
  (hst:K.Ex D w la ln lc ps e) (hown:Co D w 150 1 (.slice va vn vc) ks.length ks) (hrep:Al D w c ks) (hsz:e.st.length+2*bsize c<=800000) :
  Calls Tryz.prog 141 #[.pointer (some ⟨K.wb,0,none⟩),.slice va vn vc] w fun r w'=>r=.returned (.tuple #[])/\K.Ex D w' la ln lc ps (em K.fns K.gl c 0 e)/\A3 D w w':=by
 have hvn:vn=ks.length:=(C8 hown.1).1;subst hvn;have HSt0:=A0 hst;have HOwn:=A0 hown;have HRep:=A0 hrep;have hlen:=hrep.len;have HLen:=A0 hlen;have hls:=N4 c;have hkl:ks.length<=400000:=by omega
 clear hst hown hrep hlen;go_enter Tryz.func141,Tryz.ntmps141;go_wp2;go_loopg [8] ks.length (fun k v wr=>∃(i:Nat) (ei:Em),v=.int .i64 i/\i+k=ks.length/\K.Ex D wr la ln lc ps ei/\em K.fns K.gl (C3 i c) 0 ei=em K.fns K.gl c 0 e/\ei.st.length+2*bsize (C3 i c)<=800000/\A3 D w wr)
 case atStart=>exact⟨0,e,rfl,by omega,HSt0.o,rfl,hsz,A3.refl _ _⟩
 case round=>
  clear HSt0;obtain⟨i,ei,rfl,hik,hst,hse,hsi,hbel⟩:=hrel;have HSt:=A0 hst;have HSe:=A0 hse;have HBel:=A0 hbel;clear hst hse hbel;by_cases hlt:i<ks.length
  ·have hr:=HRep.o.Bn HBel.o;obtain⟨x,y,l,cc,r,hd,v,ks',hv,hn,hrk⟩:=Al.at' i c ks hr (by rw[←HLen.o];exact hlt);obtain⟨g,rfl,_,hcap,lg,hcell⟩:=Gj (HOwn.o.Bn HBel.o).1 (by omega);have d0:=hcell i v hv;have hE:=A0 (hok.at' i c x y l cc r hd);have hz:bsize (C3 i c)=bsize (nd l cc)+bsize r:=by rw[hd,Cd,bsize]
   have HNx:Hid (em K.fns K.gl (C3 (i+1) c) 0 (An K.fns K.gl l (Ar cc) (em K.fns K.gl cc) ei)=em K.fns K.gl c 0 e):=by
    show _=_;rw[Nu i c x y l cc r hd,←HSe.o,hd,Ib]
   have hsn:(An K.fns K.gl l (Ar cc) (em K.fns K.gl cc) ei).st.length+2*bsize (C3 (i+1) c)<=800000:=by
    have:=Gd K.fns K.gl l cc ei;rw[Nu i c x y l cc r hd];omega
   have HC:=A0 (hE.out D wr la ln lc ps ei v ks' HSt.o hn hrk (by omega));have HSn:=A0 hsn;clear hr hd hv hn hrk hcell hsn hz;go_wp2_with fail
   refine HC.o.mono ?_;rintro r' w1 ⟨rfl,Ah,A1⟩;have A9:=A0 Ah;have A5:Hid (A3 D w w1):=HBel.o.trans A1;clear Ah A1;go_wp2;go_roundg (gk-1)
   case measure=>omega
   case rel=>exact⟨i+1,_,rfl,by omega,A9.o,HNx.o,HSn.o,A5.o⟩
  ·have HE:Hid (ei=em K.fns K.gl c 0 e):=by
    have h0:C3 i c=.nil:=by
     have:Ar (C3 i c)=0:=by rw[Ok,←HLen.o];omega
     cases hd:C3 i c with
     | nil=>rfl
     | node x y l c r=>rw[hd]at this;simp[Ar]at this
    have:=HSe.o;rw[h0]at this;exact this
   go_wp2;go_end0;rw[←HE.o];exact⟨rfl,HSt.o,HBel.o⟩
theorem Ahj(K:EC)(l:A6)(c:BT A6)(hk:l.kd=1):Fg K l c:=by
 intro D w la ln lc ps e v ks hst hn hr hsz;obtain⟨hlo,lcb,hncb⟩:=hst.lo;have hnds:=Cd l c;unfold Bo at hn;rw[if_neg (by omega)]at hn;obtain⟨b,cs,rfl,hD,hb,hl⟩:=hn;have e1:Cb l.kd=220:=by rw[hk];rfl
 have e2:De l.kd=228:=by rw[hk];rfl
 rw[e1];rw[e2]at hb;unfold Cr at hl;simp only[hk]at hl;rw[Yt hk];obtain⟨rfl,rfl⟩:=hl;have d0:w.cell? ⟨b,0,none⟩=some (.int .i64 l.n):=A2 hb 0 _ rfl;have ld:=A4 hb;have HX:=A0 hst;have HLo:=A0 hlo;have D8:=Ae5;clear hst hb e1 e2 hk hr;unfold C5;go_enter Tryz.func54,Tryz.ntmps54;go_wp2_with fail
 refine(Vg l.n _).mono ?_;rintro r w1 ⟨rfl,A1⟩;have Ir:=A0 (HX.o.keep A1.block A1.size A1.os A1.tape A1.output);have A5:Hid (A3 D w w1):=⟨A1.os,A1.tape,A1.output,A1.size,fun g hg=>A1.block g (HLo.o g hg)⟩;clear A1;go_wp2_with fail
 refine(R3 Ir.o.ew (by omega) ⟨2,false,l.n,[],none⟩).mono ?_;rintro r w2 ⟨rfl,Au,A8⟩;have Ak:=A0 (Ir.o.next (e':=e.J2 ⟨2,false,l.n,[],none⟩) A8 Au rfl);have Aa:Hid (A3 D w w2):=A5.o.trans A8;clear Au A8;go_wp2;go_end0;exact⟨rfl,Ak.o,Aa.o⟩
theorem A3j(K:EC)(l:A6)(c:BT A6)(hk:l.kd=2):Fg K l c:=by
 intro D w la ln lc ps e v ks hst hn hr hsz;obtain⟨hlo,lcb,hncb⟩:=hst.lo;have hnds:=Cd l c;unfold Bo at hn;rw[if_neg (by omega)]at hn;obtain⟨b,cs,rfl,hD,hb,hl⟩:=hn;have e1:Cb l.kd=229:=by rw[hk];rfl
 have e2:De l.kd=232:=by rw[hk];rfl
 rw[e1];rw[e2]at hb;unfold Cr at hl;simp only[hk]at hl;rw[A2d hk];obtain⟨rfl,rfl⟩:=hl;have d0:w.cell? ⟨b,0,none⟩=some (.string ⟨l.s.toArray⟩):=A2 hb 0 _ rfl;have ld:=A4 hb;have HX:=A0 hst;have HLo:=A0 hlo;have D8:=Ky 229 (by decide);have Dr:=Afa;clear hst hb e1 e2 hk hr;unfold C5;go_enter Tryz.func54,Tryz.ntmps54;go_wp2_with fail
 refine(Zl ⟨l.s.toArray⟩ _).mono ?_;rintro r w1 ⟨rfl,A1⟩;have Ir:=A0 (HX.o.keep A1.block A1.size A1.os A1.tape A1.output);have A5:Hid (A3 D w w1):=⟨A1.os,A1.tape,A1.output,A1.size,fun g hg=>A1.block g (HLo.o g hg)⟩;clear A1;go_wp2_with fail
 refine(R3 Ir.o.ew (by omega) ⟨3,false,0,l.s,none⟩).mono ?_;rintro r w2 ⟨rfl,Au,A8⟩;have Ak:=A0 (Ir.o.next (e':=e.J2 ⟨3,false,0,l.s,none⟩) A8 Au rfl);have Aa:Hid (A3 D w w2):=A5.o.trans A8;clear Au A8;go_wp2;go_end0;exact⟨rfl,Ak.o,Aa.o⟩
theorem Alk(K:EC)(l:A6)(c:BT A6)(hk:l.kd=3):Fg K l c:=by
 intro D w la ln lc ps e v ks hst hn hr hsz;obtain⟨hlo,lcb,hncb⟩:=hst.lo;have hnds:=Cd l c;unfold Bo at hn;rw[if_neg (by omega)]at hn;obtain⟨b,cs,rfl,hD,hb,hl⟩:=hn;have e1:Cb l.kd=233:=by rw[hk];rfl
 have e2:De l.kd=236:=by rw[hk];rfl
 rw[e1];rw[e2]at hb;unfold Cr at hl;simp only[hk]at hl;rw[Za hk];obtain⟨rfl,rfl⟩:=hl;have d0:w.cell? ⟨b,0,none⟩=some (.bool true):=A2 hb 0 _ rfl;have ld:=A4 hb;have HX:=A0 hst;have HLo:=A0 hlo;have D8:=Ky 233 (by decide);have Dr:=L6 233 (by decide);have Ee:=Ya;clear hst hb e1 e2 hk hr;unfold C5;go_enter Tryz.func54,Tryz.ntmps54;go_wp2_with fail
 refine(Up true _).mono ?_;rintro r w1 ⟨rfl,A1⟩;have Ir:=A0 (HX.o.keep A1.block A1.size A1.os A1.tape A1.output);have A5:Hid (A3 D w w1):=⟨A1.os,A1.tape,A1.output,A1.size,fun g hg=>A1.block g (HLo.o g hg)⟩;clear A1;go_wp2_with fail
 refine(R3 Ir.o.ew (by omega) ⟨1,true,0,[],none⟩).mono ?_;rintro r w2 ⟨rfl,Au,A8⟩;have Ak:=A0 (Ir.o.next (e':=e.J2 ⟨1,true,0,[],none⟩) A8 Au rfl);have Aa:Hid (A3 D w w2):=A5.o.trans A8;clear Au A8;go_wp2;go_end0;exact⟨rfl,Ak.o,Aa.o⟩
theorem Akk(K:EC)(l:A6)(c:BT A6)(hk:l.kd=4):Fg K l c:=by
 intro D w la ln lc ps e v ks hst hn hr hsz;obtain⟨hlo,lcb,hncb⟩:=hst.lo;have hnds:=Cd l c;unfold Bo at hn;rw[if_neg (by omega)]at hn;obtain⟨b,cs,rfl,hD,hb,hl⟩:=hn;have e1:Cb l.kd=233:=by rw[hk];rfl
 have e2:De l.kd=236:=by rw[hk];rfl
 rw[e1];rw[e2]at hb;unfold Cr at hl;simp only[hk]at hl;rw[A2s hk];obtain⟨rfl,rfl⟩:=hl;have d0:w.cell? ⟨b,0,none⟩=some (.bool false):=A2 hb 0 _ rfl;have ld:=A4 hb;have HX:=A0 hst;have HLo:=A0 hlo;have D8:=Ky 233 (by decide);have Dr:=L6 233 (by decide);have Ee:=Ya;clear hst hb e1 e2 hk hr;unfold C5;go_enter Tryz.func54,Tryz.ntmps54;go_wp2_with fail
 refine(Up false _).mono ?_;rintro r w1 ⟨rfl,A1⟩;have Ir:=A0 (HX.o.keep A1.block A1.size A1.os A1.tape A1.output);have A5:Hid (A3 D w w1):=⟨A1.os,A1.tape,A1.output,A1.size,fun g hg=>A1.block g (HLo.o g hg)⟩;clear A1;go_wp2_with fail
 refine(R3 Ir.o.ew (by omega) ⟨1,false,0,[],none⟩).mono ?_;rintro r w2 ⟨rfl,Au,A8⟩;have Ak:=A0 (Ir.o.next (e':=e.J2 ⟨1,false,0,[],none⟩) A8 Au rfl);have Aa:Hid (A3 D w w2):=A5.o.trans A8;clear Au A8;go_wp2;go_end0;exact⟨rfl,Ak.o,Aa.o⟩
theorem A77(K:EC)(l:A6)(c:BT A6)(hk:l.kd=5):Fg K l c:=by
 intro D w la ln lc ps e v ks hst hn hr hsz;obtain⟨hlo,lcb,hncb⟩:=hst.lo;have hnds:=Cd l c;unfold Bo at hn;rw[if_neg (by omega)]at hn;obtain⟨b,cs,rfl,hD,hb,hl⟩:=hn;have e1:Cb l.kd=237:=by rw[hk];rfl
 have e2:De l.kd=450:=by rw[hk];rfl
 rw[e1];rw[e2]at hb;unfold Cr at hl;simp only[hk]at hl;rw[Z8 hk];obtain⟨rfl,rfl⟩:=hl;have ld:=A4 hb;have HX:=A0 hst;have HLo:=A0 hlo;have D8:=Ky 237 (by decide);have Dr:=L6 237 (by decide);have Ee:=M0 237 (by decide);have F8:=Ad9;clear hst hb e1 e2 hk hr;unfold C5;go_enter Tryz.func54,Tryz.ntmps54;have Ir:=HX;have A5:=A0 (A3.refl D w);go_wp2_with fail
 refine(R3 Ir.o.ew (by omega) Ai).mono ?_;rintro r w2 ⟨rfl,Au,A8⟩;have Ak:=A0 (Ir.o.next (e':=e.J2 Ai) A8 Au rfl);have Aa:Hid (A3 D w w2):=A5.o.trans A8;clear Au A8;go_wp2;go_end0;exact⟨rfl,Ak.o,Aa.o⟩
theorem Ajq(K:EC)(l:A6)(c:BT A6)(hk:l.kd=6):Fg K l c:=by
 intro D w la ln lc ps e v ks hst hn hr hsz;obtain⟨hlo,lcb,hncb⟩:=hst.lo;have hnds:=Cd l c;unfold Bo at hn;rw[if_neg (by omega)]at hn;obtain⟨b,cs,rfl,hD,hb,hl⟩:=hn;have e1:Cb l.kd=238:=by rw[hk];rfl
 have e2:De l.kd=240:=by rw[hk];rfl
 rw[e1];rw[e2]at hb;unfold Cr at hl;simp only[hk]at hl;rw[Ym hk];obtain⟨rfl,rfl⟩:=hl;have d0:w.cell? ⟨b,1,none⟩=some (.string ⟨l.s.toArray⟩):=A2 hb 1 _ rfl;have ld:=A4 hb;have HV:=A0 (A1q hst (by omega) l.s 1 2);have D8:=Ky 238 (by decide);have Dr:=L6 238 (by decide);have Ee:=M0 238 (by decide);have F8:=Ma 238 (by decide);have G6:=A0m;clear hst hb e1 e2 hk hr;unfold C5;go_enter Tryz.func54,Tryz.ntmps54;go_wp2_with fail
 refine HV.o.mono ?_;rintro r w1 ⟨rfl,Ah,A1⟩;have A9:=A0 Ah;have A5:=A0 A1;clear Ah A1;go_wp2;go_end0;exact⟨rfl,A9.o,A5.o⟩
theorem Aig(w:World):Calls Tryz.prog 89 #[.int .i64 28] w fun e w'=>e=.returned (.int .i64 27)/\w'=w:=by
 go_enter Tryz.func89,Tryz.ntmps89;go_wp2;go_ret;exact⟨rfl,rfl⟩
theorem Ak2(w:World):Calls Tryz.prog 89 #[.int .i64 35] w fun e w'=>e=.returned (.int .i64 23)/\w'=w:=by
 go_enter Tryz.func89,Tryz.ntmps89;go_wp2;go_ret;exact⟨rfl,rfl⟩
theorem Amk(K:EC)(l:A6)(c:BT A6)(hk:l.kd=8)(ih:Cx (Fg K) c):Fg K l c:=by
 intro D w la ln lc ps e v ks hst hn hr hsz;obtain⟨hlo,lcb,hncb⟩:=hst.lo;have hnds:=Cd l c;unfold Bo at hn;rw[if_neg (by omega)]at hn;obtain⟨b,cs,rfl,hD,hb,hl⟩:=hn;have e1:Cb l.kd=241:=by rw[hk];rfl
 have e2:De l.kd=243:=by rw[hk];rfl
 rw[e1];rw[e2]at hb;unfold Cr at hl;simp only[hk]at hl;rw[Yh hk];obtain⟨a,rfl,rfl⟩:=hl;obtain⟨x1,y1,l1,c1,r1,D5,rfl,Bj,Ap,hz⟩:=hr.cons';obtain rfl:=hz.nil';have Bv:bsize (.node x1 y1 l1 c1 .nil)=bsize (nd l1 c1):=by rw[Cd,bsize];rfl
 have hlen1:=Gd K.fns K.gl l1 c1 e;rw[Ib,em];have HC:=A0 (ih.1 D w la ln lc ps e a D5 hst Bj Ap (by omega));have d0:=A2 hb 0 a rfl;have ld:=A4 hb;have HBk:=A0 hb;have D8:=Ky 241 (by decide);have Dr:=L6 241 (by decide);have Ee:=M0 241 (by decide);have F8:=Ma 241 (by decide);have G6:=Mp 241 (by decide);have He:=A44;clear hst hb e1 e2 hk hr Bj Ap hz ih;unfold C5;go_enter Tryz.func54,Tryz.ntmps54;go_wp2_with fail
 refine HC.o.mono ?_;rintro r w1 ⟨rfl,Ah,A1⟩;have A9:=A0 Ah;have A5:=A0 A1;clear Ah A1;go_wp2;go_end0;exact⟨rfl,A9.o,A5.o⟩
theorem Ak5(K:EC)(l:A6)(c:BT A6)(hk:l.kd=13)(ih:Cx (Fg K) c):Fg K l c:=by
 intro D w la ln lc ps e v ks hst hn hr hsz;obtain⟨hlo,lcb,hncb⟩:=hst.lo;have hnds:=Cd l c;unfold Bo at hn;rw[if_neg (by omega)]at hn;obtain⟨b,cs,rfl,hD,hb,hl⟩:=hn;have e1:Cb l.kd=244:=by rw[hk];rfl
 have e2:De l.kd=246:=by rw[hk];rfl
 rw[e1];rw[e2]at hb;unfold Cr at hl;simp only[hk]at hl;rw[A1e hk];obtain⟨a,rfl,rfl⟩:=hl;obtain⟨x1,y1,l1,c1,r1,D5,rfl,Bj,Ap,hz⟩:=hr.cons';obtain rfl:=hz.nil';have Bv:bsize (.node x1 y1 l1 c1 .nil)=bsize (nd l1 c1):=by rw[Cd,bsize];rfl
 have hlen1:=Gd K.fns K.gl l1 c1 e;rw[Ib,em];have HC:=A0 (ih.1 D w la ln lc ps e a D5 hst Bj Ap (by omega));have d0:=A2 hb 2 a rfl;have ld:=A4 hb;have HBk:=A0 hb;have D8:=Ky 244 (by decide);have Dr:=L6 244 (by decide);have Ee:=M0 244 (by decide);have F8:=Ma 244 (by decide);have G6:=Mp 244 (by decide);have He:=Nx 244 (by decide);have Iw:=A19;clear hst hb e1 e2 hk hr Bj Ap hz ih;unfold C5;go_enter Tryz.func54,Tryz.ntmps54;go_wp2_with fail
 refine HC.o.mono ?_;rintro r w1 ⟨rfl,Ah,A1⟩;have A9:=A0 Ah;have A5:=A0 A1;have Bm:=(A1.block b hD).trans HBk.o;clear Ah A1 d0 ld;have d0:w1.cell? ⟨b,0,none⟩=some (.int .i64 (l.line:Nat)):=A2 Bm 0 _ rfl;have d1:=A2 Bm 1 _ rfl;have ld:=A4 Bm;clear Bm;go_wp2;refine Ji 10 (by kernel_rfl) (by kernel_rfl) ?_;simp only[List.take_succ_cons,List.take_zero,List.drop_succ_cons,List.drop_zero];iterate 5 (refine Fa (fun K' hK'=>?_);go_simp;refine hK' _ ?_;clear hK' K')
 refine Fa (fun K' hK'=>?_);go_simp;refine⟨_,Aig _,hK' _ ?_⟩;clear hK' K';iterate 4 (refine Fa (fun K' hK'=>?_);go_simp;refine hK' _ ?_;clear hK' K')
 refine Jk ?_;go_wp2_with fail
 refine(Kg (A9.o.drewN 1).ew (by omega) 27 0 l.line).mono ?_;rintro r w9 ⟨rfl,F4,Ct⟩;have HS9:=A0 ((A9.o.drewN 1).next (e':=(em K.fns K.gl .nil 0 (An K.fns K.gl l1 (Ar c1) (em K.fns K.gl c1) e)).step 27 0 l.line) Ct F4 rfl);have Cz:Hid (A3 D w w9):=A5.o.trans ((E6 D w1 1).trans Ct);clear F4 Ct;go_wp2;go_end0;exact⟨rfl,HS9.o,Cz.o⟩
theorem A50(K:EC)(l:A6)(c:BT A6)(hk:l.kd=14)(ih:Cx (Fg K) c):Fg K l c:=by
 intro D w la ln lc ps e v ks hst hn hr hsz;obtain⟨hlo,lcb,hncb⟩:=hst.lo;have hnds:=Cd l c;unfold Bo at hn;rw[if_neg (by omega)]at hn;obtain⟨b,cs,rfl,hD,hb,hl⟩:=hn;have e1:Cb l.kd=244:=by rw[hk];rfl
 have e2:De l.kd=246:=by rw[hk];rfl
 rw[e1];rw[e2]at hb;unfold Cr at hl;simp only[hk]at hl;rw[Z5 hk];obtain⟨a,rfl,rfl⟩:=hl;obtain⟨x1,y1,l1,c1,r1,D5,rfl,Bj,Ap,hz⟩:=hr.cons';obtain rfl:=hz.nil';have Bv:bsize (.node x1 y1 l1 c1 .nil)=bsize (nd l1 c1):=by rw[Cd,bsize];rfl
 have hlen1:=Gd K.fns K.gl l1 c1 e;rw[Ib,em];have HC:=A0 (ih.1 D w la ln lc ps e a D5 hst Bj Ap (by omega));have d0:=A2 hb 2 a rfl;have ld:=A4 hb;have HBk:=A0 hb;have D8:=Ky 244 (by decide);have Dr:=L6 244 (by decide);have Ee:=M0 244 (by decide);have F8:=Ma 244 (by decide);have G6:=Mp 244 (by decide);have He:=Nx 244 (by decide);have Iw:=A19;clear hst hb e1 e2 hk hr Bj Ap hz ih;unfold C5;go_enter Tryz.func54,Tryz.ntmps54;go_wp2_with fail
 refine HC.o.mono ?_;rintro r w1 ⟨rfl,Ah,A1⟩;have A9:=A0 Ah;have A5:=A0 A1;have Bm:=(A1.block b hD).trans HBk.o;clear Ah A1 d0 ld;have d0:w1.cell? ⟨b,0,none⟩=some (.int .i64 (l.line:Nat)):=A2 Bm 0 _ rfl;have d1:=A2 Bm 1 _ rfl;have ld:=A4 Bm;clear Bm;go_wp2;refine Ji 10 (by kernel_rfl) (by kernel_rfl) ?_;simp only[List.take_succ_cons,List.take_zero,List.drop_succ_cons,List.drop_zero];iterate 5 (refine Fa (fun K' hK'=>?_);go_simp;refine hK' _ ?_;clear hK' K')
 refine Fa (fun K' hK'=>?_);go_simp;refine⟨_,Ak2 _,hK' _ ?_⟩;clear hK' K';iterate 4 (refine Fa (fun K' hK'=>?_);go_simp;refine hK' _ ?_;clear hK' K')
 refine Jk ?_;go_wp2_with fail
 refine(Kg (A9.o.drewN 1).ew (by omega) 23 0 l.line).mono ?_;rintro r w9 ⟨rfl,F4,Ct⟩;have HS9:=A0 ((A9.o.drewN 1).next (e':=(em K.fns K.gl .nil 0 (An K.fns K.gl l1 (Ar c1) (em K.fns K.gl c1) e)).step 23 0 l.line) Ct F4 rfl);have Cz:Hid (A3 D w w9):=A5.o.trans ((E6 D w1 1).trans Ct);clear F4 Ct;go_wp2;go_end0;exact⟨rfl,HS9.o,Cz.o⟩
end
end Go.Proofs.YtjdlndhfaaolaaaGreatDoor
