import Derived.Test.YtjdlndhfaaolaaaGreatDoorQ22
set_option maxHeartbeats 20000000
namespace Go.Proofs.YtjdlndhfaaolaaaGreatDoor
section
set_option maxRecDepth 100000
open Go.RowKit
open Go.Deep (BT)
theorem T9(ps:List (Nat×List UInt8)):∀(i:Nat) (h:i<ps.length),(Kj ps)[i*2]?=some (.int .i64 (ps[i].1:Nat))/\(Kj ps)[i*2+1]?=some (.string ⟨ps[i].2.toArray⟩):=by
 induction ps with
 | nil=>intro i h;simp at h
 | cons p r ih=>
  intro i h;have e:Kj (p::r)=Gc p.1::Kw p.2::Kj r:=by simp[Kj]
  rw[e];cases i with
  | zero=>exact⟨rfl,rfl⟩
  | succ i=>
   rw[show(i+1)*2=i*2+2 by omega,show i*2+2+1=i*2+1+2 by omega];exact ih i (by simpa using h)
theorem Ew.Xz{D:Nat->Prop}{cb te:Nat}{w:World}{ns:List Nm}{bk:List Nat}{wh:Nat}{inn:Bool}{f:Cn}{rc:Nat}{fa:Option Addr}{fn fc:Nat}(h:Ew D cb te w ns bk wh inn f rc fa fn fc)(o:Obj):Ew (fun g=>D g\/g=w.heap.size) cb te (w.alloc o) ns bk wh inn f rc fa fn fc:=by
 obtain⟨na,nn,nc,ba,bn,bc,la,ln,lc,ls,h⟩:=h;have hk:∀g,g<w.heap.size->(w.alloc o).heap[g]?=w.heap[g]?:=fun g hg=>Below.heap_alloc _ _ _ hg;have hc:=A4 h.cell;refine⟨na,nn,nc,ba,bn,bc,la,ln,lc,ls,(hk cb hc).trans h.cell,B3 h.names (fun g _ hl=>hk g hl),B3 h.blocks (fun g _ hl=>hk g hl),B3 h.loops (fun g _ hl=>hk g hl),h.lsl,?_,?_,?_,?_,h.Bq,?_⟩
 ·rintro(e|e)
  ·exact h.Gp e
  ·omega
 ·intro g hg;have:=Bs h.names g hg;exact⟨fun e=>by rcases e with e|e;exact(h.Cu g hg).1 e;omega,(h.Cu g hg).2⟩
 ·intro g hg;have:=Bs h.blocks g hg;exact⟨fun e=>by rcases e with e|e;exact(h.G5 g hg).1 e;omega,(h.G5 g hg).2⟩
 ·intro g hg;have:=Bs h.loops g hg;exact⟨fun e=>by rcases e with e|e;exact(h.Iz g hg).1 e;omega,(h.Iz g hg).2⟩
 ·rintro g (e|e)
  ·have:=h.lo g e;simp;omega
  ·simp;omega
theorem Ew.weak{D E:Nat->Prop}{cb te:Nat}{w:World}{ns:List Nm}{bk:List Nat}{wh:Nat}{inn:Bool}{f:Cn}{rc:Nat}{fa:Option Addr}{fn fc:Nat}(h:Ew D cb te w ns bk wh inn f rc fa fn fc)(he:∀g,E g->D g):Ew E cb te w ns bk wh inn f rc fa fn fc:=by
 obtain⟨na,nn,nc,ba,bn,bc,la,ln,lc,ls,h⟩:=h;exact⟨na,nn,nc,ba,bn,bc,la,ln,lc,ls,h.cell,h.names,h.blocks,h.loops,h.lsl,fun e=>h.Gp (he _ e),fun g hg=>⟨fun e=>(h.Cu g hg).1 (he g e),(h.Cu g hg).2⟩,fun g hg=>⟨fun e=>(h.G5 g hg).1 (he g e),(h.G5 g hg).2⟩,fun g hg=>⟨fun e=>(h.Iz g hg).1 (he g e),(h.Iz g hg).2⟩,h.Bq,fun g hg=>h.lo g (he g hg)⟩
theorem Ad3{w:World}{fns:List (Nm×Nat)}{fa:Option Addr}{k:Nat}{s:Nm}{p:Option Addr}(h:Mg w fns fa k s p):(p=none/\decide (s∈(fns.take k).map (·.1))=false)\/((∃pb,p=some ⟨pb,0,none⟩)/\decide (s∈(fns.take k).map (·.1))=true):=by
 rcases h with⟨e,hn⟩|⟨i,hi,pb,pa,pc,hik,e,_,es,_⟩
 ·left;refine⟨e,decide_eq_false (fun hm=>?_)⟩;obtain⟨j,hj,hjk,e2⟩:=A0v.1 hm;exact hn j hjk hj e2
 ·right;exact⟨⟨pb,e⟩,decide_eq_true (A0v.2 ⟨i,hi,hik,es⟩)⟩
theorem A4y(K:CC)(l:A6)(c:BT A6)(hok:Cx (K3 K) c)(D:Nat->Prop)(w:World)(cur:List Nm)(f:Cn)(rc:Nat)(b:Nat)(pa:Option Addr)(pn pc:Nat)(va:Option Addr)(vn vc:Nat)(ks:List Value)
  (hst:K.St D w cur [0] 0 false f rc) (hrc:rc<K.fns.length) (hD:D b) (hblk:w.heap[b]?=some (.cells #[.int .i64 (l.line:Nat),.string ⟨l.s.toArray⟩,.slice pa pn pc,.slice va vn vc] 218 (0,0)))
  (hprm:Co D w 148 2 (.slice pa pn pc) l.ps.length (Kj l.ps)) (hown:Co D w 142 1 (.slice va vn vc) ks.length ks) (hrep:Al D w c ks) (A1:cur.length+l.ps.length+bsize c<=600000) :
  Calls Tryz.prog 234 #[.pointer (some ⟨K.cb,0,none⟩),.pointer (some ⟨b,0,none⟩)] w fun e w'=>e=.returned (.tuple #[])/\K.St D w' cur [0] 0 false (Bp K.fns c cur (Iv l.ps [] (E2 (decide (l.s∈(K.fns.take rc).map (·.1))) 3 l.line f)).1 0 true (Iv l.ps [] (E2 (decide (l.s∈(K.fns.take rc).map (·.1))) 3 l.line f)).2).2 (rc+1)/\A3 D w w':=by
 obtain⟨hlo,lcb,hncb⟩:=hst.lo;have hpn:pn=l.ps.length:=(C8 hprm.1).1;subst hpn;have hcb:K.cb≠b:=fun e=>hncb (by rw[e];exact hD);obtain⟨p,hp⟩:=hst.fr.find l.s rc (by omega);have HNm:=A0 (fun(n:Nat)=>Yj (hst.drewN n).fr rc (by omega) l.s p hp);have hseen:=Ad3 hp;have hcap:=hst.fr.cap;have hlen:=hst.fr.len;have hfew:=hst.fr.Bq;have HSt:=A0 hst;have HBlk:=A0 hblk;have HPrm:=A0 hprm;have HRun:=A0 (fun(W:World) (pcur:List Nm) (g:Cn) (hs:K.St D W (cur++pcur) ([0]++[cur.length]) 0 true g (rc+1)) (hbd:A3 D w W) (hpl:pcur.length<=l.ps.length)=>Z3 K c hok D W cur pcur [0] 0 true g (rc+1) va vn vc ks hs (hown.Bn hbd) (hrep.Bn hbd) (by rw[List.length_append];omega) (by simp;omega) (by omega));obtain⟨na,nn,nc,ba,bn,bc,la,ln,lc,ls,hv⟩:=hst.st;obtain⟨c0,c1,c2,c3,c4,c5,c6,c7,fz,lb⟩:=N6 hv.cell;obtain⟨d0,d1,d2,d3,fd,ld⟩:=Dw hblk;have hcap2:rc<=K.fc:=by omega
 rw[hlen]at c0;have hrl:rc<=K.fns.length:=by omega
 clear hst hblk hprm hown hrep hp hv hcap hlen;generalize hsq:decide (l.s∈(K.fns.take rc).map (·.1))=sq at *;have HSq:=A0 hsq;clear hsq;go_enter Tryz.func234,Tryz.ntmps234;go_wp2;go_quiet ((go_at_call 263;exact Calls.quiet_of_same (HNm.o _)))
 rcases hseen with⟨rfl,hsv⟩|⟨⟨pb,rfl⟩,hsv⟩
 ·have Ak:Hid (K.St D (w.drewN nq) cur [0] 0 false (E2 sq 3 l.line f) rc):=by rw[hsv,Oy];exact HSt.o.drewN nq
  have Aa:=A0 (E6 D w nq);clear c0 c1 c2 c3 c4 c5 c6 c7 fz lb d0 d1 d2 d3 fd ld hsv;generalize w.drewN nq=w2 at *;generalize I9:E2 sq 3 l.line f=f1 at *;have HF1:=A0 I9;clear I9;obtain⟨na2,nn2,nc2,ba2,bn2,bc2,la2,Gq,lc2,ls2,H8⟩:=Ak.o.st;obtain⟨c0,c1,c2,c3,c4,c5,c6,c7,fz,lb⟩:=N6 H8.cell;have HV2:=A0 H8;clear H8;have D6:=(Aa.o.block b hD).trans HBlk.o;obtain⟨d0,d1,d2,d3,fd,ld⟩:=Dw D6;clear D6;go_wp2_with fail
  have hs2c:Ew D K.cb K.te ((w2.setCell ⟨K.cb,1,none⟩ (.int .i64 ((rc:Int)+1))).setCell ⟨K.cb,5,none⟩ (.bool true)) cur [0] 0 true f1 (rc+1) K.fa K.fn K.fc:=by
   refine⟨na2,nn2,nc2,ba2,bn2,bc2,la2,Gq,lc2,ls2,HV2.o.put true f1 (rc+1) (by omega) ?_ (fun g _ hne=>by rw[Below.heap_setCell _ _ _ _ (by exact hne),Below.heap_setCell _ _ _ _ (by exact hne)]) (by simp[World.setCell])⟩;have:=heap_set (j:=5) (heap_set (j:=1) HV2.o.cell (.int .i64 ((rc:Int)+1))) (.bool true);simpa using this
  have hb2c:A3 D w2 ((w2.setCell ⟨K.cb,1,none⟩ (.int .i64 ((rc:Int)+1))).setCell ⟨K.cb,5,none⟩ (.bool true)):=A3.set (p:=⟨K.cb,5,none⟩) (A3.set (p:=⟨K.cb,1,none⟩) (A3.refl _ _) hncb _) hncb _;refine(Rg hs2c (by simp)).mono ?_;rintro e w3 ⟨rfl,Bx,Aj⟩;have At:Hid (A3 D w w3):=Aa.o.trans (hb2c.trans Aj);have Bh:Hid (K.St D w3 cur ([0]++[cur.length]) 0 true f1 (rc+1)):=⟨Bx,HSt.o.fr.keep At.o⟩;clear Bx Aj hs2c hb2c c0 c1 c2 c3 c4 c5 c6 c7 fz lb d0 d1 d2 d3 fd ld HV2 Ak;have Eg:=(At.o.block b hD).trans HBlk.o;obtain⟨d0,d1,d2,d3,fd,ld⟩:=Dw Eg;clear Eg;go_wp2;go_loopg [46] l.ps.length (fun k v wr=>∃(i:Nat) (pcur:List Nm) (fl:Cn),v=.int .i64 i/\i+k=l.ps.length/\pcur.length=i/\K.St D wr (cur++pcur) ([0]++[cur.length]) 0 true fl (rc+1)/\Iv (l.ps.drop i) pcur fl=Iv l.ps [] f1/\A3 D w wr)
  case atStart=>exact⟨0,[],f1,rfl,by omega,rfl,by rw[List.append_nil];exact Bh.o,rfl,At.o⟩
  case round=>
   clear Bh At d0 d1 d2 d3 fd ld Aa;obtain⟨i,pcur,fl,rfl,hik,hpc,hst,hpf,hbel⟩:=hrel;have HStR:=A0 hst;have HPf:=A0 hpf;have HBelR:=A0 hbel;obtain⟨hloR,lcbR,_⟩:=hst.lo;clear hst hpf hbel;by_cases hlt:i<l.ps.length
   ·obtain⟨g,rfl,_,hcapP,lg,hcell⟩:=Gj (HPrm.o.Bn HBelR.o).1 (by omega);obtain⟨q0,q1⟩:=T9 l.ps i hlt;have y0:=hcell _ _ q0;have y1:=hcell _ _ q1;have HStep:=A0 (Yf l.ps i hlt pcur fl);generalize l.ps[i]=pp at *;have HPr:=A0 (HStR.o.st.Xz (.cells #[.int .i64 (pp.1:Nat),.string ⟨pp.2.toArray⟩] 148));have HCell:=A0 (heap_alloc_new wr (.cells #[.int .i64 (pp.1:Nat),.string ⟨pp.2.toArray⟩] 148));clear hcell q0 q1;go_wp2_with fail
    refine(Ur HPr.o pp.1 pp.2).mono ?_;rintro e w5 ⟨rfl,Ck,Cc⟩;have hc5:=(Cc.block wr.heap.size (.inr rfl)).trans HCell.o;obtain⟨z0,z1,fz5,lz⟩:=Io hc5;have Dn:Hid (A3 D wr w5):=A3.trans ((A3.refl D wr).alloc hloR _) (Cc.weak (fun g hg=>.inl hg));obtain⟨na5,nn5,nc5,ba5,bn5,bc5,la5,ln5,lc5,ls5,Ic⟩:=Ck;have lcb5:=A4 Ic.cell;have HV5:=A0 (Ic.keep (w':=w5.drew) (fun _ _=>rfl) (Nat.le_refl _));have Eo:=A0 (Tb HV5.o.L8 (by rw[Nr,List.length_append];omega) ⟨pp.2.toArray⟩ (by simp));clear Cc hc5 Ic y0 y1 HPr;generalize wr.heap.size=tb5 at *;go_wp2;go_region_law (refine Fj rfl 137 _ _ rfl #[.pointer (some ⟨K.cb,2,none⟩),.string ⟨pp.2.toArray⟩] (by kernel_rfl) Eo.o ?_;rintro e w6 ⟨rfl,hp6⟩;refine⟨_,rfl,?_⟩)
    all_goals
     obtain⟨k1,k2⟩:=HV5.o.V0 pp.2 (by rw[List.length_append];omega) hp6;have HS6:=A0 (k1.weak (E:=D) (fun g hg=>.inl hg));have Iu:Hid (A3 D w w6):=HBelR.o.trans (Dn.o.trans (A3.weak (D:=fun g=>D g\/g=tb5) ⟨k2.os,k2.tape,k2.output,k2.size,k2.block⟩ (fun g hg=>.inl hg)));clear k1 k2 hp6 HV5 Eo;go_wp2;go_roundg (gk-1)
     case measure=>omega
     case rel=>
      refine⟨i+1,pcur++[pp.2],_,rfl,by omega,by simp;omega,⟨by rw[←List.append_assoc];exact HS6.o,HSt.o.fr.keep Iu.o⟩,?_,Iu.o⟩;rw[←HPf.o,HStep.o]
   ·have hend:(pcur,fl)=Iv l.ps [] f1:=by rw[←HPf.o,A13 l.ps i (by omega)]
    have HEnd:=A0 hend;have hbkR:=(HBelR.o.block b hD).trans HBlk.o;obtain⟨d0,d1,d2,d3,fd,ld⟩:=Dw hbkR;clear hbkR hend;go_wp2_with fail
    refine(HRun.o wr pcur fl HStR.o HBelR.o (by omega)).mono ?_;rintro e w7 ⟨rfl,G2,Ig⟩;have HS7:=A0 G2;have HB7:Hid (A3 D w w7):=HBelR.o.trans Ig;clear G2 Ig;go_wp2_with fail
    refine(Tm HS7.o.st (by simp)).mono ?_;rintro e w8 ⟨rfl,hs8,hb8⟩;rw[List.take_left]at hs8;have HB8:Hid (A3 D w w8):=HB7.o.trans hb8;obtain⟨na8,nn8,nc8,ba8,bn8,bc8,la8,ln8,lc8,ls8,hv8⟩:=hs8;obtain⟨e0,e1,e2,e3,e4,e5,e6,e7,fe,le⟩:=N6 hv8.cell;have HV8:=A0 hv8;clear hb8 hv8;go_wp2;go_end0;have Ct:A3 D w8 (w8.setCell ⟨K.cb,5,none⟩ (.bool false)):=A3.set (p:=⟨K.cb,5,none⟩) (A3.refl _ _) hncb _;rw[HF1.o,←HEnd.o];refine⟨rfl,⟨⟨na8,nn8,nc8,ba8,bn8,bc8,la8,ln8,lc8,ls8,HV8.o.put false _ (rc+1) HV8.o.Bq.2.2.2 ?_ (fun g _ hne=>Below.heap_setCell _ _ _ _ (by exact hne)) (by simp[World.setCell])⟩,HSt.o.fr.keep (HB8.o.trans Ct)⟩,HB8.o.trans Ct⟩;have:=heap_set (j:=5) HV8.o.cell (.bool false);simpa using this
 ·have A9:=A0 (HSt.o.drewN nq);have A5:=A0 (E6 D w nq);have J6:Hid ((w.drewN nq).heap[b]?=_):=HBlk.o;clear c0 c1 c2 c3 c4 c5 c6 c7 fz lb d0 d1 d2 d3 fd ld;generalize w.drewN nq=w1 at *;obtain⟨d0,d1,d2,d3,fd,ld⟩:=Dw J6.o;subst hsv;go_wp2_with fail
  refine(O7 A9.o.st 3 l.line).mono ?_;rintro e w2 ⟨rfl,Au,A8⟩;have Ak:=A0 (A9.o.next Au A8);have Aa:Hid (A3 D w w2):=A5.o.trans A8;clear Au A8 d0 d1 d2 d3 fd ld A9 A5 J6;generalize I9:E2 true 3 l.line f=f1 at *;have HF1:=A0 I9;clear I9;obtain⟨na2,nn2,nc2,ba2,bn2,bc2,la2,Gq,lc2,ls2,H8⟩:=Ak.o.st;obtain⟨c0,c1,c2,c3,c4,c5,c6,c7,fz,lb⟩:=N6 H8.cell;have HV2:=A0 H8;clear H8;have D6:=(Aa.o.block b hD).trans HBlk.o;obtain⟨d0,d1,d2,d3,fd,ld⟩:=Dw D6;clear D6;go_wp2_with fail
  have hs2c:Ew D K.cb K.te ((w2.setCell ⟨K.cb,1,none⟩ (.int .i64 ((rc:Int)+1))).setCell ⟨K.cb,5,none⟩ (.bool true)) cur [0] 0 true f1 (rc+1) K.fa K.fn K.fc:=by
   refine⟨na2,nn2,nc2,ba2,bn2,bc2,la2,Gq,lc2,ls2,HV2.o.put true f1 (rc+1) (by omega) ?_ (fun g _ hne=>by rw[Below.heap_setCell _ _ _ _ (by exact hne),Below.heap_setCell _ _ _ _ (by exact hne)]) (by simp[World.setCell])⟩;have:=heap_set (j:=5) (heap_set (j:=1) HV2.o.cell (.int .i64 ((rc:Int)+1))) (.bool true);simpa using this
  have hb2c:A3 D w2 ((w2.setCell ⟨K.cb,1,none⟩ (.int .i64 ((rc:Int)+1))).setCell ⟨K.cb,5,none⟩ (.bool true)):=A3.set (p:=⟨K.cb,5,none⟩) (A3.set (p:=⟨K.cb,1,none⟩) (A3.refl _ _) hncb _) hncb _;refine(Rg hs2c (by simp)).mono ?_;rintro e w3 ⟨rfl,Bx,Aj⟩;have At:Hid (A3 D w w3):=Aa.o.trans (hb2c.trans Aj);have Bh:Hid (K.St D w3 cur ([0]++[cur.length]) 0 true f1 (rc+1)):=⟨Bx,HSt.o.fr.keep At.o⟩;clear Bx Aj hs2c hb2c c0 c1 c2 c3 c4 c5 c6 c7 fz lb d0 d1 d2 d3 fd ld HV2 Ak;have Eg:=(At.o.block b hD).trans HBlk.o;obtain⟨d0,d1,d2,d3,fd,ld⟩:=Dw Eg;clear Eg;go_wp2;go_loopg [46] l.ps.length (fun k v wr=>∃(i:Nat) (pcur:List Nm) (fl:Cn),v=.int .i64 i/\i+k=l.ps.length/\pcur.length=i/\K.St D wr (cur++pcur) ([0]++[cur.length]) 0 true fl (rc+1)/\Iv (l.ps.drop i) pcur fl=Iv l.ps [] f1/\A3 D w wr)
  case atStart=>exact⟨0,[],f1,rfl,by omega,rfl,by rw[List.append_nil];exact Bh.o,rfl,At.o⟩
  case round=>
   clear Bh At d0 d1 d2 d3 fd ld Aa;obtain⟨i,pcur,fl,rfl,hik,hpc,hst,hpf,hbel⟩:=hrel;have HStR:=A0 hst;have HPf:=A0 hpf;have HBelR:=A0 hbel;obtain⟨hloR,lcbR,_⟩:=hst.lo;clear hst hpf hbel;by_cases hlt:i<l.ps.length
   ·obtain⟨g,rfl,_,hcapP,lg,hcell⟩:=Gj (HPrm.o.Bn HBelR.o).1 (by omega);obtain⟨q0,q1⟩:=T9 l.ps i hlt;have y0:=hcell _ _ q0;have y1:=hcell _ _ q1;have HStep:=A0 (Yf l.ps i hlt pcur fl);generalize l.ps[i]=pp at *;have HPr:=A0 (HStR.o.st.Xz (.cells #[.int .i64 (pp.1:Nat),.string ⟨pp.2.toArray⟩] 148));have HCell:=A0 (heap_alloc_new wr (.cells #[.int .i64 (pp.1:Nat),.string ⟨pp.2.toArray⟩] 148));clear hcell q0 q1;go_wp2_with fail
    refine(Ur HPr.o pp.1 pp.2).mono ?_;rintro e w5 ⟨rfl,Ck,Cc⟩;have hc5:=(Cc.block wr.heap.size (.inr rfl)).trans HCell.o;obtain⟨z0,z1,fz5,lz⟩:=Io hc5;have Dn:Hid (A3 D wr w5):=A3.trans ((A3.refl D wr).alloc hloR _) (Cc.weak (fun g hg=>.inl hg));obtain⟨na5,nn5,nc5,ba5,bn5,bc5,la5,ln5,lc5,ls5,Ic⟩:=Ck;have lcb5:=A4 Ic.cell;have HV5:=A0 (Ic.keep (w':=w5.drew) (fun _ _=>rfl) (Nat.le_refl _));have Eo:=A0 (Tb HV5.o.L8 (by rw[Nr,List.length_append];omega) ⟨pp.2.toArray⟩ (by simp));clear Cc hc5 Ic y0 y1 HPr;generalize wr.heap.size=tb5 at *;go_wp2;go_region_law (refine Fj rfl 137 _ _ rfl #[.pointer (some ⟨K.cb,2,none⟩),.string ⟨pp.2.toArray⟩] (by kernel_rfl) Eo.o ?_;rintro e w6 ⟨rfl,hp6⟩;refine⟨_,rfl,?_⟩)
    all_goals
     obtain⟨k1,k2⟩:=HV5.o.V0 pp.2 (by rw[List.length_append];omega) hp6;have HS6:=A0 (k1.weak (E:=D) (fun g hg=>.inl hg));have Iu:Hid (A3 D w w6):=HBelR.o.trans (Dn.o.trans (A3.weak (D:=fun g=>D g\/g=tb5) ⟨k2.os,k2.tape,k2.output,k2.size,k2.block⟩ (fun g hg=>.inl hg)));clear k1 k2 hp6 HV5 Eo;go_wp2;go_roundg (gk-1)
     case measure=>omega
     case rel=>
      refine⟨i+1,pcur++[pp.2],_,rfl,by omega,by simp;omega,⟨by rw[←List.append_assoc];exact HS6.o,HSt.o.fr.keep Iu.o⟩,?_,Iu.o⟩;rw[←HPf.o,HStep.o]
   ·have hend:(pcur,fl)=Iv l.ps [] f1:=by rw[←HPf.o,A13 l.ps i (by omega)]
    have HEnd:=A0 hend;have hbkR:=(HBelR.o.block b hD).trans HBlk.o;obtain⟨d0,d1,d2,d3,fd,ld⟩:=Dw hbkR;clear hbkR hend;go_wp2_with fail
    refine(HRun.o wr pcur fl HStR.o HBelR.o (by omega)).mono ?_;rintro e w7 ⟨rfl,G2,Ig⟩;have HS7:=A0 G2;have HB7:Hid (A3 D w w7):=HBelR.o.trans Ig;clear G2 Ig;go_wp2_with fail
    refine(Tm HS7.o.st (by simp)).mono ?_;rintro e w8 ⟨rfl,hs8,hb8⟩;rw[List.take_left]at hs8;have HB8:Hid (A3 D w w8):=HB7.o.trans hb8;obtain⟨na8,nn8,nc8,ba8,bn8,bc8,la8,ln8,lc8,ls8,hv8⟩:=hs8;obtain⟨e0,e1,e2,e3,e4,e5,e6,e7,fe,le⟩:=N6 hv8.cell;have HV8:=A0 hv8;clear hb8 hv8;go_wp2;go_end0;have Ct:A3 D w8 (w8.setCell ⟨K.cb,5,none⟩ (.bool false)):=A3.set (p:=⟨K.cb,5,none⟩) (A3.refl _ _) hncb _;rw[HF1.o,←HEnd.o];refine⟨rfl,⟨⟨na8,nn8,nc8,ba8,bn8,bc8,la8,ln8,lc8,ls8,HV8.o.put false _ (rc+1) HV8.o.Bq.2.2.2 ?_ (fun g _ hne=>Below.heap_setCell _ _ _ _ (by exact hne)) (by simp[World.setCell])⟩,HSt.o.fr.keep (HB8.o.trans Ct)⟩,HB8.o.trans Ct⟩;have:=heap_set (j:=5) HV8.o.cell (.bool false);simpa using this
theorem Wf.top{x y:Nat}{l:A6}{c r:BT A6}(h:Wf 4 (.node x y l c r)):(l.kd=20->Wf 1 c)/\(l.kd≠20->Wf 1 (nd l c)/\((22<=l.kd/\l.kd<=30)\/l.kd=21)):=by
 rcases h.2 with⟨h0,_⟩|⟨h0,_⟩|⟨h0,_⟩|⟨_,h1,h2⟩|⟨_,h1,h2⟩|⟨_,h1,h2⟩|⟨_,h1,h2⟩
 ·omega
 ·omega
 ·omega
 ·exact⟨fun e=>by omega,fun _=>⟨⟨trivial,.inr (.inr (.inr (.inl ⟨.inl rfl,h1,h2⟩)))⟩,by omega⟩⟩
 ·exact⟨fun e=>by omega,fun _=>⟨⟨trivial,.inr (.inr (.inr (.inr (.inl ⟨.inl rfl,h1,h2⟩))))⟩,by omega⟩⟩
 ·refine⟨fun e=>(by rw[e]at h1;cases h1),fun _=>⟨⟨trivial,.inr (.inr (.inr (.inr (.inr (.inl ⟨.inl rfl,h1,h2⟩)))))⟩,?_⟩⟩;unfold Oo at h1;simp only[Bool.or_eq_true,Bool.and_eq_true,decide_eq_true_eq,beq_iff_eq]at h1;omega
 ·exact⟨fun _=>h2,fun e=>absurd h1 e⟩
theorem A99(K:CC)(l:A6)(c:BT A6)(hk:l.kd=20)(hok:Cx (K3 K) c)(D:Nat->Prop)(w:World)(cur:List Nm)(f:Cn)(rc:Nat)(v:Value)(ks:List Value)(hst:K.St D w cur [0] 0 false f rc)(hrc:rc<K.fns.length)(hn:Bo D w l v ks)(hr:Al D w c ks)(A1:cur.length+l.ps.length+bsize c<=600000) :
  Calls Tryz.prog 192 #[.pointer (some ⟨K.cb,0,none⟩),v] w fun e w'=>e=.returned (.tuple #[])/\K.St D w' cur [0] 0 false (Bp K.fns c cur (Iv l.ps [] (E2 (decide (l.s∈(K.fns.take rc).map (·.1))) 3 l.line f)).1 0 true (Iv l.ps [] (E2 (decide (l.s∈(K.fns.take rc).map (·.1))) 3 l.line f)).2).2 (rc+1)/\A3 D w w':=by
 obtain⟨hlo,lcb,hncb⟩:=hst.lo;unfold Bo at hn;rw[if_neg (by omega)]at hn;obtain⟨b,cs,rfl,hD,hb,hl⟩:=hn;have e1:Cb l.kd=143:=by rw[hk];rfl
 have e2:De l.kd=218:=by rw[hk];rfl
 rw[e1];rw[e2]at hb;unfold Cr at hl;simp only[hk]at hl;obtain⟨ps,sl,rfl,ho,hpo⟩:=hl;obtain⟨va,vn,vc,rfl⟩:∃va vn vc,sl=.slice va vn vc:=Nc ho.1;obtain⟨pa,pn,pc,rfl⟩:∃va vn vc,ps=.slice va vn vc:=Nc hpo.1;have HC:=A0 (A4y K l c hok D w cur f rc b pa pn pc va vn vc ks hst hrc hD hb hpo ho hr A1);have ld:=A4 hb;have D8:=fun(v:Value) (w:World)=>Dv (P:=Tryz.prog) (xT:=142) Tryz.underlying143 v w;clear hst hb e1 e2 hk hr ho hpo;unfold C5;go_enter Tryz.func192,Tryz.ntmps192;go_wp2_with fail
 refine HC.o.mono ?_;rintro e w1 ⟨rfl,Ah,A1⟩;have A9:=A0 Ah;have A5:=A0 A1;clear Ah A1;go_wp2;go_end0;exact⟨rfl,A9.o,A5.o⟩
theorem Ahd(K:CC)(c:BT A6)(hwf:Wf 4 c)(hfns:K.fns=Cs c)(D:Nat->Prop)(w:World)(f:Cn)(va:Option Addr)(vn vc:Nat)(ks:List Value)
  (hst:K.St D w [] [0] 0 false f 0) (hown:Co D w 142 1 (.slice va vn vc) ks.length ks) (hrep:Al D w c ks) (A1:bsize c<=400000) :
  Calls Tryz.prog 134 #[.pointer (some ⟨K.cb,0,none⟩),.slice va vn vc] w fun e w'=>e=.returned (.tuple #[])/\(∃cn rc,K.St D w' cn [0] 0 false (Ez K.fns c [] [] f) rc)/\A3 D w w':=by
 have hvn:vn=ks.length:=(C8 hown.1).1;subst hvn;have HSt0:=A0 hst;have HOwn:=A0 hown;have HRep:=A0 hrep;have hlen:=hrep.len;have HLen:=A0 hlen;have hls:=N4 c;have hkl:ks.length<=700000:=by omega
 have HFns:=A0 hfns;have HWf:=A0 hwf;clear hst hown hrep hlen hfns hwf;go_enter Tryz.func134,Tryz.ntmps134;go_wp2;go_loopg [8] ks.length (fun k v wr=>∃(i n:Nat) (cn:List Nm) (fl:Cn),v=.int .i64 i/\i+k=ks.length/\cn.length+bsize (C3 i c)<=bsize c/\K.St D wr cn [0] 0 false fl n/\K.fns.drop n=Cs (C3 i c)/\Ez K.fns (C3 i c) ((K.fns.take n).map (·.1)) cn fl=Ez K.fns c [] [] f/\A3 D w wr)
 case atStart=>exact⟨0,0,[],f,rfl,by omega,by rw[show C3 0 c=c from by cases c <;> rfl];simp,HSt0.o,HFns.o,rfl,A3.refl _ _⟩
 case round=>
  clear HSt0;obtain⟨i,n,cn,fl,rfl,hik,hcn,hst,hdr,hse,hbel⟩:=hrel;have HSt:=A0 hst;have HSe:=A0 hse;have HBel:=A0 hbel;have HDr:=A0 hdr;clear hst hse hbel hdr;by_cases hlt:i<ks.length
  ·have hr:=HRep.o.Bn HBel.o;obtain⟨x,y,l,cc,r,hd,v,ks',hv,hn,hrk⟩:=Al.at' i c ks hr (by rw[←HLen.o];exact hlt);obtain⟨g,rfl,_,hcap,lg,hcell⟩:=Gj (HOwn.o.Bn HBel.o).1 (by omega);have d0:=hcell i v hv;have hdn:=Uh i c;have hsz:bsize (C3 i c)=bsize (nd l cc)+bsize r:=by rw[hd,Cd,bsize]
   have hnds:=Cd l cc;have hds:=Nu i c x y l cc r hd;have HDs:=A0 hds;have hw4:Wf 4 (.node x y l cc r):=by have:=Wf.drop 4 i c HWf.o;rw[hd]at this;exact this
   by_cases h20:l.kd=20
   ·obtain⟨hnl,hnf,hdr',htk⟩:=Aer (HDr.o.trans ((congrArg Cs hd).trans (A2l x y l cc r h20)));have HDr':=A0 hdr';have HC:=A0 (A99 K l cc h20 ((k8 K cc (by omega)).1 (hw4.top.1 h20)) D wr cn fl n v ks' HSt.o hnl hn hrk (by omega));have HNx:=A0 ((congrArg (fun q=>Ez K.fns q ((K.fns.take n).map (·.1)) cn fl) hd).symm.trans HSe.o);have HFn:=A0 (Aju K.fns x y l cc r ((K.fns.take n).map (·.1)) cn fl h20);have HTk:=A0 htk;clear hr hd hv hn hrk hcell hds hw4 hnf hdr' htk;go_wp2_with fail
    refine HC.o.mono ?_;rintro e w1 ⟨rfl,Ah,A1⟩;have A9:=A0 Ah;have A5:Hid (A3 D w w1):=HBel.o.trans A1;clear Ah A1;go_wp2;go_roundg (gk-1)
    case measure=>omega
    case rel=>exact⟨i+1,n+1,cn,_,rfl,by omega,by rw[HDs.o];omega,A9.o,by rw[HDs.o];exact HDr'.o,by rw[HDs.o,HTk.o,←HNx.o,HFn.o],A5.o⟩
   ·have Fs:=(hw4.top.2 h20).1;have HC:=A0 (((k8 K (nd l cc) (by omega)).1 Fs).1 D wr [] cn [] 0 false fl n v ks' HSt.o hn hrk (by simp only[List.nil_append];omega) (by simp only[List.length_nil];omega) (by omega));have hnil:Bp K.fns (.node x y l cc .nil) [] cn 0 false fl=Bp K.fns (nd l cc) [] cn 0 false fl:=Jq K.fns x y l cc [] cn 0 false fl;have hsx:=((congrArg (fun q=>Ez K.fns q ((K.fns.take n).map (·.1)) cn fl) hd).symm.trans HSe.o);rw[Ajr K.fns x y l cc r _ cn fl h20,hnil]at hsx;have HSx:=A0 hsx;have HF2:=A0 ((HDr.o.trans (congrArg Cs hd)).trans (Ys x y l cc r h20));have hcl:=x8 K.fns (nd l cc) [] cn 0 false fl;clear hr hd hv hn hrk hcell hds hw4 Fs hnil hsx;go_wp2_with fail
    refine HC.o.mono ?_;rintro e w1 ⟨rfl,Ah,A1⟩;have A9:=A0 Ah;have A5:Hid (A3 D w w1):=HBel.o.trans A1;clear Ah A1;go_wp2;go_roundg (gk-1)
    case measure=>omega
    case rel=>exact⟨i+1,n,(Bp K.fns (nd l cc) [] cn 0 false fl).1,_,rfl,by omega,by rw[HDs.o];omega,A9.o,by rw[HDs.o];exact HF2.o,by rw[HDs.o];exact HSx.o,A5.o⟩
  ·have HE:Hid (fl=Ez K.fns c [] [] f):=by
    have h0:C3 i c=.nil:=by
     have:Ar (C3 i c)=0:=by rw[Ok,←HLen.o];omega
     cases hd:C3 i c with
     | nil=>rfl
     | node x y l c r=>rw[hd]at this;simp[Ar]at this
    have:=HSe.o;rw[h0]at this;exact this
   go_wp2;go_end0;rw[←HE.o];exact⟨rfl,⟨cn,n,HSt.o⟩,HBel.o⟩
theorem Aa5(K:CC)(c:BT A6)(hwf:Wf 4 c)(hfns:K.fns=Cs c)(D:Nat->Prop)(w:World)(f:Cn)(va:Option Addr)(vn vc:Nat)(ks:List Value)
  (hst:K.St D w [] [] 0 false f 0) (hown:Co D w 142 1 (.slice va vn vc) ks.length ks) (hrep:Al D w c ks) (A1:bsize c<=400000) :
  Calls Tryz.prog 80 #[.pointer (some ⟨K.cb,0,none⟩),.slice va vn vc] w fun e w'=>e=.returned (.tuple #[])/\(∃cn bk rc,K.St D w' cn bk 0 false (Ez K.fns c [] [] f) rc)/\A3 D w w':=by
 have HO:=A0 (Rg hst.st (by simp));have HSt:=A0 hst;have HRun:=A0 (fun(W:World) (hs:K.St D W [] [0] 0 false f 0) (hbd:A3 D w W)=>Ahd K c hwf hfns D W f va vn vc ks hs (hown.Bn hbd) (hrep.Bn hbd) A1);clear hst hown hrep;go_enter Tryz.func80,Tryz.ntmps80;go_wp2_with fail
 refine HO.o.mono ?_;rintro e w1 ⟨rfl,Ah,A1⟩;have A9:=A0 (HSt.o.next Ah A1);have A5:=A0 A1;clear Ah A1;go_wp2_with fail
 refine(HRun.o _ A9.o A5.o).mono ?_;rintro e w2 ⟨rfl,⟨cn,rc,Au⟩,A8⟩;have Ak:=A0 Au;have Aa:Hid (A3 D w w2):=A5.o.trans A8;clear Au A8;go_wp2_with fail
 refine(Tm (bk:=[]) (p:=0) Ak.o.st (Nat.zero_le _)).mono ?_;rintro e w3 ⟨rfl,Bx,Aj⟩;have Bh:=A0 (Ak.o.next Bx Aj);have At:Hid (A3 D w w3):=Aa.o.trans Aj;clear Bx Aj;go_wp2;go_end0;exact⟨rfl,⟨_,_,_,Bh.o⟩,At.o⟩
theorem Al5:(Tryz.prog.info? 143).map (fun i=>(i.zero,i.size,i.bytes))=some (some (.pointer none),1,8):=by kernel_rfl
def Ww(D:Nat->Prop)(w:World)(p:Nm×Nat)(v:Value):Prop:=∃pb pa pc,v=.pointer (some ⟨pb,0,none⟩)/\D pb/\pb<w.heap.size/\w.cell? ⟨pb,1,none⟩=some (.string ⟨p.1.toArray⟩)/\w.cell? ⟨pb,2,none⟩=some (.slice pa p.2 pc)
def A2u(D:Nat->Prop)(c:BT A6)(nk:Nat)(w:World)(k:Nat)(v3 v13:Value)(wr:World):Prop:=
 ∃(i:Nat) (fs:List (Nm×Nat)) (fa:Option Addr) (fn fc:Nat) (ps:List Value),v3=.slice fa fn fc/\v13=.int .i64 i/\i+k=nk/\Cs c=fs++Cs (C3 i c)/\fs.length<=i/\wr.ownsRow 0 143 1 (.slice fa fn fc) ps.length ps/\ps.length=fs.length/\
  (∀j (h:j<fs.length),∃v,ps[j]?=some v/\Ww D w fs[j] v)/\(∀g,(Value.slice fa fn fc).ownBlock=some g->w.heap.size<=g)/\Below w.heap.size w wr
def Af5(D:Nat->Prop)(c:BT A6)(w:World)(e:Ending)(w':World):Prop:=
 ∃fa fn fc,e=.returned (.slice fa fn fc)/\Below w.heap.size w w'/\Ih (fun g=>D g\/(Value.slice fa fn fc).ownBlock=some g) w' (Cs c) fa fn fc/\(∀g,(Value.slice fa fn fc).ownBlock=some g->w.heap.size<=g/\g<w'.heap.size)
theorem A1d{kd:Nat}(h:(22<=kd/\kd<=30)\/kd=21):Cb kd≠143:=by
 have h9:kd=21\/kd=22\/kd=23\/kd=24\/kd=25\/kd=26\/kd=27\/kd=28\/kd=29\/kd=30:=by omega
 rcases h9 with e|e|e|e|e|e|e|e|e|e <;> (subst e;decide)
theorem A2o(c:BT A6)(hwf:Wf 4 c)(D:Nat->Prop)(w:World)(pb:Nat)(va:Option Addr)(vn vc:Nat)(ks:List Value)(hpb:w.heap[pb]?=some (.cells #[.slice va vn vc] 140 (0,0)))
  (hown:Co D w 142 1 (.slice va vn vc) ks.length ks) (hrep:Al D w c ks) (A1:bsize c<=90000) :
  Calls Tryz.prog 52 #[.pointer (some ⟨pb,0,none⟩)] w (Af5 D c w):=by
 have hvn:vn=ks.length:=(C8 hown.1).1;subst hvn;have c0:=A2 hpb 0 _ rfl;have lp:=A4 hpb;have HOwn:=A0 hown;have HRep:=A0 hrep;have hlen:=hrep.len;have HLen:=A0 hlen;have hls:=N4 c;have hkl:ks.length<=90000:=by omega
 have HWf:=A0 hwf;clear hown hrep hlen hwf hpb;go_enter Tryz.func52,Tryz.ntmps52;go_wp2;go_loopg [3,13] ks.length (fun k v3 v13 wr=>A2u D c ks.length w k v3 v13 wr)
 case atStart=>exact⟨0,[],none,0,0,[],rfl,rfl,by omega,rfl,Nat.le_refl _,World.ownsRow_nil _ _ _ _,rfl,fun j h=>by simp at h,by simp[Value.ownBlock],Below.refl _ _⟩
 case round=>
  obtain⟨i,fs,fa,fn,fc,ps,rfl,rfl,hik,hfs,hfl,hro,hpl,hat,hlo,hbel⟩:=hrel;have HFs:=A0 hfs;have HRo:=A0 hro;have HAt:=A0 hat;have HLo:=A0 hlo;have HBel:=A0 hbel;have HPl:=A0 hpl;clear hfs hro hat hlo hbel;by_cases hlt:i<ks.length
  ·obtain⟨x,y,l,cc,r,hd,v,ks',hv,hn,hrk⟩:=Al.at' i c ks HRep.o (by rw[←HLen.o];exact hlt);obtain⟨g,rfl,_,hcap,lg,hcell⟩:=Gj HOwn.o.1 (by omega);have d0:=(World.cell?_of_block (HBel.o.block g lg)).trans (hcell i v hv);have lg2:g<wr.heap.size:=Nat.lt_of_lt_of_le lg HBel.o.size;have hds:=Nu i c x y l cc r hd;have HDs:=A0 hds;have hw4:Wf 4 (.node x y l cc r):=by have:=Wf.drop 4 i c HWf.o;rw[hd]at this;exact this
   by_cases h20:l.kd=20
   ·unfold Bo at hn;rw[if_neg (by omega)]at hn;obtain⟨b,cs,rfl,hD,hb,hl⟩:=hn;have e1:Cb l.kd=143:=by rw[h20];rfl
    rw[e1]at d0;unfold Cr at hl;simp only[h20]at hl;obtain⟨pp,sl,rfl,_,hpo⟩:=hl;obtain⟨pa,pn,pc,rfl⟩:∃va vn vc,pp=.slice va vn vc:=Nc hpo.1;have hpn:pn=l.ps.length:=(C8 hpo.1).1;have HFnA:Hid (Ww D w (l.s,l.ps.length) (.pointer (some ⟨b,0,none⟩))):=by
     refine⟨b,pa,pc,rfl,hD,A4 hb,A2 hb 1 _ rfl,?_⟩;have:=A2 hb 2 _ rfl;rw[hpn]at this;exact this
    have HFx:Hid (Cs c=(fs++[(l.s,l.ps.length)])++Cs (C3 (i+1) c)):=by
     show _=_;rw[HFs.o,hd,A2l x y l cc r h20,hds];simp
    have ta:=fun(v:Value) (w:World)=>Dv (P:=Tryz.prog) (xT:=142) Tryz.underlying143 v w;have hrow:=HRo.o;have hpl2:ps.length<=90000:=by omega
    clear hcell hd hv hrk hds hw4 e1 h20 hb hpo hpn hpl;unfold C5 at d0;go_wp2_with (at_builtin;refine K5 wr #[.pointer (some ⟨b,0,none⟩)] 143 rfl (.tmp 23) (.tmp 25) 129 rfl 0 1 8 (.pointer none) Tryz.underlying129 Al5 rfl (by omega) (.slice fa fn fc) ps.length ps rfl rfl hrow rfl (fun u hu=>by simp at hu;rw[hu];rfl) (by omega) (by omega) (Nat.zero_le _) ?_;intro g2 cap2 w2 hown2 hgrow2 hat2 Gn)
    have hsz:=HBel.o.size;go_roundg (gk-1)
    case measure=>omega
    case rel=>
     refine⟨i+1,fs++[(l.s,l.ps.length)],some ⟨g2,0,none⟩,ps.length+1,cap2,ps++[.pointer (some ⟨b,0,none⟩)],rfl,rfl,by omega,HFx.o,by simp;omega,by simpa using hown2,by simp[HPl.o],?_,?_,?_⟩
     ·intro j hj;by_cases hjl:j<fs.length
      ·obtain⟨v,k1,k2⟩:=HAt.o j hjl;refine⟨v,?_,by rw[List.getElem_append_left hjl];exact k2⟩;rw[List.getElem?_append_left (by rw[HPl.o];exact hjl)];exact k1
      ·have hje:j=fs.length:=by simp at hj;omega
       subst hje;refine⟨_,?_,by rw[List.getElem_append_right (Nat.le_refl _)];simpa using HFnA.o⟩;rw[List.getElem?_append_right (by rw[HPl.o];exact Nat.le_refl _),HPl.o];simp
     ·intro k hk;simp only[Value.ownBlock,Option.some.injEq]at hk;rw[←hk];rcases hat2 with h|h
      ·exact HLo.o g2 h
      ·omega
     ·exact⟨hgrow2.os.trans HBel.o.os,hgrow2.tape.trans HBel.o.tape,hgrow2.output.trans HBel.o.output,Nat.le_trans hsz hgrow2.size,fun k hk=>(hgrow2.block k (by omega) (fun e=>by have:=HLo.o k e.symm;omega)).trans (HBel.o.block k hk)⟩
   ·have hk:=(hw4.top.2 h20).2;unfold Bo at hn;rw[if_neg (by omega)]at hn;obtain⟨b,cs,rfl,hD,hb,hl⟩:=hn;have HFx:Hid (Cs c=fs++Cs (C3 (i+1) c)):=by
     show _=_;rw[HFs.o,hd,Ys x y l cc r h20,hds]
    have hpt:=A1d hk;have ta:=fun(v:Value) (w:World)=>Bc (P:=Tryz.prog) (t:=Cb l.kd) (T:=143) (xT:=142) (z:=.pointer none) Tryz.underlying143 (by kernel_rfl) hpt v w;clear hcell hd hv hrk hds hw4 h20 hb hl hk hpt hpl;generalize Cb l.kd=tt at *;go_wp2;go_roundg (gk-1)
    case measure=>omega
    case rel=>exact⟨i+1,fs,fa,fn,fc,ps,rfl,rfl,by omega,HFx.o,by omega,HRo.o,HPl.o,HAt.o,HLo.o,HBel.o⟩
  ·have hfn:fn=ps.length:=(C8 HRo.o).1;have hcp:=A5t HRo.o;have HE:Hid (Cs c=fs):=by
    show _=_;have h0:C3 i c=.nil:=by
     have:Ar (C3 i c)=0:=by rw[Ok,←HLen.o];omega
     cases hd:C3 i c with
     | nil=>rfl
     | node x y l c r=>rw[hd]at this;simp[Ar]at this
    have:=HFs.o;rw[h0]at this;simpa [Cs]using this
   go_wp2;go_ret;refine⟨fa,fn,fc,rfl,HBel.o,?_,fun g hg=>⟨HLo.o g hg,Bs HRo.o g hg⟩⟩;rw[HE.o];refine⟨by rw[hfn,HPl.o],by omega,by omega,fun j hj=>?_⟩;obtain⟨v,k1,pb',pa,pc,rfl,k2,k3,k4,k5⟩:=HAt.o j hj;obtain⟨g,hfa,_,_,lg,hcell⟩:=Gj HRo.o (by omega);have hsz:=HBel.o.size;refine⟨g,pb',pa,pc,hfa,.inr (by rw[hfa];rfl),lg,hcell j _ k1,.inl k2,by omega,(World.cell?_of_block (HBel.o.block pb' k3)).trans k4,(World.cell?_of_block (HBel.o.block pb' k3)).trans k5⟩
theorem Afb{w:World}{fa:Option Addr}{fn fc:Nat}:Ew (fun g=>g<w.heap.size) w.heap.size 213 (w.alloc (.cells #[.slice fa fn fc,.int .i64 0,.slice none 0 0,.slice none 0 0,.slice none 0 0,.bool false,.int .i64 0,.int .i64 0] 213)) [] [] 0 false (0,0) 0 fa fn fc:=by
 refine⟨none,0,0,none,0,0,none,0,0,[],heap_alloc_new _ _,World.ownsRow_nil _ _ _ _,World.ownsRow_nil _ _ _ _,World.ownsRow_nil _ _ _ _,rfl,by omega,?_,?_,?_,by simp,fun g hg=>by simp;omega⟩;all_goals intro g hg;simp[Value.ownBlock]at hg
theorem Aee(c:BT A6)(hwf:Wf 4 c)(D:Nat->Prop)(w:World)(pb:Nat)(va:Option Addr)(vn vc:Nat)(ks:List Value)(hpb:w.heap[pb]?=some (.cells #[.slice va vn vc] 140 (0,0)))
  (hown:Co D w 142 1 (.slice va vn vc) ks.length ks) (hrep:Al D w c ks) (A1:bsize c<=90000) :
  Calls Tryz.prog 51 #[.pointer (some ⟨pb,0,none⟩)] w fun e w'=>e=.returned (.agg #[.int .i64 ((Ez (Cs c) c [] [] (0,0)).1:Nat),.int .i64 ((Ez (Cs c) c [] [] (0,0)).2:Nat)])/\Below w.heap.size w w':=by
 have lp:=A4 hpb;have hk1:∀g,D g->g<w.heap.size->(w.alloc (.cells #[.int .i64 0,.int .i64 0] 50)).heap[g]?=w.heap[g]?/\(D g/\g<w.heap.size):=fun g hg hl=>⟨Below.heap_alloc _ _ _ hl,hg,hl⟩;have HC:=A0 (A2o c hwf (fun g=>D g/\g<w.heap.size) (w.alloc (.cells #[.int .i64 0,.int .i64 0] 50)) pb va vn vc ks (alloc_old hpb) (hown.keep hk1) (Al.keep hk1 _ _ hrep) A1);have HPb:=A0 hpb;have HOwn:=A0 hown;have HRep:=A0 hrep;have HWf:=A0 hwf;clear hpb hown hrep hwf hk1;go_enter Tryz.func51,Tryz.ntmps51;go_wp2_with fail
 refine HC.o.mono ?_;rintro e w2 ⟨fa,fn,fc,rfl,A8,hfn,hrow⟩;have Ef:=Fq A8 (heap_alloc_new w (.cells #[.int .i64 0,.int .i64 0] 50));have hP2:=Fq A8 (alloc_old (o':=.cells #[.int .i64 0,.int .i64 0] 50) HPb.o);have Aa:Hid (Below w.heap.size w w2):=Below.trans (Below.alloc (Below.refl _ _) (Nat.le_refl _) _) (A8.mono (by simp));have ls2:=A8.size;rw[World.size_alloc]at ls2;have c0:=A2 hP2 0 _ rfl;have lp2:=A4 hP2;have C9:=A0 Ef;have HK:Hid ((⟨w2.heap.size,213,Cs c,fa,fn,fc⟩:CC).St (fun g=>g<w2.heap.size) (w2.alloc (.cells #[.slice fa fn fc,.int .i64 0,.slice none 0 0,.slice none 0 0,.slice none 0 0,.bool false,.int .i64 0,.int .i64 0] 213)) [] [] 0 false (0,0) 0):=by
  refine⟨Afb,?_⟩;have h1:Ih (fun g=>g<w2.heap.size) w2 (Cs c) fa fn fc:=by
   refine⟨hfn.len,hfn.Bq,hfn.cap,fun i hi=>?_⟩;obtain⟨g,pb',pa,pc,e1,_,e3,e4,_,e6,e7,e8⟩:=hfn.at' i hi;exact⟨g,pb',pa,pc,e1,e3,e3,e4,e6,e6,e7,e8⟩
  exact h1.keep ⟨rfl,rfl,rfl,by simp,fun k hk=>Below.heap_alloc _ _ _ hk⟩
 have Cj:∀g,D g->g<w.heap.size->(w2.alloc (.cells #[.slice fa fn fc,.int .i64 0,.slice none 0 0,.slice none 0 0,.slice none 0 0,.bool false,.int .i64 0,.int .i64 0] 213)).heap[g]?=w.heap[g]?/\g<w2.heap.size:=fun g hg hl=>⟨(Below.heap_alloc _ _ _ (by omega)).trans (Aa.o.block g hl),by omega⟩;have HRun:=A0 (Aa5 ⟨w2.heap.size,213,Cs c,fa,fn,fc⟩ c HWf.o rfl _ _ (0,0) va vn vc ks HK.o (HOwn.o.keep Cj) (Al.keep Cj _ _ HRep.o) (by omega));clear A8 hfn hrow Ef hP2 Cj HC HK;go_wp2_with fail
 refine HRun.o.mono ?_;rintro e w3 ⟨rfl,⟨cn,bk,rc,Bx⟩,Aj⟩;obtain⟨na,nn,nc,ba,bn,bc,la,ln,lc,ls,hv⟩:=Bx.st;obtain⟨y0,y1,y2,y3,y4,y5,y6,y7,fy,ly⟩:=N6 hv.cell;have I3:=(Aj.block w.heap.size (by omega)).trans (alloc_old (o':=.cells #[.slice fa fn fc,.int .i64 0,.slice none 0 0,.slice none 0 0,.slice none 0 0,.bool false,.int .i64 0,.int .i64 0] 213) C9.o);obtain⟨z0,z1,fz,lz⟩:=Io I3;have ls3:=Aj.size;rw[World.size_alloc]at ls3;have At:Hid (Below w.heap.size w w3):=⟨Aj.os.trans Aa.o.os,Aj.tape.trans Aa.o.tape,Aj.output.trans Aa.o.output,by omega,fun k hk=>(Aj.block k (by omega)).trans ((Below.heap_alloc _ _ _ (by omega)).trans (Aa.o.block k hk))⟩;clear Bx hv I3 Aj c0;generalize hfl:Ez (Cs c) c [] [] (0,0)=fl at *;have HFl:=A0 hfl;clear hfl;go_wp2;refine bodyPost_ret (v:=.agg #[.int .i64 (fl.1:Nat),.int .i64 (fl.2:Nat)]) (by simp[results,Tryz.results51,go_sem,z0,z1]) rfl ⟨by rw[HFl.o],?_⟩;repeat (first|exact At.o|refine Below.alloc ?_ (by simp;omega) _|refine Below.setCell ?_ (by simp) _|refine Below.drew ?_)
end
end Go.Proofs.YtjdlndhfaaolaaaGreatDoor
