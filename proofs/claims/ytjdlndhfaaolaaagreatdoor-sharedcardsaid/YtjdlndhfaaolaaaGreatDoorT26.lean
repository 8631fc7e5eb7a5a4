import Derived.Test.YtjdlndhfaaolaaaGreatDoorT22
import Derived.Test.YtjdlndhfaaolaaaGreatDoorT25
set_option maxHeartbeats 20000000
namespace Go.Proofs.YtjdlndhfaaolaaaGreatDoor
section
set_option maxRecDepth 100000
open Go.RowKit
open Go.Deep (BT)
theorem A9c{bs:List Nat}{i:Nat}(h:i<bs.length):(Db bs)[i]?=some (.int .i64 (bs[i]:Nat)):=by
 rw[Db,List.getElem?_map,List.getElem?_eq_getElem h];rfl
theorem Ac1(fns:List (Nm×Nat))(gl:List Nm)(line x1 y1 x2 y2:Nat)(l1 l2:A6)(c1 c2:BT A6)(e:Em)(h32:l2.kd=32) :
  M6 line (em fns gl (.node x1 y1 l1 c1 (.node x2 y2 l2 c2 .nil))) e =
   (((((em fns gl c2 0 ((As fns gl l1 (Az c1) (em fns gl c1) e.open').step 7 0 line)).cut (As fns gl l1 (Az c1) (em fns gl c1) e.open').loc.length).step 6 (e.st.length:Nat) 0).land (As fns gl l1 (Az c1) (em fns gl c1) e.open').st.length).Hv
    ((((em fns gl c2 0 ((As fns gl l1 (Az c1) (em fns gl c1) e.open').step 7 0 line)).cut (As fns gl l1 (Az c1) (em fns gl c1) e.open').loc.length).step 6 (e.st.length:Nat) 0).land (As fns gl l1 (Az c1) (em fns gl c1) e.open').st.length).Te).close:=by
 simp[M6,Q5,Ts,p7 h32];rfl
theorem Aqi(K:EC)(l:A6)(c:BT A6)(hk:l.kd=23)(ih:D8 (Py K) c)(hwf:Wf 3 c)(lbs:List Nat)(D:Nat->Prop)(w:World)(e:Em)(b:Nat)(t:TypeId)(x:Value)(s1:Option Addr)(n1 m1:Nat)(hD:D b)
  (hb:w.heap[b]?=some (.cells #[.int .i64 (l.line:Nat),.iface t x,.slice s1 n1 m1] 317 (0,0)))
  (hr:Ao D w c [.iface t x,.slice s1 n1 m1]) (hst:K.St lbs D w e) (hlp:Lp (nd l c) e.lps.length) (hbb:Dk e) (hsz:e.st.length+2*bsize (nd l c)<=800000) (hlo:e.loc.length+bsize (nd l c)<=90000) (hll:e.lps.length+bsize (nd l c)<=90000) :
  Calls Tryz.prog 94 #[.pointer (some ⟨K.wb,0,none⟩),.pointer (some ⟨b,0,none⟩)] w fun r w'=>r=.returned (.tuple #[])/\K.St lbs D w' (As K.fns K.gl l (Az c) (em K.fns K.gl c) e)/\A3 D w w':=by
 obtain⟨hlw,lcb,hncb⟩:=hst.lo;have hnds:=Co l c;rw[k7 hk];have HBk:=A0 hb;have d1:=A2 hb 1 _ rfl;have ld:=A5 hb;obtain⟨x1,y1,l1,c1,r1,De,rfl,Bk,Au,hz⟩:=hr.cons';obtain⟨x2,y2,l2,c2,r2,Gm,rfl,Dm,B7,hzz⟩:=hz.cons';obtain rfl:=hzz.nil';obtain⟨E1,Fp⟩:=hwf.Pj.1 Bk.Qg.2;obtain⟨Cm,Be⟩:=Dm.Oi;obtain⟨h32,_⟩:=hwf.1.Pj.2 Cm;have C1:bsize (.node x1 y1 l1 c1 (.node x2 y2 l2 c2 .nil))=bsize (nd l1 c1)+1+l2.ps.length+bsize c2:=by rw[Co];simp only[bsize];omega
 have hl1:=Gk K.fns K.gl l1 c1 e.open';have hg1:=W9 K.fns K.gl l1 c1 e.open';have Gs:=(Od K.fns K.gl c2).1 ((As K.fns K.gl l1 (Az c1) (em K.fns K.gl c1) e.open').step 7 0 l.line);have Ht:=Rf K.fns K.gl c2 0 ((As K.fns K.gl l1 (Az c1) (em K.fns K.gl c1) e.open').step 7 0 l.line);rw[Dy]at Gs Ht;have C3:e.open'.st.length=e.st.length:=rfl;rw[C3]at hl1 hg1;clear C3;have hsm:=No K.fns K.gl l1 c1 E1 Fp e.open';have hlc1:(As K.fns K.gl l1 (Az c1) (em K.fns K.gl c1) e.open').loc.length<=e.loc.length:=by rw[hsm.2.1];exact Nat.le_refl _
 have HLp1:Hid ((As K.fns K.gl l1 (Az c1) (em K.fns K.gl c1) e.open').lps.length=e.lps.length+1):=by show _=_;rw[hsm.1];rfl
 have hpc2:Lp c2 (e.lps.length+1):=by
  have h1:=hlp.2.1;rw[if_neg z51a]at h1;have h2:=h1.2.2.2.1;rw[if_pos h32]at h2;exact h2
 have HSts:Hid (Gh (em K.fns K.gl c2 0 ((As K.fns K.gl l1 (Az c1) (em K.fns K.gl c1) e.open').step 7 0 l.line))=e.st.length::Gh e):=by
  show _=_;rw[A04];show Gh (As K.fns K.gl l1 (Az c1) (em K.fns K.gl c1) e.open')=_;unfold Gh;rw[hsm.1];rfl
 have HBm1:=A0 (Tq K.fns K.gl l1 c1 e.open' hbb.open');have HBm2:=A0 (Tr K.fns K.gl c2 0 _ (HBm1.o.step 7 0 l.line));rw[Ac1 K.fns K.gl l.line x1 y1 x2 y2 l1 l2 c1 c2 e h32];have HHere:=A0 hst.here;obtain⟨ρ,la,ln,lc,pa,pn,pc,bl,h,hlb⟩:=hst;have hbl:bl.length<=90000:=by have:=h.lps.len;omega
 have h1:=h.alloc (.cells #[.int .i64 (e.st.length:Nat),.slice none 0 0] 263) (5+2*bl.length) z51a;have hbd1:A3 D w (w.alloc (.cells #[.int .i64 (e.st.length:Nat),.slice none 0 0] 263)):=(A3.refl D w).alloc hlw _;have hnew:=heap_alloc_new w (.cells #[.int .i64 (e.st.length:Nat),.slice none 0 0] 263);obtain⟨sa,sn,sc,hv⟩:=h1.ew;have HPu:=A0 (Amb (h1.Pp hv) z54a (some ⟨w.heap.size,0,none⟩) z56a);have HPL:=A0 (fun(w1:World) hp=>h1.Xq e.st.length w.heap.size hv hnew (Hi (Nat.le_refl _)) (w':=w1) hp);rw[hlb]at HPL;have Ia:=A0 (fun(W:World) (hx:K.St (w.heap.size::lbs) D W e.open') (hbd:A3 D w W)=>hx.expr E1 Fp (Bk.Bv hbd) (Au.Bv hbd) (by show e.st.length+_<=_;omega));have Fb:=A0 (fun(W:World) (e2:Em) (hx:K.St (w.heap.size::lbs) D W e2) (hbd:A3 D w W) (h1:e2.st.length+2*bsize c2<=800000) (h2:e2.loc.length+bsize c2<=90000) (h3:e2.lps.length=e.lps.length+1) (h4:Dk e2)=>Sp K c2 (ih.2.1 Cm) (w.heap.size::lbs) D W e2 s1 n1 m1 Gm hx (Be.Bv hbd) (B7.Bv hbd) (by rw[h3];exact hpc2) h4 h1 h2 z51a);have HBd1:=A0 hbd1;clear hb hr hbb Bk Au hz ih hwf hk Dm B7 hzz E1 Fp Cm Be hlp hsm hpc2 h32 h h1 hv hnew hbd1 hlb;generalize Hs:As K.fns K.gl l1 (Az c1) (em K.fns K.gl c1) e.open'=C5 at *;generalize hE2:em K.fns K.gl c2 0 (C5.step 7 0 l.line)=Fh at *;go_enter Tryz.func94,Tryz.ntmps94;go_wp2_with fail
 refine HHere.o.mono ?_;rintro r w ⟨rfl,rfl⟩;go_wp2_with fail
 refine HPu.o.mono ?_;rintro r w1 ⟨rfl,hp⟩;obtain⟨Al,hb1'⟩:=HPL.o w1 hp;have A7:=A0 Al;have A4:Hid (A3 D w w1):=HBd1.o.trans hb1';have Bu:=(A4.o.block b hD).trans HBk.o;clear Al hb1' hp d1 ld;have d1:=A2 Bu 1 _ rfl;have ld:=A5 Bu;clear Bu;go_wp2_with fail
 refine(Ia.o w1 A7.o A4.o).mono ?_;rintro r w2 ⟨rfl,B5,A8⟩;have Aj:=A0 B5;have Aa:Hid (A3 D w w2):=A4.o.trans A8;have Dd:=(Aa.o.block b hD).trans HBk.o;clear B5 A8 ld;clear d1;have d0:w2.cell? ⟨b,0,none⟩=some (.int .i64 (l.line:Nat)):=A2 Dd 0 _ rfl;have ld:=A5 Dd;clear Dd;go_wp2_with fail
 refine(Aj.o.step z51a 7 0 l.line).mono ?_;rintro r w3 ⟨rfl,Ca,Ak⟩;have Bg:=A0 Ca;have Ay:Hid (A3 D w w3):=Aa.o.trans Ak;have Ek:=(Ay.o.block b hD).trans HBk.o;clear Ca Ak ld;clear d0;have d2:=A2 Ek 2 _ rfl;have ld:=A5 Ek;clear Ek;go_wp2_with fail
 refine(Fb.o _ _ Bg.o Ay.o (by rw[Dy];omega) z6va HLp1.o (HBm1.o.step _ _ _)).mono ?_;rintro r w4 ⟨rfl,Fi,Ba⟩;rw[hE2]at Fi;have Er:=A0 Fi;have Cn:Hid (A3 D w w4):=Ay.o.trans Ba;have hbk4:=(Cn.o.block b hD).trans HBk.o;clear Fi Ba ld;clear d2;have ld:=A5 hbk4;clear hbk4;have hq0:(Fh.cut (C5.step 7 0 l.line).loc.length).lps.length≠0:=by
  have:=congrArg List.length HSts.o;simp only[Gh,List.length_map,List.length_cons]at this;show Fh.lps.length≠0;omega
 have Ap:(Fh.cut (C5.step 7 0 l.line).loc.length).lps.length<=90000:=by
  have:=congrArg List.length HSts.o;simp only[Gh,List.length_map,List.length_cons]at this;show Fh.lps.length<=90000;omega
 obtain⟨lb,lr,s,bs,r4,ba,bn,bc,hlbs,hq,llb,hlb4,hown4,rfl,_⟩:=Er.o.top hq0 Ap;injection hlbs with hlb5 hlr5;have Gt:s=e.st.length:=by
  have:=HSts.o;have hq':Fh.lps=(s,bs)::r4:=hq;unfold Gh at this;rw[hq']at this;simp only[List.map_cons,List.cons.injEq]at this;exact this.1
 have G0:r4.length=e.lps.length:=by
  have:=congrArg List.length HSts.o;have hq':Fh.lps=(s,bs)::r4:=hq;unfold Gh at this;rw[hq']at this;simp at this;exact this
 subst Gt;subst hlb5;have g0:=A2 hlb4 0 _ rfl;have HQ:=A0 hq;clear hlb4 hown4 hlr5 hq hq0 Ap llb;go_wp2_with fail
 refine(Er.o.step (by show Fh.st.length<=_;omega) 6 (e.st.length:Nat) 0).mono ?_;rintro r w5 ⟨rfl,Cr,Cl⟩;have Gp:=A0 Cr;have E7:Hid (A3 D w w5):=Cn.o.trans Cl;have hbk5:=(E7.o.block b hD).trans HBk.o;clear Cr Cl ld;clear g0;have ld:=A5 hbk5;clear hbk5;go_wp2_with fail
 refine(Gp.o.land C5.st.length (by rw[Dy,Nn];omega)).mono ?_;rintro r w6 ⟨rfl,Eb,hb6⟩;have HS6:=A0 Eb;have I8:Hid (A3 D w w6):=E7.o.trans hb6;have hbk6:=(I8.o.block b hD).trans HBk.o;clear Eb hb6 ld;have ld:=A5 hbk6;clear hbk6;have HQ6:Hid ((((Fh.cut (C5.step 7 0 l.line).loc.length).step 6 (e.st.length:Nat) 0).land C5.st.length).lps=(e.st.length,bs)::r4):=HQ.o;have HBm6:Hid (Dk (((Fh.cut (C5.step 7 0 l.line).loc.length).step 6 (e.st.length:Nat) 0).land C5.st.length)):=(((HBm2.o.cut _).step _ _ _).land _);have HE6:Hid ((((Fh.cut (C5.step 7 0 l.line).loc.length).step 6 (e.st.length:Nat) 0).land C5.st.length).Te=bs):=by show _=_;unfold Em.Te;rw[HQ6.o]
 have hbs:bs.length<=800000:=by
  have:=(HBm6.o (e.st.length,bs) (by rw[HQ6.o];simp)).1;rw[Jy,Dy,Nn]at this;simp only at this;omega
 generalize hE6:(((Fh.cut (C5.step 7 0 l.line).loc.length).step 6 (e.st.length:Nat) 0).land C5.st.length)=em6 at *;have HE6':=A0 hE6;clear hE6;obtain⟨ρ,la,ln,lc,pa,pn,pc,bl,h6,hlb6⟩:=HS6.o;obtain⟨b2,br,rfl⟩:∃b2 br,bl=b2::br:=by
  cases bl with
  | nil=>simp at hlb6
  | cons b2 br=>exact⟨b2,br,rfl⟩
 obtain⟨lb,ba,bn,bc⟩:=b2;simp only[List.map_cons,List.cons.injEq]at hlb6;obtain⟨hlb7,hlbr⟩:=hlb6;subst hlb7;have hl6:=h6.A1e HQ6.o;have hbn:bn=bs.length:=by have:=(Cg (h6.Xd HQ6.o)).1;rw[this];simp[Db]
 subst hbn;have g1:=A2 hl6 1 _ rfl;have lg:=A5 hl6;have H6:=A0 h6;have HLbr:=A0 hlbr;have hbr:br.length<=90000:=by have:=h6.lps.len;rw[HQ6.o]at this;simp at this;omega
 clear h6 hl6 hlbr;go_wp2;go_loopg [49] bs.length (fun k v wr=>∃(i:Nat) (ρ':Nat->Nat),v=.int .i64 i/\i+k=bs.length/\K.Sv D wr (em6.Hv (bs.take i)) ρ' la ln lc pa pn pc ((w.heap.size,ba,bs.length,bc)::br)/\A3 D w wr)
 case atStart=>exact⟨0,ρ,rfl,by omega,H6.o,I8.o⟩
 case round=>
  clear H6 HS6;obtain⟨i,ρ',rfl,hik,hsv,hbel⟩:=hrel;have HBel:=A0 hbel;have HQi:Hid ((em6.Hv (bs.take i)).lps=(e.st.length,bs)::r4):=(X9 _ _).trans HQ6.o;have hll6:=U0 (bs.take i) em6;clear hbel;by_cases hlt:i<bs.length
  ·obtain⟨g,rfl,hvn9,hcap,lg2,hcell⟩:=G2 (hsv.Xd HQi.o) (by simp[Db];omega);clear hvn9;have d0:=hcell i _ (A9c hlt);have hjl:bs[i]<(em6.Hv (bs.take i)).st.length:=by
    rw[hll6];exact(HBm6.o (e.st.length,bs) (by rw[HQ6.o];simp)).2 _ (List.getElem_mem hlt)
   have HL:=A0 (V4 hsv.ew bs[i] hjl);have HNx:=A0 (Afa bs i hlt em6);have HV:=A0 hsv;clear hcell hsv hjl hll6;generalize bs[i]=jj at *;go_wp2_with fail
   refine HL.o.mono ?_;rintro r w7 ⟨rfl,G5,Ih⟩;obtain⟨k1,k2⟩:=HV.o.Om Ih (HV.o.N8.next (e':=(em6.Hv (bs.take i)).land jj) Ih G5 rfl) rfl;rw[<-HNx.o]at k1;have Hz:=A0 k1;have HB7:Hid (A3 D w w7):=HBel.o.trans k2;clear G5 Ih k1 k2;go_wp2;go_roundg (gk-1)
   case measure=>omega
   case rel=>exact⟨i+1,_,rfl,by omega,Hz.o,HB7.o⟩
  ·obtain rfl:i=bs.length:=by omega
   rw[List.take_length]at hsv;obtain⟨sa,sn,sc,hv⟩:=hsv.ew;have lbw:=A5 hv.cell;have hpl:(((w.heap.size,ba,bs.length,bc)::br:List LB).map fun b=>Ch b.1).reverse.length=br.length+1:=by simp
   have HPo:=A0 (Am7 (hsv.Pp hv) (by rw[hpl];omega) br.length (by rw[hpl];omega) hpl z56a);have HPL:=A0 (fun(w9:World) hp=>hsv.Ahh hv (w':=w9) hp);rw[HLbr.o]at HPL;clear hsv hv hll6;go_wp2_with fail
   refine HPo.o.mono ?_;rintro r w9 ⟨rfl,hp⟩;obtain⟨k1,k2⟩:=HPL.o w9 hp;have Hz:=A0 k1;have Da:Hid (A3 D w w9):=HBel.o.trans k2;clear k1 k2 hp;go_wp2;go_end0;have hE7:(((Fh.cut C5.loc.length).step 6 (e.st.length:Nat) 0).land C5.st.length)=em6:=HE6'.o;rw[hE7,HE6.o];exact⟨rfl,Hz.o,Da.o⟩
theorem Aqf(K:EC)(l:A6)(c:BT A6)(hk:l.kd=23)(ih:D8 (Py K) c)(hwf:Wf 3 c):Kr K l c:=by
 intro lbs D w e v ks hst hn hr hlp hbb hsz hlo hll;obtain⟨hlw,lcb,hncb⟩:=hst.lo;have hnds:=Co l c;unfold Bx at hn;rw[if_neg z51a]at hn;obtain⟨b,cs,rfl,hD,hb,hl⟩:=hn;have e1:Ck l.kd=255:=by rw[hk];rfl
 have e2:Dn l.kd=317:=by rw[hk];rfl
 rw[e1];rw[e2]at hb;unfold Cy at hl;simp only[hk]at hl;obtain⟨t,x,s1,n1,m1,rfl,rfl⟩:=hl;have HC:=A0 (Aqi K l c hk ih hwf lbs D w e b t x s1 n1 m1 hD hb hr hst hlp hbb hsz hlo hll);have ld:=A5 hb;have Dh:=N4 255 z52a;have Dz:=Ov 255 z52a;have Ep:=Ali;clear hst hb e1 e2 hk hr hlp hbb ih hwf;exact z3aa
theorem A4w(K:EC):∀f:BT A6,(Wf 1 f->D8 (Kr K) f)/\(Wf 2 f->D8 (Py K) f)/\(Wf 3 f->D8 (Py K) f):=by
 intro f;induction f with
 | nil=>exact⟨fun _=>trivial,fun _=>trivial,fun _=>trivial⟩
 | node x y l c r Ds D9=>
  obtain⟨i1,i2,i3⟩:=Ds;obtain⟨j1,j2,j3⟩:=D9;refine⟨fun h=>⟨?_,j1 h.1⟩,fun h=>⟨fun hx=>i1 (h.Lf.2 hx).2,j2 h.1⟩,fun h=>⟨fun hx=>i1 (h.Pj.2 hx).2,j3 h.1⟩⟩;rcases h.2 with⟨h0,_⟩|⟨h0,_⟩|⟨h0,_⟩|⟨_,h1,h2⟩|⟨_,h1,h2⟩|⟨_,h1,h2⟩|⟨h0,_⟩
  ·omega
  ·omega
  ·omega
  ·exact Aq9 K l c h1 (i2 h2) h2
  ·exact Aqf K l c h1 (i3 h2) h2
  ·unfold Po at h1;simp only[Bool.or_eq_true,Bool.and_eq_true,decide_eq_true_eq,beq_iff_eq]at h1;have hc:l.kd=21\/l.kd=24\/l.kd=25\/l.kd=26\/l.kd=27\/l.kd=28\/l.kd=29\/l.kd=30:=by omega
   rcases hc with e|e|e|e|e|e|e|e
   ·exact Aqb K l c e h2
   ·exact Aqa K l c e h2
   ·exact Aq6 K l c e
   ·exact Aq7 K l c e
   ·exact Aqc K l c e h2
   ·exact Aqe K l c e h2
   ·exact Aqd K l c e h2
   ·exact Aq8 K l c e h2
  ·omega
end
section
open Go.RowKit
open Go.Deep (BT)
variable {K:EC} {D:Nat->Prop} {w w':World} {e:Em} {ρ:Nat->Nat} {la:Option Addr} {ln lc:Nat} {pa:Option Addr} {pn pc:Nat} {bl:List LB}
theorem Hl.Qj{fs gs ls ps:Value}{slots:Nat}{st:List Af}{wb te:Nat}{sa:Option Addr}{sn sc:Nat}(h:Hl (dX w.heap.size ρ) wb te w fs gs ls ps slots st sa sn sc)(hone:∀g,ρ g=1->g=wb):∀g,(Value.slice sa sn sc).ownBlock=some g->ρ g=4:=by
 intro g hg;have h1:=h.D7 g hg;have h2:=Bs h.own g hg;by_cases e1:ρ g=1
 ·exact absurd (hone g e1) h1.2
 ·by_cases e4:ρ g=4
  ·exact e4
  ·exact absurd ⟨h2,e1,e4⟩ h1.1
theorem z4xa {P:Prop} (h:P:=by
  rw[hρ K.wb hwb z5pa z5pa];exact h.one.1):P:=h
theorem z6ra {P:Prop} (h:P:=by rw[h.pro g hg];omega):P:=h
theorem z6ta {P:Prop} (h:P:=by rw[h.lro g hg];omega):P:=h
theorem EC.Sv.swap(h:K.Sv D w e ρ la ln lc pa pn pc bl){sa:Option Addr}{sn sc:Nat}(hv:Hl (dX w.heap.size ρ) K.wb K.te w (.slice K.fa K.fn K.fc) (.slice K.ga K.gn K.gc) (.slice la ln lc) (.slice pa pn pc) e.slots e.st sa sn sc)
  (D0:Nat->Prop) {ta:Option Addr} {tn tc:Nat} {st':List Af} {slots':Nat} (hrow:w.ownsRow 0 251 8 (.slice ta tn tc) st'.length (El st')) (hT:∀g,(Value.slice ta tn tc).ownBlock=some g->ρ g=0) (hD0:∀g,D0 g->D g/\(Value.slice ta tn tc).ownBlock≠some g)
  (hfr:I7 D0 w K.fns K.fa K.fn K.fc) (hgr:Cz D0 w 9 1 (.slice K.ga K.gn K.gc) K.gl.length (Dg K.gl))
  (hcell:w'.heap[K.wb]?=some (.cells #[.slice K.fa K.fn K.fc,.slice K.ga K.gn K.gc,.slice la ln lc,.slice pa pn pc,.int .i64 (slots':Nat),.slice ta tn tc] K.te (0,0))) (y:Nat) (hy:(ρ y=0/\¬D0 y/\(Value.slice ta tn tc).ownBlock≠some y)\/w.heap.size<=y) (hk:∀g,g<w.heap.size->g≠K.wb->g≠y->w'.heap[g]?=w.heap[g]?) (hs:w.heap.size<=w'.heap.size) (ho:w'.os=w.os) (ht:w'.tape=w.tape) (hu:w'.output=w.output) :
  (∃ρ',K.Sv (fun g=>D0 g\/(Value.slice sa sn sc).ownBlock=some g) w' ⟨e.loc,slots',st',e.lps⟩ ρ' la ln lc pa pn pc bl/\∀g,w.heap.size<=g->ρ' g=4)/\A3 D0 w w':=by
 have hwb:=A5 hv.cell;have h4:=hv.Qj h.one.2;have hyn:∀g,g<w.heap.size->ρ g≠0->g≠y:=by
  intro g hg h1 e;subst e;rcases hy with hy|hy
  ·exact h1 hy.1
  ·omega
 have hbd0:A3 D0 w w':=⟨ho,ht,hu,hs,fun k hk'=>by
  have h1:=h.prot k (hD0 k hk').1;refine hk k h1.1 (fun e=>by have:=h1.2;rw[e,h.one.1]at this;cases this) (fun e=>?_);subst e;rcases hy with hy|hy
  ·exact hy.2.1 hk'
  ·omega⟩
 have hTy:∀g,(Value.slice ta tn tc).ownBlock=some g->g≠y:=by
  intro g hg e;subst e;rcases hy with hy|hy
  ·exact hy.2.2 hg
  ·have:=Bs hrow g hg;omega
 have hne:∀g,ρ g≠0->ρ g≠4->¬(Value.slice ta tn tc).ownBlock=some g/\¬(Value.slice sa sn sc).ownBlock=some g:=fun g h1 h2=>⟨fun e=>h1 (hT g e),fun e=>h2 (h4 g e)⟩;have hρ:∀g,g<w.heap.size->ρ g≠0->ρ g≠4->F3 (fun g=>if(Value.slice ta tn tc).ownBlock=some g then 4 else if(Value.slice sa sn sc).ownBlock=some g then 0 else ρ g) w.heap.size 4 g=ρ g:=by
  intro g hg h1 h2;rw[Br hg,if_neg (hne g h1 h2).1,if_neg (hne g h1 h2).2]
 refine⟨⟨F3 (fun g=>if(Value.slice ta tn tc).ownBlock=some g then 4 else if(Value.slice sa sn sc).ownBlock=some g then 0 else ρ g) w.heap.size 4,⟨⟨ta,tn,tc,hcell,?_,?_,?_,fun g hg=>hg.1⟩,(hfr.keep hbd0).weak (fun g hg=>.inl hg),(hgr.Bv hbd0).weak (fun g hg=>.inl hg),?_,?_,?_,?_,?_,?_,⟨?_,?_⟩,h.Bw⟩,fun g hg=>Hi hg⟩,hbd0⟩
 ·exact B8 hrow (fun g hg hl=>hk g hl (fun e=>by have:=hT g hg;rw[e,h.one.1]at this;cases this) (hTy g hg))
 ·intro hd;apply hd.2.1;exact z4xa
 ·intro g hg;refine⟨fun hd=>hd.2.2 ?_,fun e=>by have:=hT g hg;rw[e,h.one.1]at this;cases this⟩;rw[Br (Bs hrow g hg),if_pos hg]
 ·exact B8 h.lr (fun g hg hl=>hk g hl (fun e=>by have:=h.lro g hg;rw[e,h.one.1]at this;omega) (hyn g hl z6ta))
 ·intro g hg;have:=h.lro g hg;rw[hρ g (Bs h.lr g hg) z51a z51a];exact this
 ·exact B8 h.pr (fun g hg hl=>hk g hl (fun e=>by have:=h.pro g hg;rw[e,h.one.1]at this;omega) (hyn g hl z6ra))
 ·intro g hg;have:=h.pro g hg;rw[hρ g (Bs h.pr g hg) z51a z51a];exact this
 ·exact h.lps.keep bl.length (fun g hl h5 _=>⟨hk g hl (fun e=>by rw[e,h.one.1]at h5;omega) (hyn g hl z51a),hρ g hl z51a z51a⟩) (Nat.le_refl _)
 ·intro g hg;rcases hg with hg|hg
  ·have h1:=hD0 g hg;have h2:=h.prot g h1.1;refine⟨Nat.lt_of_lt_of_le h2.1 hs,?_⟩;rw[Br h2.1,if_neg h1.2,if_neg (fun e=>by have:=h4 g e;omega)];exact h2.2
  ·have h2:=Bs hv.own g hg;refine⟨Nat.lt_of_lt_of_le h2 hs,?_⟩;rw[Br h2,if_neg (fun e=>by have:=hT g e;have:=h4 g hg;omega),if_pos hg]
 ·exact z4xa
 ·intro g hg;by_cases hl:g<w.heap.size
  ·rw[Br hl]at hg;split at hg
   ·cases hg
   ·split at hg
    ·cases hg
    ·exact h.one.2 g hg
  ·rw[Hi z51a]at hg;cases hg
theorem z4ga {P:Prop} (h:P:=by
  show(if X K.wb then 0 else ρ K.wb)=1;rw[hρ _ z5pa];exact h.one.1):P:=h
theorem EC.Sv.more(h:K.Sv D w e ρ la ln lc pa pn pc bl){sa:Option Addr}{sn sc:Nat}(hv:Hl (dX w.heap.size ρ) K.wb K.te w (.slice K.fa K.fn K.fc) (.slice K.ga K.gn K.gc) (.slice la ln lc) (.slice pa pn pc) e.slots e.st sa sn sc)(X:Nat->Prop)
  (hX:∀g,X g->g<w.heap.size/\ρ g=4/\(Value.slice sa sn sc).ownBlock≠some g):∃ρ',K.Sv (fun g=>D g\/X g) w e ρ' la ln lc pa pn pc bl:=by
 classical
 have h4:=hv.Qj h.one.2;have hρ:∀g,ρ g≠4->(if X g then 0 else ρ g)=ρ g:=fun g hg=>if_neg (fun hx=>hg (hX g hx).2.1);refine⟨fun g=>if X g then 0 else ρ g,⟨sa,sn,sc,hv.cell,hv.own,?_,?_,fun g hg=>hg.1⟩,h.fr.weak (fun g hg=>.inl hg),h.gr.weak (fun g hg=>.inl hg),h.lr,?_,h.pr,?_,?_,?_,⟨?_,?_⟩,h.Bw⟩
 ·intro hd;apply hd.2.1;exact z4ga
 ·intro g hg;refine⟨fun hd=>hd.2.2 ?_,(hv.D7 g hg).2⟩;show(if X g then 0 else ρ g)=4;rw[if_neg (fun hx=>(hX g hx).2.2 hg)];exact h4 g hg
 ·intro g hg;have:=h.lro g hg;show(if X g then 0 else ρ g)=2;rw[hρ _ z51a];exact this
 ·intro g hg;have:=h.pro g hg;show(if X g then 0 else ρ g)=3;rw[hρ _ z51a];exact this
 ·exact h.lps.keep bl.length (fun g _ h5 _=>⟨rfl,by show(if X g then 0 else ρ g)=ρ g;by_cases h4':ρ g=4 <;> first|omega|exact hρ g h4'⟩) (Nat.le_refl _)
 ·intro g hg;show _/\(if X g then 0 else ρ g)=0;rcases hg with hg|hg
  ·have:=h.prot g hg;refine⟨this.1,?_⟩;rw[hρ _ z51a];exact this.2
  ·exact⟨(hX g hg).1,if_pos hg⟩
 ·exact z4ga
 ·intro g hg;have hg:(if X g then 0 else ρ g)=1:=hg;split at hg
  ·cases hg
  ·exact h.one.2 g hg
theorem EC.St.alloc{lbs:List Nat}(h:K.St lbs D w e)(o:Obj):K.St lbs D (w.alloc o) e:=by
 obtain⟨ρ,la,ln,lc,pa,pn,pc,bl,h,hlb⟩:=h;exact⟨_,_,_,_,_,_,_,_,h.alloc o 5 (Nat.le_refl _),hlb⟩
theorem Qs(w:World)(a:Addr)(v:Value):(w.setCell a v).os=w.os:=rfl
theorem A77(w:World)(o:Obj):(w.alloc o).os=w.os:=rfl
theorem Abj(w:World):w.drew.os=w.os:=rfl
theorem Qu(w:World)(a:Addr)(v:Value):(w.setCell a v).tape=w.tape:=rfl
theorem A79(w:World)(o:Obj):(w.alloc o).tape=w.tape:=rfl
theorem Abl(w:World):w.drew.tape=w.tape:=rfl
theorem Qt(w:World)(a:Addr)(v:Value):(w.setCell a v).output=w.output:=rfl
theorem A78(w:World)(o:Obj):(w.alloc o).output=w.output:=rfl
theorem Abk(w:World):w.drew.output=w.output:=rfl
theorem W7(w:World):w.drew.heap=w.heap:=rfl
theorem z6ha {P:Prop} (h:P:=by exact fun e=>hrbw e.symm):P:=h
theorem Apr{D2:Nat->Prop}(h:K.Sv D2 w e ρ la ln lc pa pn pc []){sb:Option Addr}{sm sd:Nat}(hv:Hl (dX w.heap.size ρ) K.wb K.te w (.slice K.fa K.fn K.fc) (.slice K.ga K.gn K.gc) (.slice la ln lc) (.slice pa pn pc) e.slots e.st sb sm sd)(rb:Nat){slots:Nat}{st:List Af}{sa:Option Addr}{sn sc:Nat}
  (hrow:w.ownsRow 0 251 8 (.slice sa sn sc) st.length (El st)) (hS2:∀g,(Value.slice sa sn sc).ownBlock=some g->D2 g) (hSD:∀g,(Value.slice sa sn sc).ownBlock=some g->¬D g) (Iz:∀g,D g->D2 g) (hrb:D2 rb) (hrbD:¬D rb) (hrbS:(Value.slice sa sn sc).ownBlock≠some rb)
  (hfr:I7 D w K.fns K.fa K.fn K.fc) (hgr:Cz D w 9 1 (.slice K.ga K.gn K.gc) K.gl.length (Dg K.gl)) (v0 v1 v2 v3:Value) (o:Obj) (W:World)
  (hW:W=(((((((w.setCell ⟨K.wb,4,none⟩ (.int .i64 (slots:Nat))).setCell ⟨K.wb,5,none⟩ (.slice sa sn sc)).setCell ⟨rb,0,none⟩ v0).setCell ⟨rb,1,none⟩ v1).setCell ⟨rb,2,none⟩ v2).setCell ⟨rb,3,none⟩ v3).alloc o).drew) :
  W.ownsRow 0 251 8 (.slice sb sm sd) e.st.length (El e.st)/\K.St [] (fun g=>D g\/(Value.slice sb sm sd).ownBlock=some g) W ⟨e.loc,slots,st,e.lps⟩/\A3 D w W:=by
 have hwb:=A5 hv.cell;have hrbw:rb≠K.wb:=fun e=>by have:=(h.prot rb hrb).2;rw[e,h.one.1]at this;cases this
 have hrl:=(h.prot rb hrb).1;have hsz:W.heap.size=w.heap.size+1:=by rw[hW,W7];simp[World.setCell]
 have hk:∀g,g<w.heap.size->g≠K.wb->g≠rb->W.heap[g]?=w.heap[g]?:=by
  intro g hg h1 h2;rw[hW,W7,Below.heap_alloc _ _ _ (by simp[World.setCell];exact hg),Below.heap_setCell _ _ _ _ (by exact h2),Below.heap_setCell _ _ _ _ (by exact h2),Below.heap_setCell _ _ _ _ (by exact h2),Below.heap_setCell _ _ _ _ (by exact h2),Below.heap_setCell _ _ _ _ (by exact h1),Below.heap_setCell _ _ _ _ (by exact h1)]
 have hcell:W.heap[K.wb]?=some (.cells #[.slice K.fa K.fn K.fc,.slice K.ga K.gn K.gc,.slice la ln lc,.slice pa pn pc,.int .i64 (slots:Nat),.slice sa sn sc] K.te (0,0)):=by
  rw[hW,W7,Below.heap_alloc _ _ _ (by simp[World.setCell];exact hwb),Below.heap_setCell _ _ _ _ z6ha,Below.heap_setCell _ _ _ _ z6ha,Below.heap_setCell _ _ _ _ z6ha,Below.heap_setCell _ _ _ _ z6ha];have:=heap_set (j:=5) (heap_set (j:=4) hv.cell (.int .i64 (slots:Nat))) (.slice sa sn sc);rw[this];simp
 obtain⟨⟨ρ9,h9,_⟩,D1⟩:=h.swap hv D hrow (fun g hg=>(h.prot g (hS2 g hg)).2) (fun g hg=>⟨Iz g hg,fun e=>hSD g e hg⟩) hfr hgr hcell rb (.inl ⟨(h.prot rb hrb).2,hrbD,hrbS⟩) hk z51a (by simp only[hW,Abj,A77,Qs]) (by simp only[hW,Abl,A79,Qu]) (by simp only[hW,Abk,A78,Qt]);have h4:=hv.Qj h.one.2;refine⟨B8 hv.own (fun g hg hl=>hk g hl (hv.D7 g hg).2 (fun e=>?_)),⟨_,_,_,_,_,_,_,_,h9,rfl⟩,D1⟩;have h1:=h4 g hg;rw[e,(h.prot rb hrb).2]at h1;cases h1
end
section
set_option maxRecDepth 100000
open Go.RowKit
open Go.Deep (BT)
theorem Aps(K:EC)(l:A6)(c:BT A6)(hwf:Wf 1 c)(hlp:Lp c 0)(D:Nat->Prop)(w:World)(slots:Nat)(st:List Af)(b:Nat)(pa:Option Addr)(pn pc:Nat)(va:Option Addr)(vn vc:Nat)(ks:List Value)
  (hst:K.St [] D w ⟨[],slots,st,[]⟩) (hD:D b) (hblk:w.heap[b]?=some (.cells #[.int .i64 (l.line:Nat),.string ⟨l.s.toArray⟩,.slice pa pn pc,.slice va vn vc] 218 (0,0)))
  (hprm:Cz D w 148 2 (.slice pa pn pc) l.ps.length (Ki l.ps)) (hown:Cz D w 142 1 (.slice va vn vc) ks.length ks) (hrep:Ao D w c ks) (A1:l.ps.length+bsize c<=80000) :
  Calls Tryz.prog 53 #[.pointer (some ⟨K.wb,0,none⟩),.pointer (some ⟨b,0,none⟩)] w fun r w'=>∃sa sn sc,r=.returned (.agg #[.string ⟨l.s.toArray⟩,.int .i64 (l.ps.length:Nat),.int .i64 ((My K.fns K.gl l c).slots:Nat),.slice sa sn sc])/\
   w'.ownsRow 0 251 8 (.slice sa sn sc) (My K.fns K.gl l c).steps.length (El (My K.fns K.gl l c).steps)/\(∀g,(Value.slice sa sn sc).ownBlock=some g->¬D g)/\K.St [] (fun g=>D g\/(Value.slice sa sn sc).ownBlock=some g) w' ⟨[],slots,st,[]⟩/\A3 D w w':=by
 obtain⟨hlw,lcb,hncb⟩:=hst.lo;have hpn:pn=l.ps.length:=(Cg hprm.1).1;subst hpn;obtain⟨ρ,la,ln,lc,qa,qn,qc,bl,h,hlb⟩:=hst;obtain⟨sa,sn,sc,hv⟩:=h.ew;obtain⟨c0,c1,c2,c3,c4,c5,fz,lb⟩:=Td hv.cell;obtain⟨d0,d1,d2,d3,fd,ld⟩:=E4 hblk;have hwbb:K.wb≠b:=fun e=>hncb (by rw[e];exact hD);obtain⟨w0,D5⟩:∃w0,w0=(((w.setCell ⟨K.wb,4,none⟩ (.int .i64 0)).setCell ⟨K.wb,5,none⟩ (.slice none 0 0)).alloc (.cells #[.string ⟨#[]⟩,.int .i64 0,.int .i64 0,.slice none 0 0] 103)).alloc (.cells #[.int .i64 (slots:Nat),.slice sa sn sc] 98):=⟨_,rfl⟩;have hk0:∀g,g<w.heap.size->g≠K.wb->w0.heap[g]?=w.heap[g]?:=by
  intro g hg hne;rw[D5,Below.heap_alloc _ _ _ z55a,Below.heap_alloc _ _ _ z55a,Below.heap_setCell _ _ _ _ z5sa,Below.heap_setCell _ _ _ _ z5sa]
 have hc0:w0.heap[K.wb]?=some (.cells #[.slice K.fa K.fn K.fc,.slice K.ga K.gn K.gc,.slice la ln lc,.slice qa qn qc,.int .i64 ((0:Nat):Int),.slice none 0 0] K.te (0,0)):=by
  rw[D5,Below.heap_alloc _ _ _ z55a,Below.heap_alloc _ _ _ z55a];have:=heap_set (j:=5) (heap_set (j:=4) hv.cell (.int .i64 0)) (.slice none 0 0);rw[this];simp
 have Gt:w0.heap.size=w.heap.size+2:=by rw[D5];simp[World.setCell]
 have hR0:w0.heap[w.heap.size]?=some (.cells #[.string ⟨#[]⟩,.int .i64 0,.int .i64 0,.slice none 0 0] 103 (0,0)):=by
  rw[D5,Below.heap_alloc _ _ _ z5fa];have:=heap_alloc_new ((w.setCell ⟨K.wb,4,none⟩ (.int .i64 0)).setCell ⟨K.wb,5,none⟩ (.slice none 0 0)) (.cells #[.string ⟨#[]⟩,.int .i64 0,.int .i64 0,.slice none 0 0] 103);simpa [World.setCell]using this
 have hO0:w0.heap[w.heap.size+1]?=some (.cells #[.int .i64 (slots:Nat),.slice sa sn sc] 98 (0,0)):=by
  rw[D5];have:=heap_alloc_new (((w.setCell ⟨K.wb,4,none⟩ (.int .i64 0)).setCell ⟨K.wb,5,none⟩ (.slice none 0 0)).alloc (.cells #[.string ⟨#[]⟩,.int .i64 0,.int .i64 0,.slice none 0 0] 103)) (.cells #[.int .i64 (slots:Nat),.slice sa sn sc] 98);simpa [World.setCell]using this
 obtain⟨⟨ρ1,h1,Bk⟩,hbd0⟩:=h.swap hv D (World.ownsRow_nil w 0 251 8) (st':=[]) (slots':=0) (fun g hg=>by simp[Value.ownBlock]at hg) (fun g hg=>⟨hg,by simp[Value.ownBlock]⟩) h.fr h.gr hc0 w.heap.size (.inr (Nat.le_refl _)) (fun g h1 h2 _=>hk0 g h1 h2) z51a (by rw[D5];rfl) (by rw[D5];rfl) (by rw[D5];rfl);obtain⟨sa1,sn1,sc1,G6⟩:=h1.ew;have hc0':=G6.cell.symm.trans hc0;simp only[Option.some.injEq,Obj.cells.injEq,Array.mk.injEq,List.cons.injEq,Value.slice.injEq]at hc0';obtain⟨⟨_,_,_,_,_,⟨rfl,rfl,rfl⟩,_⟩,_⟩:=hc0';obtain⟨ρ2,h2⟩:=h1.more G6 (fun g=>g=w.heap.size\/g=w.heap.size+1) (fun g hg=>⟨by omega,Bk g z51a,by simp[Value.ownBlock]⟩);have hblE:bl=[]:=by cases bl with
  | nil=>rfl
  | cons x y=>simp at hlb
 subst hblE;have Aq:Hid (K.St [] (fun g=>(D g\/(Value.slice sa sn sc).ownBlock=some g)\/(g=w.heap.size\/g=w.heap.size+1)) w0 ⟨[],0,[],[]⟩):=⟨_,_,_,_,_,_,_,_,h2,rfl⟩;have Ah:=A0 hbd0;have hSD:∀g,(Value.slice sa sn sc).ownBlock=some g->¬D g:=fun g hg hd=>(hv.D7 g hg).1 (h.dx g hd);have HSD:=A0 hSD;have HOwnS:Hid (w0.ownsRow 0 251 8 (.slice sa sn sc) st.length (El st)):=B8 hv.own (fun g hg hl=>hk0 g hl (hv.D7 g hg).2);have HOwnS0:=A0 hv.own;have HFr:=A0 h.fr;have HGr:=A0 h.gr;have HR0:=A0 hR0;have HO0:=A0 hO0;have HBlk:=A0 hblk;have HPrm:=A0 hprm;have HRun:=A0 (fun(W:World) (e2:Em) (hx:K.St [] (fun g=>(D g\/(Value.slice sa sn sc).ownBlock=some g)\/(g=w.heap.size\/g=w.heap.size+1)) W e2) (hbd:A3 D w W) (h1:e2.lps=[]) (h2:e2.st=[]) (h3:e2.loc.length<=l.ps.length)=>A4x K c ((A4w K c).1 hwf) [] _ W e2 va vn vc ks hx ((hown.Bv hbd).weak (fun g hg=>.inl (.inl hg))) (Ao.keep (fun g hg _=>⟨rfl,.inl (.inl hg)⟩) _ _ (hrep.Bv hbd)) (by rw[h1];exact hlp) (fun x hx=>by rw[h1]at hx;cases hx) (by rw[h2];simp;omega) z51a (by rw[h1];simp;omega));have An:=A0 D5;have hsw0:=Gt;have HD3:=A0 d3;clear hblk hprm hown hrep h hv h1 G6 h2 Bk hk0 hc0 hR0 hO0 Gt D5 hSD hbd0 hlb;go_enter Tryz.func53,Tryz.ntmps53;go_wp2;rw[<-An.o];clear An c0 c1 c2 c3 c4 c5 fz lb d0 d1 d2 d3 fd ld;go_loopg [22] l.ps.length (fun k v wr=>∃(i:Nat),v=.int .i64 i/\i+k=l.ps.length/\K.St [] (fun g=>(D g\/(Value.slice sa sn sc).ownBlock=some g)\/(g=w.heap.size\/g=w.heap.size+1)) wr ⟨(l.ps.take i).map Prod.snd,i,[],[]⟩/\A3 (fun g=>(D g\/(Value.slice sa sn sc).ownBlock=some g)\/(g=w.heap.size\/g=w.heap.size+1)) w0 wr)
 case atStart=>exact⟨0,rfl,by omega,Aq.o,A3.refl _ _⟩
 case round=>
  clear Aq;obtain⟨i,rfl,hik,hst,hbel⟩:=hrel;have HSt:=A0 hst;have HBel:=A0 hbel;have HBD:Hid (A3 D w wr):=Ah.o.trans (hbel.weak (fun g hg=>.inl (.inl hg)));clear hst hbel;by_cases hlt:i<l.ps.length
  ·obtain⟨g,rfl,hvn9,hcap,lg,hcell⟩:=G2 (HPrm.o.Bv HBD.o).1 z51a;clear hvn9;have p0:=hcell (i*2) _ (Ub l.ps i hlt).1;have p1:=hcell (i*2+1) _ (Ub l.ps i hlt).2;have hnm:(⟨(l.ps.take i).map Prod.snd,i,[],[]⟩:Em).local' l.ps[i].2=⟨(l.ps.take (i+1)).map Prod.snd,i+1,[],[]⟩:=by
    unfold Em.local';simp only[List.take_succ_eq_append_getElem hlt,List.map_append,List.map_cons,List.map_nil,List.length_map,List.length_take];congr 1
    omega
   have HNm:=A0 hnm;have HLoc:=A0 (fun(o:Obj)=>A4t (HSt.o.alloc o) z54a l.ps[i].2);have hlo9:=HSt.o.lo.1;clear hcell hnm;have HLo9:=A0 hlo9;clear hlo9;generalize l.ps[i]=prm at *;go_wp2_with fail
   refine(HLoc.o _).mono ?_;rintro r w7 ⟨rfl,G5,Ih⟩;rw[HNm.o]at G5;have HS7:=A0 G5;have HB7:=A0 (HBel.o.trans (((A3.refl _ wr).alloc HLo9.o _).trans Ih));clear G5 Ih;go_wp2;go_roundg (gk-1)
   case measure=>omega
   case rel=>exact⟨i+1,rfl,by omega,HS7.o,HB7.o⟩
  ·obtain rfl:i=l.ps.length:=by omega
   rw[List.take_length]at HSt;have hbk9:=(HBD.o.block b hD).trans HBlk.o;have d3:=A2 hbk9 3 _ rfl;have ld:=A5 hbk9;clear hbk9;go_wp2_with fail
   refine(HRun.o _ _ HSt.o HBD.o rfl rfl z56a).mono ?_;rintro r w1 ⟨rfl,Al,A1⟩;have A7:=A0 Al;have A4:=A0 (HBel.o.trans A1);have hln1:=(Od K.fns K.gl c).1 ⟨l.ps.map Prod.snd,l.ps.length,[],[]⟩;simp only[List.length_nil,Nat.zero_add]at hln1;clear Al A1 d3 ld;generalize Hs:em K.fns K.gl c 0 ⟨l.ps.map Prod.snd,l.ps.length,[],[]⟩=C5 at *;go_wp2_with fail
   refine(A7.o.step z51a 43 0 0).mono ?_;rintro r w2 ⟨rfl,B5,A8⟩;have Aa:=A0 (A4.o.trans A8);have hlb2:=B5.lo.2.1;obtain⟨ρ3,la3,ln3,lc3,pa3,pn3,pc3,bl3,h3,hlb3⟩:=B5;obtain⟨sa3,sn3,sc3,hv3⟩:=h3.ew;have HCut:=A0 (Y2 (h3.Ll hv3) 0 (Nat.zero_le _) z56a);have HTo:=A0 (fun(w9:World) hp=>h3.Zy 0 hv3 (w':=w9) hp);rw[hlb3]at HTo;clear h3 hv3 A8;go_wp2_with fail
   refine HCut.o.mono ?_;rintro r w3 ⟨rfl,hp⟩;obtain⟨k1,k2⟩:=HTo.o w3 hp;have Ay:=A0 (Aa.o.trans k2);obtain⟨ρ4,la4,ln4,lc4,pa4,pn4,pc4,bl4,h4,hlb4⟩:=k1;obtain⟨sa4,sn4,sc4,hv4⟩:=h4.ew;have hbl4:bl4=[]:=by cases bl4 with
    | nil=>rfl
    | cons x y=>simp at hlb4
   subst hbl4;obtain⟨c0,c1,c2,c3,c4,c5,fz,lb⟩:=Td hv4.cell;have HBD3:Hid (A3 D w w3):=Ah.o.trans (Ay.o.weak (fun g hg=>.inl (.inl hg)));have Ek:=(HBD3.o.block b hD).trans HBlk.o;obtain⟨d0,d1,d2,d3,fd,ld⟩:=E4 Ek;have hO3:=(Ay.o.block (w.heap.size+1) (.inr (.inr rfl))).trans HO0.o;have o0:=A2 hO3 0 _ rfl;have o1:=A2 hO3 1 _ rfl;have lo:=A5 hO3;have I4:=(Ay.o.block w.heap.size (.inr (.inl rfl))).trans HR0.o;obtain⟨r0,r1,r2,r3,fr,lr⟩:=E4 I4;have hle4:((C5.step 43 0 0).cut 0).lps=[]:=by have:=h4.lps.len;exact List.length_eq_zero_iff.1 this.symm
   have hend:=fun v0 v1 v2 v3 o W=>Apr (D:=D) (slots:=slots) h4 hv4 w.heap.size (B8 HOwnS.o (fun g hg _=>Ay.o.block g (.inl (.inr hg)))) (fun g hg=>.inl (.inr hg)) HSD.o (fun g hg=>.inl (.inl hg)) (.inr (.inl rfl)) (fun hd=>by have:=hlw _ hd;omega) (fun e=>by have:=Bs HOwnS0.o _ e;omega) (HFr.o.keep HBD3.o) (HGr.o.Bv HBD3.o) v0 v1 v2 v3 o W;have hemF:My K.fns K.gl l c=⟨l.s,l.ps.length,((C5.step 43 0 0).cut 0).slots,((C5.step 43 0 0).cut 0).st⟩:=by unfold My;rw[Hs];rfl
   rw[hle4,show((C5.step 43 0 0).cut 0).loc=[] from rfl]at hend;have HEnd:=A0 hend;have HSn:Hid (∀g,(Value.slice sa4 sn4 sc4).ownBlock=some g->¬D g):=fun g hg hd=>(hv4.D7 g hg).1 (h4.dx g (.inl (.inl hd)));have HEmF:=A0 hemF;clear hp k2 hend hle4 hemF HCut HTo Ek hO3 I4 h4 hv4 hlb4;go_wp2;go_region
   all_goals go_wp2
   all_goals
    refine bodyPost_ret (v:=.agg #[.string ⟨l.s.toArray⟩,.int .i64 (l.ps.length:Nat),.int .i64 (((C5.step 43 0 0).cut 0).slots:Nat),.slice sa4 sn4 sc4]) (by simp[results,Tryz.results53,go_sem,lr,r0,r1,r2,r3]) rfl ?_;rw[HEmF.o];obtain⟨q1,q2,q3⟩:=HEnd.o _ _ _ _ _ _ rfl;exact⟨sa4,sn4,sc4,rfl,q1,HSn.o,q2,HBD3.o.trans q3⟩
end
section
open Go.RowKit
open Go.Deep (BT)
variable {K:EC} {D:Nat->Prop} {w w':World} {e:Em} {ρ:Nat->Nat} {la:Option Addr} {ln lc:Nat} {pa:Option Addr} {pn pc:Nat} {bl:List LB}
theorem Adz:(Tryz.prog.info? 103).map (fun i=>(i.zero,i.size,i.bytes))=some (some (.agg #[.string ⟨#[]⟩,.int .i64 0,.int .i64 0,.slice none 0 0]),4,56):=by kernel_rfl
def Ls(D:Nat->Prop)(w:World):List Fn->List Value->Prop
 | [],cs=>cs=[]
 | f::r,cs=>∃sa sn sc rest,cs=L6 f.name::.int .i64 (f.params:Nat)::.int .i64 (f.slots:Nat)::.slice sa sn sc::rest/\Cz D w 251 8 (.slice sa sn sc) f.steps.length (El f.steps)/\Ls D w r rest
theorem Ls.keep{D':Nat->Prop}(hk:∀g,D g->g<w.heap.size->w'.heap[g]?=w.heap[g]?/\D' g):∀{fs:List Fn} {cs:List Value},Ls D w fs cs->Ls D' w' fs cs:=by
 intro fs;induction fs with
 | nil=>intro cs h;exact h
 | cons f r ih=>
  intro cs h;obtain⟨sa,sn,sc,rest,e1,h1,h2⟩:=h;exact⟨sa,sn,sc,rest,e1,h1.keep hk,ih h2⟩
theorem Ls.app:∀{fs:List Fn} {cs:List Value},Ls D w fs cs->∀{f:Fn} {sa:Option Addr} {sn sc:Nat},Cz D w 251 8 (.slice sa sn sc) f.steps.length (El f.steps)->Ls D w (fs++[f]) (cs++[L6 f.name,.int .i64 (f.params:Nat),.int .i64 (f.slots:Nat),.slice sa sn sc]):=by
 intro fs;induction fs with
 | nil=>intro cs h f sa sn sc ho;rw[Ls]at h;subst h;exact⟨sa,sn,sc,[],rfl,ho,rfl⟩
 | cons g r ih=>
  intro cs h f sa sn sc ho;obtain⟨ta,tn,tc,rest,rfl,h1,h2⟩:=h;exact⟨ta,tn,tc,rest++_,rfl,h1,ih h2 ho⟩
theorem z2ta {P:Prop} (h:P:=by
  intro g hg;rcases hD' g hg with h1|h1
  ·have:=h.prot g h1;exact⟨Nat.lt_of_lt_of_le this.1 hs,by rw[Br this.1];exact this.2⟩
  ·exact⟨h1.2,Hi h1.1⟩):P:=h
theorem EC.Sv.zero(h:K.Sv D w e ρ la ln lc pa pn pc bl)(D':Nat->Prop)(hD':∀g,D' g->D g\/(w.heap.size<=g/\g<w'.heap.size))(hk:∀g,g<w.heap.size->¬D g->w'.heap[g]?=w.heap[g]?)(hs:w.heap.size<=w'.heap.size)
  (hfr:I7 D' w' K.fns K.fa K.fn K.fc) (hgr:Cz D' w' 9 1 (.slice K.ga K.gn K.gc) K.gl.length (Dg K.gl)):K.Sv D' w' e (F3 ρ w.heap.size 0) la ln lc pa pn pc bl:=by
 obtain⟨sa,sn,sc,hv⟩:=h.ew;have hwb:=A5 hv.cell;have h4:=hv.Qj h.one.2;have hz:∀g,g<w.heap.size->ρ g≠0->w'.heap[g]?=w.heap[g]?:=fun g hg h0=>hk g hg (fun hd=>h0 (h.prot g hd).2);refine⟨⟨sa,sn,sc,(hz _ hwb z5pa).trans hv.cell,B8 hv.own (fun g hg hl=>hz g hl z5oa),fun hd=>hd.2.1 (by rw[Br hwb];exact h.one.1),fun g hg=>⟨fun hd=>hd.2.2 (by rw[Br (Bs hv.own g hg)];exact h4 g hg),(hv.D7 g hg).2⟩,fun g hg=>hg.1⟩,hfr,hgr,B8 h.lr (fun g hg hl=>hz g hl z6ta),fun g hg=>by rw[Br (Bs h.lr g hg)];exact h.lro g hg,
  B8 h.pr (fun g hg hl=>hz g hl z6ra),fun g hg=>by rw[Br (Bs h.pr g hg)];exact h.pro g hg,h.lps.keep bl.length (fun g hl h5 _=>⟨hz g hl z51a,Br hl⟩) (Nat.le_refl _),?_,On h.one hwb z51a,h.Bw⟩
 exact z2ta
theorem Nf.drop:∀(i:Nat) (c:BT A6),Nf c->Nf (Cd i c):=by
 intro i;induction i with
 | zero=>intro c h;rw[show Cd 0 c=c from by cases c <;> rfl];exact h
 | succ i ih=>
  intro c h;cases c with
  | nil=>exact h
  | node x y l c r=>exact ih r h.2
def EC.A0x(K:EC)(s:Nm)(ga:Option Addr)(gn gc:Nat):EC:=⟨K.wb,K.te,K.fns,K.fa,K.fn,K.fc,K.gl++[s],ga,gn,gc⟩
theorem EC.Sv.Y4(h:K.Sv D w e ρ la ln lc pa pn pc bl)(D':Nat->Prop)(s:Nm)(ga:Option Addr)(gn gc:Nat)(hD':∀g,D' g->D g\/(w.heap.size<=g/\g<w'.heap.size)){sa:Option Addr}{sn sc:Nat}(hv:Hl (dX w.heap.size ρ) K.wb K.te w (.slice K.fa K.fn K.fc) (.slice K.ga K.gn K.gc) (.slice la ln lc) (.slice pa pn pc) e.slots e.st sa sn sc)
  (hcell:w'.heap[K.wb]?=some (.cells #[.slice K.fa K.fn K.fc,.slice ga gn gc,.slice la ln lc,.slice pa pn pc,.int .i64 (e.slots:Nat),.slice sa sn sc] K.te (0,0))) (hk:∀g,g<w.heap.size->g≠K.wb->¬D g->w'.heap[g]?=w.heap[g]?) (hs:w.heap.size<=w'.heap.size)
  (hfr:I7 D' w' K.fns K.fa K.fn K.fc) (hgr:Cz D' w' 9 1 (.slice ga gn gc) (K.gl++[s]).length (Dg (K.gl++[s]))) (hn:K.gl.length+1<=100000):(K.A0x s ga gn gc).Sv D' w' e (F3 ρ w.heap.size 0) la ln lc pa pn pc bl:=by
 have hwb:=A5 hv.cell;have h4:=hv.Qj h.one.2;have hz:∀g,g<w.heap.size->ρ g≠0->ρ g≠1->w'.heap[g]?=w.heap[g]?:=fun g hg h0 h1=>hk g hg (fun e=>h1 (by rw[e];exact h.one.1)) (fun hd=>h0 (h.prot g hd).2);refine⟨⟨sa,sn,sc,hcell,B8 hv.own (fun g hg hl=>hz g hl z5oa z5oa),fun hd=>hd.2.1 (by show F3 ρ w.heap.size 0 K.wb=1;rw[Br hwb];exact h.one.1),fun g hg=>⟨fun hd=>hd.2.2 (by rw[Br (Bs hv.own g hg)];exact h4 g hg),(hv.D7 g hg).2⟩,fun g hg=>hg.1⟩,hfr,hgr,B8 h.lr (fun g hg hl=>hz g hl z6ta z6ta),fun g hg=>by rw[Br (Bs h.lr g hg)];exact h.lro g hg,
  B8 h.pr (fun g hg hl=>hz g hl z6ra z6ra),fun g hg=>by rw[Br (Bs h.pr g hg)];exact h.pro g hg,h.lps.keep bl.length (fun g hl h5 _=>⟨hz g hl z51a z51a,Br hl⟩) (Nat.le_refl _),?_,On (K:=K) h.one hwb z51a,⟨h.Bw.1,by show(K.gl++[s]).length<=_;simp;omega⟩⟩
 exact z2ta
theorem EC.Sv.start(hfr:I7 D w K.fns K.fa K.fn K.fc)(hg:K.gl=[]/\K.ga=none/\K.gn=0/\K.gc=0)(hc:w.heap[K.wb]?=some (.cells #[.slice K.fa K.fn K.fc,.slice none 0 0,.slice none 0 0,.slice none 0 0,.int .i64 ((0:Nat):Int),.slice none 0 0] K.te (0,0)))(hD:∀g,D g->g<w.heap.size/\g≠K.wb) :
  K.St [] D w ⟨[],0,[],[]⟩:=by
 refine⟨fun g=>if g=K.wb then 1 else 0,none,0,0,none,0,0,[],⟨⟨none,0,0,?_,World.ownsRow_nil _ _ _ _,fun hd=>hd.2.1 (if_pos rfl),fun g hg=>by simp[Value.ownBlock]at hg,fun g hg=>hg.1⟩,hfr,?_,World.ownsRow_nil _ _ _ _,fun g hg=>by simp[Value.ownBlock]at hg,World.ownsRow_nil _ _ _ _,fun g hg=>by simp[Value.ownBlock]at hg,trivial,fun g hg=>⟨(hD g hg).1,if_neg (hD g hg).2⟩,⟨if_pos rfl,fun g hg=>?_⟩,?_⟩,rfl⟩
 ·rw[hc,hg.2.1,hg.2.2.1,hg.2.2.2]
 ·rw[hg.1,hg.2.1,hg.2.2.1,hg.2.2.2];exact Oq _ _ _ _
 ·have hg':(if g=K.wb then 1 else 0)=1:=hg;split at hg'
  ·assumption
  ·cases hg'
 ·rw[hg.1];exact⟨Nat.zero_le _,Nat.zero_le _⟩
end
section
open Go.RowKit
open Go.Deep (BT)
def eK(n:Nat)(σ:Nat->Nat):Nat->Prop:=fun g=>g<n/\σ g<5
theorem Abo{σ:Nat->Nat}{n n':Nat}(h:n<=n'):eK n' (F3 σ n 9)=eK n σ:=by
 funext g
 apply propext;unfold eK;by_cases hg:g<n
 ·rw[Br hg];exact⟨fun⟨_,h1⟩=>⟨hg,h1⟩,fun⟨_,h1⟩=>⟨by omega,h1⟩⟩
 ·rw[Hi z51a];exact⟨fun⟨_,h1⟩=>by omega,fun⟨h1,_⟩=>absurd h1 hg⟩
structure Lv (D : Nat -> Prop) (pb : Nat) (K : EC) (w : World) (e : Em) (σ : Nat -> Nat) (fs : List Fn) (ms : List Value) (ha : Option Addr) (hn hc : Nat) : Prop where
 st:K.St [] (eK w.heap.size σ) w e
 fr:I7 D w K.fns K.fa K.fn K.fc
 dz:∀g,D g->g<w.heap.size/\σ g=0
 gr:w.ownsRow 0 9 1 (.slice K.ga K.gn K.gc) K.gl.length (Dg K.gl)
 gro:∀g,(Value.slice K.ga K.gn K.gc).ownBlock=some g->σ g=3
 pbc:w.heap[pb]?=some (.cells #[.int .i64 0,.int .i64 0,.slice none 0 0,.slice ha hn hc] 101 (0,0))
 pbo:σ pb=1
 hr:w.ownsRow 0 103 4 (.slice ha hn hc) fs.length ms
 hro:∀g,(Value.slice ha hn hc).ownBlock=some g->σ g=2
 fns:Ls (fun g=>σ g=4) w fs ms
variable {D:Nat->Prop} {pb:Nat} {K:EC} {w w':World} {e e':Em} {σ:Nat->Nat} {fs:List Fn} {ms:List Value} {ha:Option Addr} {hn hc:Nat}
theorem z61a {P:Prop} (h:P:=by rw[h.pbo];omega):P:=h
theorem Lv.next(h:Lv D pb K w e σ fs ms ha hn hc)(hs:K.St [] (eK w.heap.size σ) w' e')(hb:A3 (eK w.heap.size σ) w w'):Lv D pb K w' e' (F3 σ w.heap.size 9) fs ms ha hn hc:=by
 have hbd:A3 D w w':=hb.weak (fun g hg=>⟨(h.dz g hg).1,by rw[(h.dz g hg).2];omega⟩);have hk:∀g,g<w.heap.size->σ g<5->w'.heap[g]?=w.heap[g]?:=fun g h1 h2=>hb.block g ⟨h1,h2⟩;have lp:=A5 h.pbc;refine⟨by rw[Abo hb.size];exact hs,h.fr.keep hbd,fun g hg=>⟨Nat.lt_of_lt_of_le (h.dz g hg).1 hb.size,by rw[Br (h.dz g hg).1];exact(h.dz g hg).2⟩,B8 h.gr (fun g hg hl=>hk g hl (by rw[h.gro g hg];omega)),fun g hg=>by rw[Br (Bs h.gr g hg)];exact h.gro g hg,(hk pb lp z61a).trans h.pbc,by rw[Br lp];exact h.pbo,B8 h.hr (fun g hg hl=>hk g hl (by rw[h.hro g hg];omega)),fun g hg=>by rw[Br (Bs h.hr g hg)];exact h.hro g hg,h.fns.keep (fun g hg hl=>⟨hk g hl (by rw[hg];omega),?_⟩)⟩;show F3 σ w.heap.size 9 g=4;rw[Br hl];exact hg
theorem z5ma {P:Prop} (h:P:=by rw[(h.dz k hk).2];omega):P:=h
theorem z66a {P:Prop} (h:P:=by rw[hk];omega):P:=h
theorem z67a {P:Prop} (h:P:=by rw[h.gro k hk];omega):P:=h
theorem Lv.func(h:Lv D pb K w e σ fs ms ha hn hc){w1 w2:World}{f:Fn}{sa:Option Addr}{sn sc:Nat}(hs:K.St [] (fun g=>eK w.heap.size σ g\/(Value.slice sa sn sc).ownBlock=some g) w1 e)(hb:A3 (eK w.heap.size σ) w w1)
  (hrow:w1.ownsRow 0 251 8 (.slice sa sn sc) f.steps.length (El f.steps)) (hne:∀g,(Value.slice sa sn sc).ownBlock=some g->¬eK w.heap.size σ g) {g cap:Nat}
  (hown:w2.ownsRow 0 103 4 (.slice (some ⟨g,0,none⟩) (fs.length+1) cap) (fs.length+1) (ms++[L6 f.name,.int .i64 (f.params:Nat),.int .i64 (f.slots:Nat),.slice sa sn sc])) (hgr:w1.grownBy w2 (Value.slice ha hn hc).ownBlock) (hat:(Value.slice ha hn hc).ownBlock=some g\/w1.heap.size<=g) :
  (∃σ',Lv D pb K (w2.setCell ⟨pb,3,none⟩ (.slice (some ⟨g,0,none⟩) (fs.length+1) cap)) e σ' (fs++[f]) (ms++[L6 f.name,.int .i64 (f.params:Nat),.int .i64 (f.slots:Nat),.slice sa sn sc]) (some ⟨g,0,none⟩) (fs.length+1) cap)/\A3 D w (w2.setCell ⟨pb,3,none⟩ (.slice (some ⟨g,0,none⟩) (fs.length+1) cap)):=by
 classical
 have lp:=A5 h.pbc;have lp1:pb<w1.heap.size:=Nat.lt_of_lt_of_le lp hb.size;have hk1:∀k,k<w.heap.size->σ k<5->w1.heap[k]?=w.heap[k]?:=fun k h1 h2=>hb.block k ⟨h1,h2⟩;have hgl:g<w2.heap.size:=Bs hown g rfl;have hgpb:g≠pb:=by
  rcases hat with h1|h1
  ·intro e1;have:=h.hro g h1;rw[e1,h.pbo]at this;omega
  ·omega
 have hS:∀k,(Value.slice sa sn sc).ownBlock=some k->k<w1.heap.size:=fun k hk=>Bs hrow k hk;have hk3:∀k,k<w1.heap.size->k≠pb->(Value.slice ha hn hc).ownBlock≠some k->(w2.setCell ⟨pb,3,none⟩ (.slice (some ⟨g,0,none⟩) (fs.length+1) cap)).heap[k]?=w1.heap[k]?:=fun k h1 h2 h3=>(Below.heap_setCell _ _ _ _ (by exact h2)).trans (hgr.block k h1 (fun e=>h3 e.symm));obtain⟨σ',hσ⟩:∃σ':Nat->Nat,σ'=fun k=>if k=g then 2 else if(Value.slice sa sn sc).ownBlock=some k then 4 else if k<w.heap.size then σ k else 9:=⟨_,rfl⟩;have hgE:∀k,k<w.heap.size->σ k<5->σ k≠2->σ' k=σ k:=by
  intro k hk h5 h2;rw[hσ];show(if k=g then 2 else _)=σ k;rw[if_neg (fun e=>by rcases hat with h1|h1;exact h2 (by rw[e];exact h.hro g h1);have:=hb.size;omega),if_neg (fun e=>hne k e ⟨hk,h5⟩),if_pos hk]
 have Ht:σ' g=2:=by rw[hσ];exact if_pos rfl
 have hgS:∀k,(Value.slice sa sn sc).ownBlock=some k->k≠g:=by
  intro k hk e1;subst e1;rcases hat with h1|h1
  ·exact hne k hk ⟨Bs h.hr k h1,by rw[h.hro k h1];omega⟩
  ·have:=hS k hk;omega
 have hS4:∀k,(Value.slice sa sn sc).ownBlock=some k->σ' k=4:=by
  intro k hk;rw[hσ];show(if k=g then 2 else _)=4;rw[if_neg (hgS k hk),if_pos hk]
 have hpb1:σ' pb=1:=(hgE pb lp z61a z61a).trans h.pbo;have hsz:=hgr.size;have hW:(w2.setCell ⟨pb,3,none⟩ (.slice (some ⟨g,0,none⟩) (fs.length+1) cap)).heap.size=w2.heap.size:=by simp[World.setCell]
 have hkeep:∀k,k<w.heap.size->σ k<5->σ k≠1->σ k≠2->(w2.setCell ⟨pb,3,none⟩ (.slice (some ⟨g,0,none⟩) (fs.length+1) cap)).heap[k]?=w.heap[k]?:=fun k h1 h5 h2 h3=>(hk3 k (Nat.lt_of_lt_of_le h1 hb.size) (fun e=>h2 (by rw[e];exact h.pbo)) (fun e=>h3 (h.hro k e))).trans (hk1 k h1 h5);have hbd:A3 D w (w2.setCell ⟨pb,3,none⟩ (.slice (some ⟨g,0,none⟩) (fs.length+1) cap)):=⟨hgr.os.trans hb.os,hgr.tape.trans hb.tape,hgr.output.trans hb.output,by rw[hW];have:=hb.size;omega,fun k hk=>hkeep k (h.dz k hk).1 z5ma z5ma z5ma⟩;have hdz:∀k,D k->k<(w2.setCell ⟨pb,3,none⟩ (.slice (some ⟨g,0,none⟩) (fs.length+1) cap)).heap.size/\σ' k=0:=fun k hk=>⟨by rw[hW];have:=(h.dz k hk).1;have:=hb.size;omega,(hgE k (h.dz k hk).1 z5ma z5ma).trans (h.dz k hk).2⟩;have hgr3:(w2.setCell ⟨pb,3,none⟩ (.slice (some ⟨g,0,none⟩) (fs.length+1) cap)).ownsRow 0 9 1 (.slice K.ga K.gn K.gc) K.gl.length (Dg K.gl):=B8 h.gr (fun k hk hl=>hkeep k hl z67a z67a z67a);have hgro:∀k,(Value.slice K.ga K.gn K.gc).ownBlock=some k->σ' k=3:=fun k hk=>(hgE k (Bs h.gr k hk) z67a z67a).trans (h.gro k hk);refine⟨⟨σ',?_,h.fr.keep hbd,hdz,hgr3,hgro,?_,hpb1,?_,?_,?_⟩,hbd⟩
 ·obtain⟨ρ,la,ln,lc,pa,pn,pc,bl,hv,hlb⟩:=hs;refine⟨_,_,_,_,_,_,_,_,hv.zero _ ?_ ?_ (by rw[hW];exact hsz) ((h.fr.keep hbd).weak (fun k hk=>⟨(hdz k hk).1,by rw[(hdz k hk).2];omega⟩)) ⟨hgr3,fun k hk=>⟨Bs hgr3 k hk,by rw[hgro k hk];omega⟩⟩,hlb⟩
  ·intro k hk;obtain⟨k1,k2⟩:=hk;by_cases hl:k<w1.heap.size
   ·left;rw[hσ]at k2;replace k2:(if k=g then 2 else if(Value.slice sa sn sc).ownBlock=some k then 4 else if k<w.heap.size then σ k else 9)<5:=k2;split at k2
    ·rename_i e1;rcases hat with h1|h1
     ·exact .inl ⟨by rw[e1];exact Bs h.hr g h1,by rw[e1,h.hro g h1];omega⟩
     ·omega
    ·split at k2
     ·exact .inr (by assumption)
     ·split at k2
      ·exact .inl ⟨by assumption,k2⟩
      ·omega
   ·exact .inr ⟨by omega,k1⟩
  ·intro k hk hn;refine hk3 k hk (fun e1=>hn (.inl ⟨by rw[e1];exact lp,by rw[e1,h.pbo];omega⟩)) (fun e1=>hn (.inl ⟨Bs h.hr k e1,by rw[h.hro k e1];omega⟩))
 ·have h1:w2.heap[pb]?=w1.heap[pb]?:=hgr.block pb lp1 (fun e=>by have:=h.hro pb e.symm;rw[h.pbo]at this;omega);rw[heap_set ((h1.trans (hk1 pb lp z61a)).trans h.pbc)];simp
 ·rw[List.length_append];exact U9 hown _ _ (by simp only[Value.ownBlock,ne_eq,Option.some.injEq];exact hgpb)
 ·intro k hk;simp only[Value.ownBlock,Option.some.injEq]at hk;rw[<-hk];exact Ht
 ·refine Ls.app (h.fns.keep (fun k hk hl=>⟨hkeep k hl z66a z66a z66a,?_⟩)) ⟨?_,fun k hk=>hS4 k hk⟩
  ·exact(hgE k hl z66a z66a).trans hk
  ·exact B8 hrow (fun k hk hl=>hk3 k hl (fun e1=>hne k hk ⟨by rw[e1];exact lp,by rw[e1,h.pbo];omega⟩) (fun e1=>hne k hk ⟨Bs h.hr k e1,by rw[h.hro k e1];omega⟩))
theorem Lv.Ads(h:Lv D pb K w e σ fs ms ha hn hc){w2:World}(s:Nm){g cap:Nat}(Dm:K.gl.length+1<=100000)
  (hown:w2.ownsRow 0 9 1 (.slice (some ⟨g,0,none⟩) (K.gl.length+1) cap) (K.gl.length+1) (Dg K.gl++[Nv s])) (hgr:w.grownBy w2 (Value.slice K.ga K.gn K.gc).ownBlock) (hat:(Value.slice K.ga K.gn K.gc).ownBlock=some g\/w.heap.size<=g) :
  (∃σ',Lv D pb (K.A0x s (some ⟨g,0,none⟩) (K.gl.length+1) cap) (w2.setCell ⟨K.wb,1,none⟩ (.slice (some ⟨g,0,none⟩) (K.gl.length+1) cap)) e σ' fs ms ha hn hc)/\A3 D w (w2.setCell ⟨K.wb,1,none⟩ (.slice (some ⟨g,0,none⟩) (K.gl.length+1) cap)):=by
 have lp:=A5 h.pbc;have hlo:=h.st.lo;have hwbE:¬eK w.heap.size σ K.wb:=hlo.2.2;have hgl:g<w2.heap.size:=Bs hown g rfl;have hgw:g≠K.wb:=by
  rcases hat with h1|h1
  ·intro e1;exact hwbE ⟨hlo.2.1,by rw[<-e1,h.gro g h1];omega⟩
  ·have:=hlo.2.1;omega
 obtain⟨σ',hσ⟩:∃σ':Nat->Nat,σ'=fun k=>if k=g then 3 else if k<w.heap.size then σ k else 9:=⟨_,rfl⟩;have hgE:∀k,k<w.heap.size->σ k≠3->σ' k=σ k:=by
  intro k hk h2;rw[hσ];show(if k=g then 3 else _)=σ k;rw[if_neg (fun e=>by rcases hat with h1|h1;exact h2 (by rw[e];exact h.gro g h1);omega),if_pos hk]
 have hg3:σ' g=3:=by rw[hσ];exact if_pos rfl
 have hsz:=hgr.size;have hW:(w2.setCell ⟨K.wb,1,none⟩ (.slice (some ⟨g,0,none⟩) (K.gl.length+1) cap)).heap.size=w2.heap.size:=by simp[World.setCell]
 have hk3:∀k,k<w.heap.size->k≠K.wb->(Value.slice K.ga K.gn K.gc).ownBlock≠some k->(w2.setCell ⟨K.wb,1,none⟩ (.slice (some ⟨g,0,none⟩) (K.gl.length+1) cap)).heap[k]?=w.heap[k]?:=fun k h1 h2 h3=>(Below.heap_setCell _ _ _ _ (by exact h2)).trans (hgr.block k h1 (fun e=>h3 e.symm));have hkeep:∀k,k<w.heap.size->σ k<5->σ k≠3->(w2.setCell ⟨K.wb,1,none⟩ (.slice (some ⟨g,0,none⟩) (K.gl.length+1) cap)).heap[k]?=w.heap[k]?:=fun k h1 h5 h2=>hk3 k h1 (fun e=>hwbE ⟨hlo.2.1,by rw[<-e];exact h5⟩) (fun e=>h2 (h.gro k e));have hbd:A3 D w (w2.setCell ⟨K.wb,1,none⟩ (.slice (some ⟨g,0,none⟩) (K.gl.length+1) cap)):=⟨hgr.os,hgr.tape,hgr.output,by rw[hW];exact hsz,fun k hk=>hkeep k (h.dz k hk).1 z5ma z5ma⟩;have hdz:∀k,D k->k<(w2.setCell ⟨K.wb,1,none⟩ (.slice (some ⟨g,0,none⟩) (K.gl.length+1) cap)).heap.size/\σ' k=0:=fun k hk=>⟨by rw[hW];have:=(h.dz k hk).1;omega,(hgE k (h.dz k hk).1 z5ma).trans (h.dz k hk).2⟩;have hnm:Dg (K.gl++[s])=Dg K.gl++[Nv s]:=by simp[Dg]
 have hgr3:(w2.setCell ⟨K.wb,1,none⟩ (.slice (some ⟨g,0,none⟩) (K.gl.length+1) cap)).ownsRow 0 9 1 (.slice (some ⟨g,0,none⟩) (K.gl.length+1) cap) (K.gl++[s]).length (Dg (K.gl++[s])):=by
  rw[hnm,List.length_append];exact U9 hown _ _ z6ua
 have hgro:∀k,(Value.slice (some ⟨g,0,none⟩) (K.gl.length+1) cap).ownBlock=some k->σ' k=3:=by
  intro k hk;simp only[Value.ownBlock,Option.some.injEq]at hk;rw[<-hk];exact hg3
 refine⟨⟨σ',?_,h.fr.keep hbd,hdz,hgr3,hgro,?_,?_,?_,?_,?_⟩,hbd⟩
 ·obtain⟨ρ,la,ln,lc,pa,pn,pc,bl,hv,hlb⟩:=h.st;obtain⟨sa,sn,sc,hvv⟩:=hv.ew;refine⟨_,_,_,_,_,_,_,_,hv.Y4 _ s _ _ _ ?_ hvv ?_ ?_ (by rw[hW];exact hsz) ((h.fr.keep hbd).weak (fun k hk=>⟨(hdz k hk).1,by rw[(hdz k hk).2];omega⟩)) ⟨hgr3,fun k hk=>⟨Bs hgr3 k hk,by rw[hgro k hk];omega⟩⟩ Dm,hlb⟩
  ·intro k hk;obtain⟨k1,k2⟩:=hk;by_cases hl:k<w.heap.size
   ·left;rw[hσ]at k2;replace k2:(if k=g then 3 else if k<w.heap.size then σ k else 9)<5:=k2;split at k2
    ·rename_i e1;rcases hat with h1|h1
     ·exact⟨hl,by rw[e1,h.gro g h1];omega⟩
     ·omega
    ·exact⟨hl,by simpa [hl]using k2⟩
   ·exact .inr ⟨by omega,k1⟩
  ·have h1:w2.heap[K.wb]?=w.heap[K.wb]?:=hgr.block K.wb hlo.2.1 (fun e=>hwbE ⟨hlo.2.1,by rw[h.gro K.wb e.symm];omega⟩);rw[heap_set (h1.trans hvv.cell)];simp
  ·intro k hk hne hnE;exact hk3 k hk hne (fun e1=>hnE ⟨hk,by rw[h.gro k e1];omega⟩)
 ·exact(hkeep pb lp z61a z61a).trans h.pbc
 ·exact(hgE pb lp z61a).trans h.pbo
 ·exact B8 h.hr (fun k hk hl=>hkeep k hl (by rw[h.hro k hk];omega) (by rw[h.hro k hk];omega))
 ·intro k hk;exact(hgE k (Bs h.hr k hk) (by rw[h.hro k hk];omega)).trans (h.hro k hk)
 ·refine h.fns.keep (fun k hk hl=>⟨hkeep k hl z66a z66a,?_⟩);exact(hgE k hl z66a).trans hk
end
section
set_option maxRecDepth 100000
open Go.RowKit
open Go.Deep (BT)
def A58(D:Nat->Prop)(c:BT A6)(nk:Nat)(w0:World)(wb pb:Nat)(fa:Option Addr)(fn fc:Nat)(k:Nat)(v:Value)(wr:World):Prop:=
 ∃(i:Nat) (gl:List Nm) (ga:Option Addr) (gn gc:Nat) (fs:List Fn) (slots:Nat) (st:List Af) (ms:List Value) (ha:Option Addr) (hn hc:Nat) (σ:Nat->Nat),v=.int .i64 i/\i+k=nk/\
  Lv D pb ⟨wb,137,Cu c,fa,fn,fc,gl,ga,gn,gc⟩ wr ⟨[],slots,st,[]⟩ σ fs ms ha hn hc/\Kw (Cu c) (Cd i c) gl fs ⟨[],slots,st,[]⟩=Np c/\st.length+2*bsize (Cd i c)<=700000/\gl.length<=i/\fs.length<=i/\A3 D w0 wr
def Jw(D:Nat->Prop)(w:World)(pb:Nat)(P:Dl):Prop:=∃sa sn sc ha hn hc ms,D pb/\w.heap[pb]?=some (.cells #[.int .i64 (P.globals:Nat),.int .i64 (P.slots:Nat),.slice sa sn sc,.slice ha hn hc] 101 (0,0))/\
 Cz D w 251 8 (.slice sa sn sc) P.main.length (El P.main)/\Cz D w 103 4 (.slice ha hn hc) P.fns.length ms/\Ls D w P.fns ms
theorem Ahz{kd:Nat}(h:22<=kd/\kd<=30):Ck kd≠145:=by
 have h9:kd=22\/kd=23\/kd=24\/kd=25\/kd=26\/kd=27\/kd=28\/kd=29\/kd=30:=by omega
 rcases h9 with e|e|e|e|e|e|e|e|e <;> (subst e;decide)
theorem Wf.Agh{x y:Nat}{l:A6}{c r:BT A6}(h:Wf 4 (.node x y l c r))(h20:l.kd≠20):Wf 1 (nd l c):=by
 refine⟨trivial,?_⟩;rcases h.2 with⟨h0,_⟩|⟨h0,_⟩|⟨h0,_⟩|⟨_,h1,h2⟩|⟨_,h1,h2⟩|⟨_,h1,h2⟩|⟨_,h1,_⟩
 ·omega
 ·omega
 ·omega
 ·exact .inr (.inr (.inr (.inl ⟨.inl rfl,h1,h2⟩)))
 ·exact .inr (.inr (.inr (.inr (.inl ⟨.inl rfl,h1,h2⟩))))
 ·exact .inr (.inr (.inr (.inr (.inr (.inl ⟨.inl rfl,h1,h2⟩)))))
 ·exact absurd h1 h20
theorem Wf.kd4{x y:Nat}{l:A6}{c r:BT A6}(h:Wf 4 (.node x y l c r))(h20:l.kd≠20)(h21:l.kd≠21):22<=l.kd/\l.kd<=30:=by
 rcases h.2 with⟨h0,_⟩|⟨h0,_⟩|⟨h0,_⟩|⟨_,h1,h2⟩|⟨_,h1,h2⟩|⟨_,h1,h2⟩|⟨_,h1,_⟩
 ·omega
 ·omega
 ·omega
 ·omega
 ·omega
 ·exact z3wa
 ·omega
theorem Ack(c:BT A6)(D:Nat->Prop)(w:World)(fa:Option Addr)(fn fc:Nat)(hfr:I7 D w (Cu c) fa fn fc)(hD:∀g,D g->g<w.heap.size)(W:World)(hW:W=(w.alloc (.cells #[.slice fa fn fc,.slice none 0 0,.slice none 0 0,.slice none 0 0,.int .i64 0,.slice none 0 0] 137)).alloc (.cells #[.int .i64 0,.int .i64 0,.slice none 0 0,.slice none 0 0] 101)) :
  (∃σ,Lv D (w.heap.size+1) ⟨w.heap.size,137,Cu c,fa,fn,fc,[],none,0,0⟩ W ⟨[],0,[],[]⟩ σ [] [] none 0 0)/\A3 D w W:=by
 have hsz:W.heap.size=w.heap.size+2:=by rw[hW];simp
 have hk:∀g,g<w.heap.size->W.heap[g]?=w.heap[g]?:=by
  intro g hg;rw[hW,Below.heap_alloc _ _ _ z54a,Below.heap_alloc _ _ _ hg]
 have hbd:A3 D w W:=⟨by rw[hW];rfl,by rw[hW];rfl,by rw[hW];rfl,by omega,fun k hk'=>hk k (hD k hk')⟩;have hc1:W.heap[w.heap.size]?=some (.cells #[.slice fa fn fc,.slice none 0 0,.slice none 0 0,.slice none 0 0,.int .i64 0,.slice none 0 0] 137 (0,0)):=by
  rw[hW,Below.heap_alloc _ _ _ z56a];exact heap_alloc_new w _
 have hc2:W.heap[w.heap.size+1]?=some (.cells #[.int .i64 0,.int .i64 0,.slice none 0 0,.slice none 0 0] 101 (0,0)):=by
  have:=heap_alloc_new (w.alloc (.cells #[.slice fa fn fc,.slice none 0 0,.slice none 0 0,.slice none 0 0,.int .i64 0,.slice none 0 0] 137)) (.cells #[.int .i64 0,.int .i64 0,.slice none 0 0,.slice none 0 0] 101);rw[hW];simpa using this
 have hσ:∀g,D g->(if g=w.heap.size+1 then 1 else if g<w.heap.size then 0 else 9)=0:=fun g hg=>by have:=hD g hg;rw[if_neg z51a,if_pos this]
 refine⟨⟨fun g=>if g=w.heap.size+1 then 1 else if g<w.heap.size then 0 else 9,?_,hfr.keep hbd,fun g hg=>⟨by have:=hD g hg;omega,hσ g hg⟩,World.ownsRow_nil _ _ _ _,fun g hg=>by simp[Value.ownBlock]at hg,hc2,if_pos rfl,World.ownsRow_nil _ _ _ _,fun g hg=>by simp[Value.ownBlock]at hg,rfl⟩,hbd⟩;refine EC.Sv.start ((hfr.keep hbd).weak (fun g hg=>⟨by have:=hD g hg;omega,by show(if g=w.heap.size+1 then 1 else if g<w.heap.size then 0 else 9)<5;rw[hσ g hg];omega⟩)) ⟨rfl,rfl,rfl,rfl⟩ hc1 (fun g hg=>⟨hg.1,fun e=>?_⟩);have h2:(if g=w.heap.size+1 then 1 else if g<w.heap.size then 0 else 9)<5:=hg.2;have e':g=w.heap.size:=e;rw[e',if_neg z51a,if_neg z51a]at h2;omega
theorem Acj{D:Nat->Prop}{pb:Nat}{K:EC}{w:World}{slots:Nat}{st:List Af}{σ:Nat->Nat}{fs:List Fn}{ms:List Value}{ha:Option Addr}{hn hc:Nat}(h:Lv D pb K w ⟨[],slots,st,[]⟩ σ fs ms ha hn hc){ρ:Nat->Nat}{la:Option Addr}{ln lc:Nat}{pa:Option Addr}{pn pc:Nat}{bl:List LB}(hs:K.Sv (eK w.heap.size σ) w ⟨[],slots,st,[]⟩ ρ la ln lc pa pn pc bl)
  {sa:Option Addr} {sn sc:Nat} (hv:Hl (dX w.heap.size ρ) K.wb K.te w (.slice K.fa K.fn K.fc) (.slice K.ga K.gn K.gc) (.slice la ln lc) (.slice pa pn pc) slots st sa sn sc) (W:World) (hW:W=((w.setCell ⟨pb,1,none⟩ (.int .i64 (slots:Nat))).setCell ⟨pb,2,none⟩ (.slice sa sn sc)).setCell ⟨pb,0,none⟩ (.int .i64 (K.gl.length:Nat))) :
  ∃E:Nat->Prop,Jw E W pb ⟨K.gl.length,slots,st,fs⟩/\(∀g,E g->¬D g/\g<W.heap.size)/\A3 D w W:=by
 have lp:=A5 h.pbc;have hsz:W.heap.size=w.heap.size:=by rw[hW];simp[World.setCell]
 have hk:∀g,g≠pb->W.heap[g]?=w.heap[g]?:=by
  intro g hg;rw[hW,Below.heap_setCell _ _ _ _ (by exact hg),Below.heap_setCell _ _ _ _ (by exact hg),Below.heap_setCell _ _ _ _ (by exact hg)]
 have hpbc:W.heap[pb]?=some (.cells #[.int .i64 (K.gl.length:Nat),.int .i64 (slots:Nat),.slice sa sn sc,.slice ha hn hc] 101 (0,0)):=by
  rw[hW];have:=heap_set (j:=0) (heap_set (j:=2) (heap_set (j:=1) h.pbc (.int .i64 (slots:Nat))) (.slice sa sn sc)) (.int .i64 (K.gl.length:Nat));rw[this];simp
 have h4:=hv.Qj hs.one.2;have hSE:∀g,(Value.slice sa sn sc).ownBlock=some g->¬eK w.heap.size σ g:=fun g hg he=>by
  have:=(hs.prot g he).2;rw[h4 g hg]at this;cases this
 have hpbE:eK w.heap.size σ pb:=⟨lp,by rw[h.pbo];omega⟩;refine⟨fun g=>g<w.heap.size/\(g=pb\/(Value.slice sa sn sc).ownBlock=some g\/σ g=2\/σ g=4),⟨sa,sn,sc,ha,hn,hc,ms,⟨lp,.inl rfl⟩,hpbc,⟨?_,?_⟩,⟨?_,?_⟩,?_⟩,?_,?_⟩
 ·exact B8 hv.own (fun g hg _=>hk g (fun e=>hSE g hg (by rw[e];exact hpbE)))
 ·intro g hg;exact⟨Bs hv.own g hg,.inr (.inl hg)⟩
 ·exact B8 h.hr (fun g hg _=>hk g (fun e=>by have:=h.hro g hg;rw[e,h.pbo]at this;omega))
 ·intro g hg;exact⟨Bs h.hr g hg,.inr (.inr (.inl (h.hro g hg)))⟩
 ·exact h.fns.keep (fun g hg hl=>⟨hk g (fun e=>by rw[e,h.pbo]at hg;omega),hl,.inr (.inr (.inr hg))⟩)
 ·intro g hg;refine⟨fun hd=>?_,by rw[hsz];exact hg.1⟩;have h0:=h.dz g hd;rcases hg.2 with e1|e1|e1|e1
  ·rw[e1,h.pbo]at h0;omega
  ·exact hSE g e1 ⟨h0.1,by rw[h0.2];omega⟩
  ·omega
  ·omega
 ·exact⟨by rw[hW];rfl,by rw[hW];rfl,by rw[hW];rfl,by omega,fun g hg=>hk g (fun e=>by have:=(h.dz g hg).2;rw[e,h.pbo]at this;omega)⟩
theorem Abp(c:BT A6)(hwf:Wf 4 c)(hlp:Nf c)(D:Nat->Prop)(w:World)(tb:Nat)(va:Option Addr)(vn vc:Nat)(ks:List Value)(hD:D tb)(hDl:∀g,D g->g<w.heap.size)(hpb:w.heap[tb]?=some (.cells #[.slice va vn vc] 140 (0,0)))
  (hown:Cz D w 142 1 (.slice va vn vc) ks.length ks) (hrep:Ao D w c ks) (A1:bsize c<=50000) :
  Calls Tryz.prog 38 #[.pointer (some ⟨tb,0,none⟩)] w fun r w'=>∃pb E,r=.returned (.pointer (some ⟨pb,0,none⟩))/\Jw E w' pb (Np c)/\(∀g,E g->¬D g/\g<w'.heap.size)/\A3 D w w':=by
 have hvn:vn=ks.length:=(Cg hown.1).1;subst hvn;have HF:=A0 (A0s c hwf D w tb va ks.length vc ks hpb hown hrep z51a);have HPb:=A0 hpb;have HOwn:=A0 hown;have HRep:=A0 hrep;have hlen:=hrep.len;have HLen:=A0 hlen;have hls:=Nk c;have hkl:ks.length<=50000:=by omega
 have HWf:=A0 hwf;have HLp:=A0 hlp;clear hown hrep hlen hwf hpb hlp;go_enter Tryz.func38,Tryz.ntmps38;go_wp2_with fail
 refine HF.o.mono ?_;rintro r w1 ⟨fa,fn,fc,rfl,hb1',hfr1,hfo1⟩;have hpb1:=(hb1'.block tb (hDl tb hD)).trans HPb.o;have c0:=A2 hpb1 0 _ rfl;have lt:=A5 hpb1;have HFr1:=A0 hfr1;have HFo1:=A0 hfo1;have A4:=A0 hb1';have hsz1:=hb1'.size;clear hpb1 hfr1 hfo1 hb1';obtain⟨w2,Fo⟩:∃w2,w2=(w1.alloc (.cells #[.slice fa fn fc,.slice none 0 0,.slice none 0 0,.slice none 0 0,.int .i64 0,.slice none 0 0] 137)).alloc (.cells #[.int .i64 0,.int .i64 0,.slice none 0 0,.slice none 0 0] 101):=⟨_,rfl⟩;obtain⟨⟨σ0,hp0⟩,hbd0⟩:=Ack c (fun g=>D g\/(Value.slice fa fn fc).ownBlock=some g) w1 fa fn fc HFr1.o (fun g hg=>hg.elim (fun h=>Nat.lt_of_lt_of_le (hDl g h) hsz1) (fun h=>(HFo1.o g h).2)) w2 Fo;have HP0:=A0 hp0;have HW2:=A0 Fo;have Aa:Hid (A3 D w w2):=A3.trans ⟨A4.o.os,A4.o.tape,A4.o.output,A4.o.size,fun g hg=>A4.o.block g (hDl g hg)⟩ (hbd0.weak (fun g hg=>.inl hg));clear hp0 hbd0 Fo;go_wp2;rw[<-HW2.o];clear HW2 c0 lt;go_loopg [21] ks.length (fun k v wr=>A58 (fun g=>D g\/(Value.slice fa fn fc).ownBlock=some g) c ks.length w2 w1.heap.size (w1.heap.size+1) fa fn fc k v wr)
 case atStart=>exact⟨0,[],none,0,0,[],0,[],[],none,0,0,σ0,rfl,by omega,HP0.o,rfl,by rw[show Cd 0 c=c from by cases c <;> rfl];simp;omega,Nat.le_refl _,Nat.le_refl _,A3.refl _ _⟩
 case round=>
  clear HP0;obtain⟨i,gl,ga,gn,gc,fs,slots,st,ms,ha,hn,hc,σ,rfl,hik,hpg,hem,hsi,hgi,hfi,hbel⟩:=hrel;have HPg:=A0 hpg;have HEm:=A0 hem;have HBel:=A0 hbel;have HBD:Hid (A3 D w wr):=Aa.o.trans (hbel.weak (fun g hg=>.inl hg));clear hpg hem hbel;by_cases hlt:i<ks.length
  ·have hr:=HRep.o.Bv HBD.o;obtain⟨x,y,l,cc,r,hd,v,ks',hv,hnn,hrk⟩:=Ao.at' i c ks hr z5na;obtain⟨g,rfl,hvn9,hcap,lg,hcell⟩:=G2 (HOwn.o.Bv HBD.o).1 z51a;clear hvn9;have d0:=hcell i v hv;have hwf1:=Wf.drop 4 i c HWf.o;rw[hd]at hwf1;have hlp1:=Nf.drop i c HLp.o;rw[hd]at hlp1;have hdn:=Oc i c x y l cc r hd;have hz:bsize (Cd i c)=bsize (nd l cc)+bsize r:=by rw[hd,Co,bsize]
   have hem1:=HEm.o;rw[hd,Kw]at hem1;have hnds:=Co l cc;have hdz:bsize (Cd i c)<=bsize c:=W8 i c;clear hcell hv hd;by_cases h20:l.kd=20
   ·rw[if_pos h20]at hem1;have hlpx:=hlp1.1;rw[if_pos h20]at hlpx;have hwf2:Wf 1 cc:=by
     rcases hwf1.2 with⟨h0,_⟩|⟨h0,_⟩|⟨h0,_⟩|⟨_,h1,h2⟩|⟨_,h1,h2⟩|⟨_,h1,h2⟩|⟨_,_,h2⟩
     ·omega
     ·omega
     ·omega
     ·omega
     ·omega
     ·rw[h20]at h1;cases h1
     ·exact h2
    unfold Bx at hnn;rw[if_neg z51a]at hnn;obtain⟨b,cs,rfl,hDb,hbb,hll⟩:=hnn;have e1:Ck l.kd=143:=by rw[h20];rfl
    have e2:Dn l.kd=218:=by rw[h20];rfl
    rw[e1]at d0;rw[e2]at hbb;unfold Cy at hll;simp only[h20]at hll;obtain⟨ps,sl,rfl,ho,hp⟩:=hll;obtain⟨va2,vn2,vc2,rfl⟩:∃va vn vc,sl=.slice va vn vc:=Nw ho.1;obtain⟨pa2,pn2,pc2,rfl⟩:∃va vn vc,ps=.slice va vn vc:=Nw hp.1;have hpd:=HPg.o.next (HPg.o.st.drewN 1) (Dv _ wr 1);have hEK:∀g,(D g\/(Value.slice fa fn fc).ownBlock=some g)->eK (wr.drewN 1).heap.size (F3 σ wr.heap.size 9) g:=fun g hg=>⟨(hpd.dz g hg).1,by rw[(hpd.dz g hg).2];omega⟩;have HFun:=A0 (Aps ⟨w1.heap.size,137,Cu c,fa,fn,fc,gl,ga,gn,gc⟩ l cc hwf2 hlpx _ (wr.drewN 1) slots st b pa2 pn2 pc2 va2 vn2 vc2 ks' hpd.st (hEK b (.inl hDb)) hbb ((hp.Bv (Dv D wr 1)).weak (fun g hg=>hEK g (.inl hg))) ((ho.Bv (Dv D wr 1)).weak (fun g hg=>hEK g (.inl hg))) (Ao.keep (w:=wr) (w':=wr.drewN 1) (fun g hg _=>⟨rfl,hEK g (.inl hg)⟩) _ _ hrk) z51a);have HPd:=A0 hpd;have HEK:=A0 hEK;have q3:=A2 hpd.pbc 3 _ rfl;have lq:=A5 hpd.pbc;have lqw:w1.heap.size+1<wr.heap.size:=lq;have hhn:hn=fs.length:=(Cg hpd.hr).1;have q3':wr.cell? ⟨w1.heap.size+1,3,none⟩=some (.slice ha hn hc):=q3;have hfl:fs.length<=60000:=by omega
    have Dh:=Ale;have HEm1:=A0 hem1;have HDn:=A0 hdn;have hsn:st.length+2*bsize (Cd (i+1) c)<=700000:=by rw[hdn];omega
    have HSn:=A0 hsn;have HHr:=A0 hpd.hr;have HPbE:Hid (eK (wr.drewN 1).heap.size (F3 σ wr.heap.size 9) (w1.heap.size+1)):=⟨lq,by rw[hpd.pbo];omega⟩;have HHE:Hid (∀g,(Value.slice ha hn hc).ownBlock=some g->eK (wr.drewN 1).heap.size (F3 σ wr.heap.size 9) g):=fun g hg=>⟨Bs hpd.hr g hg,by rw[hpd.hro g hg];omega⟩;have HPbN:Hid ((Value.slice ha hn hc).ownBlock≠some (w1.heap.size+1)):=fun e=>by have:=hpd.hro _ e;rw[hpd.pbo]at this;omega
    have HPbc:=A0 hpd.pbc;subst hhn;clear hrk hr hem1 hdn hsn hwf1 hlp1 hlpx hwf2 hbb ho hp hpd hEK e1 e2 q3 h20;unfold Ch at *;go_wp2;go_region_law (first
     | (refine N6 _ w5.heap.size #[.string ⟨l.s.toArray⟩,.int .i64 (l.ps.length:Nat),.int .i64 ((My (Cu c) gl l cc).slots:Nat),.slice sa5 sn5 sc5] 103 (heap_alloc_new w5 (.cells #[.string ⟨l.s.toArray⟩,.int .i64 (l.ps.length:Nat),.int .i64 ((My (Cu c) gl l cc).slots:Nat),.slice sa5 sn5 sc5] 103)) rfl (.tmp 36) (.tmp 40) 99 rfl 0 4 56 _ Tryz.underlying99 Adz rfl z51a (.slice ha fs.length hc) fs.length ms rfl rfl (hown5.alloc _) rfl (fun u hu=>by simp at hu;rcases hu with rfl|rfl|rfl|rfl <;> rfl) z51a z51a (Nat.zero_le _) ?_;intro g6 cap6 w6 hown6 hgrow6' hat6' hg6;have hgrow6:w5.grownBy w6 (Value.slice ha fs.length hc).ownBlock:=Lx (World.grownBy_alloc w5 (.cells #[.string ⟨l.s.toArray⟩,.int .i64 (l.ps.length:Nat),.int .i64 ((My (Cu c) gl l cc).slots:Nat),.slice sa5 sn5 sc5] 103) none) hgrow6';have hat6:(Value.slice ha fs.length hc).ownBlock=some g6\/w5.heap.size<=g6:=(hat6'.imp id (fun e=>by rw[e];simp));have hl6:=(hgrow6.block (w1.heap.size+1) (A5 hpb5) (fun e=>HPbN.o e.symm)).trans hpb5;have z6:=A2 hl6 3 _ rfl;have fq:=Bh hl6;have lq6:=A5 hl6;clear hl6 hgrow6' hat6')
     | (refine F2 rfl 53 _ _ rfl #[.pointer (some ⟨w1.heap.size,0,none⟩),.pointer (some ⟨b,0,none⟩)] (by kernel_rfl) HFun.o ?_;rintro r5 w5 ⟨sa5,sn5,sc5,rfl,hrow5,hne5,Cr,Cl⟩;refine⟨_,rfl,?_⟩;have hpb5:=(Cl.block _ HPbE.o).trans HPbc.o;have hown5:w5.ownsRow 0 103 4 (.slice ha fs.length hc) fs.length ms:=B8 HHr.o (fun k hk hl=>Cl.block k (HHE.o k hk));have z3:=A2 hpb5 3 _ rfl;have l5:=A5 hpb5;have HRow5:=A0 hrow5;have HNe5:=A0 hne5;have Gp:=A0 Cr;have E7:=A0 Cl;clear hrow5 hne5 Cr Cl))
    all_goals go_wp2
    all_goals
     obtain⟨⟨σ7,hp7⟩,hbq⟩:=HPd.o.func (f:=My (Cu c) gl l cc) Gp.o E7.o HRow5.o HNe5.o hown6 hgrow6 hat6;have Ih:A3 (fun g=>D g\/(Value.slice fa fn fc).ownBlock=some g) w2 (w6.setCell ⟨w1.heap.size+1,3,none⟩ (.slice (some ⟨g6,0,none⟩) (fs.length+1) cap6)):=HBel.o.trans ((Dv _ wr 1).trans hbq);go_roundg (gk-1)
     case measure=>omega
     case rel=>exact⟨i+1,gl,ga,gn,gc,_,slots,st,_,_,_,_,σ7,rfl,by omega,hp7,by rw[HDn.o];exact HEm1.o,HSn.o,by omega,by simp;omega,Ih⟩
   ·by_cases h21:l.kd=21
    ·rw[if_neg h20,if_pos h21]at hem1;have hwf2:Wf 0 cc:=by
      rcases hwf1.2 with⟨h0,_⟩|⟨h0,_⟩|⟨h0,_⟩|⟨_,h1,h2⟩|⟨_,h1,h2⟩|⟨_,h1,h2⟩|⟨_,h1,h2⟩
      ·omega
      ·omega
      ·omega
      ·omega
      ·omega
      ·exact h2
      ·omega
     unfold Bx at hnn;rw[if_neg z51a]at hnn;obtain⟨b,cs,rfl,hDb,hbb,hll⟩:=hnn;have e1:Ck l.kd=145:=by rw[h21];rfl
     have e2:Dn l.kd=152:=by rw[h21];rfl
     rw[e1]at d0;rw[e2]at hbb;unfold Cy at hll;simp only[h21]at hll;obtain⟨a,rfl,rfl⟩:=hll;obtain⟨x1,y1,l1,c1,r1,De,rfl,Bk,Au,Hu⟩:=hrk.cons';obtain rfl:=Hu.nil';have hxs:=hwf2.exs;have C1:bsize (.node x1 y1 l1 c1 .nil)=bsize (nd l1 c1):=by rw[Co,bsize];rfl
     have hsm:=No (Cu c) gl l1 c1 hxs.1 hxs.2.1 ⟨[],slots,st,[]⟩;have hst1:=Gk (Cu c) gl l1 c1 ⟨[],slots,st,[]⟩;rw[Ie,em]at hem1;have hEK:∀g,(D g\/(Value.slice fa fn fc).ownBlock=some g)->eK wr.heap.size σ g:=fun g hg=>⟨(HPg.o.dz g hg).1,by rw[(HPg.o.dz g hg).2];omega⟩;have HC:=A0 (HPg.o.st.expr hxs.1 hxs.2.1 (Bk.weak (fun g hg=>hEK g (.inl hg))) (Ao.keep (fun g hg _=>⟨rfl,hEK g (.inl hg)⟩) _ _ Au) (by simp only;omega));generalize Hs:As (Cu c) gl l1 (Az c1) (em (Cu c) gl c1) ⟨[],slots,st,[]⟩=C5 at *;obtain⟨Gv,sl1,st1,lp1⟩:=C5;obtain⟨Al,B5,Ca⟩:=hsm;simp only at Al B5 Ca hst1;subst Al B5 Ca;have d2:=A2 hbb 2 a rfl;have ld:=A5 hbb;have HBb:=A0 hbb;have Dh:=A3z 145 z52a;have Dz:=A3p;have HEm1:=A0 hem1;have HDn:=A0 hdn;have hsn:(st1++[(⟨4,(gl.length:Nat),0,Ab⟩:Af)]).length+2*bsize (Cd (i+1) c)<=700000:=by rw[hdn];simp;omega
     have HSn:=A0 hsn;have HEK:=A0 hEK;clear hr hem1 hdn hsn hwf1 hlp1 hwf2 hbb Bk Au Hu hrk hEK e1 e2 hxs Hs h20 h21;unfold Ch at *;go_wp2_with fail
     refine HC.o.mono ?_;rintro r9 w5 ⟨rfl,Cr,Cl⟩;have hp5:=HPg.o.next Cr Cl;have hB5:A3 (fun g=>D g\/(Value.slice fa fn fc).ownBlock=some g) w2 w5:=HBel.o.trans (Cl.weak (fun g hg=>HEK.o g hg));have hbk5:=(Cl.block b (HEK.o b (.inl hDb))).trans HBb.o;have HBb5:=A0 hbk5;have Ew:=A0 hp5;have E7:=A0 hB5;obtain⟨ρ5,la5,ln5,lc5,pa5,pn5,pc5,bl5,h5,_⟩:=hp5.st;obtain⟨sa5,sn5,sc5,Ik⟩:=h5.ew;have g1:=A2 Ik.cell 1 _ rfl;have lg1:=A5 Ik.cell;have hgn:gn=gl.length:=(Cg hp5.gr).1;simp only at g1 lg1;have hgl9:gl.length<=60000:=by omega
     subst hgn;have HStp:=A0 (hp5.st.step (by simp only;omega) 4 (gl.length:Nat) 0);clear Cr Cl hp5 hB5 h5 Ik d2 ld hbk5;go_wp2_with fail
     refine HStp.o.mono ?_;rintro r9 w6 ⟨rfl,Eb,hb6⟩;have hp6:=Ew.o.next Eb hb6;have I8:Hid (A3 (fun g=>D g\/(Value.slice fa fn fc).ownBlock=some g) w2 w6):=E7.o.trans (hb6.weak (fun g hg=>⟨(Ew.o.dz g hg).1,by rw[(Ew.o.dz g hg).2];omega⟩));have hbk6:=(hb6.block b ⟨(Ew.o.dz b (.inl hDb)).1,by rw[(Ew.o.dz b (.inl hDb)).2];omega⟩).trans HBb5.o;have d1:w6.cell? ⟨b,1,none⟩=some (.string ⟨l.s.toArray⟩):=A2 hbk6 1 _ rfl;have ld:=A5 hbk6;obtain⟨ρ6,la6,ln6,lc6,pa6,pn6,pc6,bl6,h6,_⟩:=hp6.st;obtain⟨sa6,sn6,sc6,hv6⟩:=h6.ew;have hcw6:=hv6.cell;have g1:=A2 hv6.cell 1 _ rfl;have lg1:=A5 hv6.cell;simp only at g1 lg1;have hown6:w6.drew.ownsRow 0 9 1 (.slice ga gl.length gc) gl.length (Dg gl):=B8 hp6.gr (fun _ _ _=>rfl);have hnb:(Value.slice ga gl.length gc).ownBlock≠some w1.heap.size:=fun e=>hp6.st.lo.2.2 ⟨hp6.st.lo.2.1,by show F3 _ _ _ w1.heap.size<5;rw[hp6.gro _ e];omega⟩;have HCw6:=A0 hcw6;have HNb:=A0 hnb;have HP6:=A0 hp6;clear Eb hb6 hp6 h6 hv6 hbk6 hcw6 hnb;go_wp2;go_region_law (refine N6 _ w6.heap.size #[.string ⟨l.s.toArray⟩] 9 (heap_alloc_new w6.drew (.cells #[.string ⟨l.s.toArray⟩] 9)) rfl (.tmp 64) (.tmp 70) 37 rfl 0 1 16 (.string ⟨#[]⟩) Tryz.underlying37 Wz rfl z51a (.slice ga gl.length gc) gl.length (Dg gl) rfl rfl (hown6.alloc _) rfl (fun u hu=>by simp at hu;rw[hu];rfl) z51a z51a (Nat.zero_le _) ?_;intro g7 cap7 w7 hown7 hgrow7' hat7' hg7;have hgrow7:w6.drew.grownBy w7 (Value.slice ga gl.length gc).ownBlock:=Lx (World.grownBy_alloc w6.drew (.cells #[.string ⟨l.s.toArray⟩] 9) none) hgrow7';have hat7:(Value.slice ga gl.length gc).ownBlock=some g7\/w6.drew.heap.size<=g7:=(hat7'.imp id (fun e=>by rw[e];simp));have hl7:=(hgrow7.block w1.heap.size lg1 (fun e=>HNb.o e.symm)).trans HCw6.o;have z7:=A2 hl7 1 _ rfl;have fq:=Bh hl7;have lq7:=A5 hl7;clear hl7 hgrow7' hat7')
     all_goals go_wp2
     all_goals
      obtain⟨⟨σ8,hp8⟩,hb8⟩:=(HP6.o.next (HP6.o.st.drewN 1) (Dv _ w6 1)).Ads l.s (by show gl.length+1<=_;omega) hown7 hgrow7 hat7;have hbq:A3 (fun g=>D g\/(Value.slice fa fn fc).ownBlock=some g) w2 (w7.setCell ⟨w1.heap.size,1,none⟩ (.slice (some ⟨g7,0,none⟩) (gl.length+1) cap7)):=I8.o.trans ((Dv _ w6 1).trans hb8);go_roundg (gk-1)
      case measure=>omega
      case rel=>exact⟨i+1,gl++[l.s],_,_,_,fs,_,_,ms,ha,hn,hc,σ8,rfl,by omega,hp8,by rw[HDn.o];exact HEm1.o,HSn.o,by simp;omega,by omega,hbq⟩
    ·rw[if_neg h20,if_neg h21,A01]at hem1;have hlpx:=hlp1.1;rw[if_neg h20]at hlpx;have Fx:=hwf1.Agh h20;have hkd:=hwf1.kd4 h20 h21;obtain⟨slots',st',hE⟩:=Abx (Cu c) gl l cc Fx h21 ⟨[],slots,st,[]⟩ rfl rfl;have hst1:=Gk (Cu c) gl l cc ⟨[],slots,st,[]⟩;rw[hE]at hst1 hem1;have hE':=A0 hE;have hEK:∀g,(D g\/(Value.slice fa fn fc).ownBlock=some g)->eK wr.heap.size σ g:=fun g hg=>⟨(HPg.o.dz g hg).1,by rw[(HPg.o.dz g hg).2];omega⟩;have HC:=A0 (((A4w ⟨w1.heap.size,137,Cu c,fa,fn,fc,gl,ga,gn,gc⟩ (nd l cc)).1 Fx).1 [] _ wr ⟨[],slots,st,[]⟩ v ks' HPg.o.st (hnn.weak (fun g hg=>hEK g (.inl hg))) (Ao.keep (fun g hg _=>⟨rfl,hEK g (.inl hg)⟩) _ _ hrk) hlpx (fun x hx=>by cases hx) (by simp only;omega) z6ma z6ma);unfold Bx at hnn;rw[if_neg z51a]at hnn;obtain⟨b,cs,rfl,_,_,_⟩:=hnn;have Dh:=A3z (Ck l.kd) (A33 (.inl hkd));have Dz:=N4 (Ck l.kd) (Ahz hkd);have HEm1:=A0 hem1;have HDn:=A0 hdn;have hsn:st'.length+2*bsize (Cd (i+1) c)<=700000:=by rw[hdn];simp only at hst1;omega
     have HSn:=A0 hsn;have HEK:=A0 hEK;clear hrk hr hem1 hdn hsn hwf1 hlp1 hlpx Fx hE hEK;generalize Ck l.kd=tt at *;unfold Ch at *;go_wp2_with fail
     refine HC.o.mono ?_;rintro r9 w9 ⟨rfl,Fj,D1⟩;have hs9':(⟨w1.heap.size,137,Cu c,fa,fn,fc,gl,ga,gn,gc⟩:EC).St [] (eK wr.heap.size σ) w9 ⟨[],slots',st',[]⟩:=by rw[<-hE'.out];exact Fj
     have HPg9:=A0 (HPg.o.next hs9' D1);have Da:Hid (A3 (fun g=>D g\/(Value.slice fa fn fc).ownBlock=some g) w2 w9):=HBel.o.trans (D1.weak (fun g hg=>HEK.o g hg));clear Fj hs9' D1;go_wp2;go_roundg (gk-1)
     case measure=>omega
     case rel=>exact⟨i+1,gl,ga,gn,gc,fs,slots',st',ms,ha,hn,hc,_,rfl,by omega,HPg9.o,by rw[HDn.o];exact HEm1.o,HSn.o,by omega,by omega,Da.o⟩
  ·have h0:Cd i c=.nil:=by
    exact z1wa
   have hem1:=HEm.o;rw[h0,Kw]at hem1;have HEm1:=A0 hem1;have hpg:=HPg.o;obtain⟨ρ5,la5,ln5,lc5,pa5,pn5,pc5,bl5,h5,_⟩:=hpg.st;obtain⟨sa5,sn5,sc5,Ik⟩:=h5.ew;obtain⟨c0,c1,c2,c3,c4,c5,fz,lb⟩:=Td Ik.cell;obtain⟨q0,q1,q2,q3,fq,lq⟩:=E4 hpg.pbc;have hgn:gn=gl.length:=(Cg hpg.gr).1;simp only at c0 c1 c2 c3 c4 c5 fz lb;subst hgn;have hgl9:gl.length<=60000:=by omega
   have hne:w1.heap.size≠w1.heap.size+1:=by omega
   have HV5:=A0 Ik;have H5:=A0 h5;clear hem1 h0 hpg h5 Ik;go_wp2;go_ret;obtain⟨E,k1,k2,k3⟩:=Acj HPg.o H5.o HV5.o _ rfl;rw[HEm1.o]at k1;exact⟨_,rfl,E,k1,fun g hg=>⟨fun hd=>(k2 g hg).1 (.inl hd),(k2 g hg).2⟩,HBD.o.trans (k3.weak (fun g hg=>.inl hg))⟩
end
end Go.Proofs.YtjdlndhfaaolaaaGreatDoor
