import Derived.Test.YtjdlndhfaaolaaaGreatDoorY23
import Derived.Test.YtjdlndhfaaolaaaGreatDoorY25
set_option maxHeartbeats 20000000
set_option linter.all false
namespace Go.Proofs.YtjdlndhfaaolaaaGreatDoor
section
set_option maxRecDepth 100000
open Go.RowKit
open Go.Deep (BT)
def To(K:EC)(l:A5)(c:BT A5):Prop:=(l.kd=31\/l.kd=32)->Dp (Nb K) c
def Ahh(d:Em):d.cut d.loc.length=d:=by
 unfold Em.cut;rw[Q1]
def Qf(n:Nat)(e:Em):(e.cut n).st.length=e.st.length:=rfl
def Ahy(fns:List (Nm×Nat))(gl:List Nm)(line x1 y1 x2 y2:Nat)(l1 l2:A5)(c1 c2:BT A5)(e:Em)(h31:l2.kd=31) :
  M3 line (Aj (.node x1 y1 l1 c1 (.node x2 y2 l2 c2 .nil))) (em fns gl (.node x1 y1 l1 c1 (.node x2 y2 l2 c2 .nil))) e =
   ((((em fns gl c2 0 ((Aq fns gl l1 (Aj c1) (em fns gl c1) e).step 8 0 line)).cut (Aq fns gl l1 (Aj c1) (em fns gl c1) e).loc.length).step 6 0 0).land (Aq fns gl l1 (Aj c1) (em fns gl c1) e).st.length).land (em fns gl c2 0 ((Aq fns gl l1 (Aj c1) (em fns gl c1) e).step 8 0 line)).st.length:=by
 simp[M3,Qh,Y3,Aj,Vo h31];rfl
def Ahz(fns:List (Nm×Nat))(gl:List Nm)(line x1 y1 x2 y2 x3 y3:Nat)(l1 l2 l3:A5)(c1 c2 c3:BT A5)(e:Em)(h31:l2.kd=31)(h32:l3.kd=31) :
  M3 line (Aj (.node x1 y1 l1 c1 (.node x2 y2 l2 c2 (.node x3 y3 l3 c3 .nil)))) (em fns gl (.node x1 y1 l1 c1 (.node x2 y2 l2 c2 (.node x3 y3 l3 c3 .nil)))) e =
   ((em fns gl c3 0 ((((em fns gl c2 0 ((Aq fns gl l1 (Aj c1) (em fns gl c1) e).step 8 0 line)).cut (Aq fns gl l1 (Aj c1) (em fns gl c1) e).loc.length).step 6 0 0).land (Aq fns gl l1 (Aj c1) (em fns gl c1) e).st.length)).cut
    ((em fns gl c2 0 ((Aq fns gl l1 (Aj c1) (em fns gl c1) e).step 8 0 line)).cut (Aq fns gl l1 (Aj c1) (em fns gl c1) e).loc.length).loc.length).land (em fns gl c2 0 ((Aq fns gl l1 (Aj c1) (em fns gl c1) e).step 8 0 line)).st.length:=by
 simp[M3,Qh,Y3,Aik,Aj,Vo h31,Vo h32];rfl
def z2pa {P:Prop} (h:P:=by
  rintro r w7 ⟨rfl,J9,Jv⟩;have HS7:=A0 J9;have HB7:Hid (A3 D w w7):=HB6.o.trans Jv;go_wp2;go_end0;exact⟨rfl,HS7.o,HB7.o⟩):P:=h
def z6ga {P:Prop} (h:P:=by show Ch.loc.length+_<=_;omega):P:=h
def Awt(K:EC)(l:A5)(c:BT A5)(hk:l.kd=22)(ih:Dp (To K) c)(hwf:Wf 2 c)(lbs:List Nat)(D:Nat->Prop)(w:World)(e:Em)(b:Nat)(t:TypeId)(x:Value)(s1:Option Addr)(n1 m1:Nat)(s2:Option Addr)(n2 m2:Nat)(ks:List Value)(hD:D b)
  (hb:w.heap[b]?=some (.cells #[.n l.line,.iface t x,.slice s1 n1 m1,.slice s2 n2 m2] 314 (0,0))) (hks:(ks=[.iface t x,.slice s1 n1 m1]/\Value.slice s2 n2 m2=.slice none 0 0)\/ks=[.iface t x,.slice s1 n1 m1,.slice s2 n2 m2])
  (hr:Ar D w c ks) (hst:K.St lbs D w e) (hlp:Lp (nd l c) e.lps.length) (hbb:E1 e) (hsz:e.st.length+2*bsize (nd l c)<=800000) (hlo:e.loc.length+bsize (nd l c)<=90000) (hll:e.lps.length+bsize (nd l c)<=90000) :
  Calls Tryz.prog 93 #[.p K.wb,.p b] w fun r w'=>r=.returned (.tuple #[])/\K.St lbs D w' (Aq K.fns K.gl l (Aj c) (em K.fns K.gl c) e)/\A3 D w w':=by
 obtain⟨hlw,lcb,hncb⟩:=hst.lo;have hnds:=Cf l c;rw[Xy hk];have d1:=A4 hb 1 _ rfl;have ld:=A6 hb;rcases hks with⟨rfl,Bj⟩|rfl
 ·obtain⟨x1,y1,l1,c1,r1,Du,rfl,Cc,Cd,hz⟩:=hr.cons';obtain⟨x2,y2,l2,c2,r2,I7,rfl,Eu,C7,hzz⟩:=hz.cons';obtain rfl:=hzz.nil';injection Bj with q1 q2 q3;subst q1 q2 q3;obtain⟨Er,I5⟩:=hwf.Nv.1 Cc.Ua.1;obtain⟨D4,C4⟩:=Eu.Rg;obtain⟨h31,_⟩:=hwf.1.Nv.2 D4;have Cu:bsize (.node x1 y1 l1 c1 (.node x2 y2 l2 c2 .nil))=bsize (nd l1 c1)+1+l2.ps.length+bsize c2:=by rw[Cf];simp only[bsize];omega
  have hl1:=I0 K.fns K.gl l1 c1 e;have Gx:=(Ox K.fns K.gl c2).1 ((Aq K.fns K.gl l1 (Aj c1) (em K.fns K.gl c1) e).step 8 0 l.line);have Jw:=Vp K.fns K.gl c2 0 ((Aq K.fns K.gl l1 (Aj c1) (em K.fns K.gl c1) e).step 8 0 l.line);rw[Ea]at Gx Jw;have hsm:=Qg K.fns K.gl l1 c1 Er I5 e;have hlc1:(Aq K.fns K.gl l1 (Aj c1) (em K.fns K.gl c1) e).loc.length<=e.loc.length:=by rw[hsm.2.1];exact Af _
  have HLp1:Hid ((Aq K.fns K.gl l1 (Aj c1) (em K.fns K.gl c1) e).lps.length=e.lps.length):=by show _=_;rw[hsm.1]
  have HLpc:Hid (Lp (.node x1 y1 l1 c1 (.node x2 y2 l2 c2 .nil)) e.lps.length):=by have:=hlp.2.1;rw[Ai]at this;exact this
  have hpc2:Lp c2 e.lps.length:=by have:=HLpc.o.2.2.2.1;rw[Ai]at this;exact this
  have HLp2:Hid ((em K.fns K.gl c2 0 ((Aq K.fns K.gl l1 (Aj c1) (em K.fns K.gl c1) e).step 8 0 l.line)).lps.length=e.lps.length):=(Y2 _ _ _ _ _).trans HLp1.o;rw[Ahy K.fns K.gl l.line x1 y1 x2 y2 l1 l2 c1 c2 e h31];have HC1:=A0 (hst.expr Er I5 Cc Cd z4ma);have HBm1:=A0 (Y0 K.fns K.gl l1 c1 e hbb);have HBm2:=A0 (Y1 K.fns K.gl c2 0 _ (HBm1.o.step 8 0 l.line));have Fx:=A0 (fun(W:World) (e2:Em) (hx:K.St lbs D W e2) (hbd:A3 D w W) (h1:e2.st.length+2*bsize c2<=800000) (h2:e2.loc.length+bsize c2<=90000) (h3:e2.lps.length=e.lps.length) (h4:E1 e2)=>Ww K c2 (ih.2.1 D4) lbs D W e2 s1 n1 m1 I7 hx (C4.Bv hbd) (C7.Bv hbd) (by rw[h3];exact hpc2) h4 h1 h2 z4ma);have HC3:=A0 (fun(W:World) (e2:Em) (hx:K.St lbs D W e2) (h1:e2.st.length<=800000) (h2:e2.loc.length<=90000) (h3:e2.lps.length<=90000) (h4:E1 e2)=>Ww K .nil trivial lbs D W e2 none 0 0 [] hx (Rr _ _ _ _) rfl trivial h4 z5ma z5ma z5ma);generalize J8:Aq K.fns K.gl l1 (Aj c1) (em K.fns K.gl c1) e=Ch at *;generalize hE2:em K.fns K.gl c2 0 (Ch.step 8 0 l.line)=G6 at *;go_in;go_wp2_with fail
  refine(HC1.o).mono ?_;rintro r w1 ⟨rfl,Ax,A2⟩;have B5:=A0 Ax;have A9:Hid (A3 D w w1):=A2;have C8:=(A9.o.block b hD).trans hb;have d0:w1.cell? ⟨b,0,none⟩=some (.n l.line):=A4 C8 0 _ rfl;have ld:=A6 C8;go_wp2_with fail
  refine(B5.o.step z4ma 8 0 l.line).mono ?_;rintro r w2 ⟨rfl,Bj,Ad⟩;have Au:=A0 Bj;have Ab:Hid (A3 D w w2):=A9.o.trans Ad;have Ep:=(Ab.o.block b hD).trans hb;have d2:=A4 Ep 2 _ rfl;have ld:=A6 Ep;go_wp2_with fail
  refine(Fx.o _ _ Au.o Ab.o z6fa z6ga HLp1.o (HBm1.o.step _ _ _)).mono ?_;rintro r w3 ⟨rfl,Dc,Ay⟩;rw[hE2]at Dc;have Bu:=A0 Dc;have Ba:Hid (A3 D w w3):=Ab.o.trans Ay;have Gc:=(Ba.o.block b hD).trans hb;have ld:=A6 Gc;go_wp2_with fail
  refine(Bu.o.step (by show G6.st.length<=_;omega) 6 0 0).mono ?_;rintro r w4 ⟨rfl,He,Bz⟩;have Ft:=A0 He;have D6:Hid (A3 D w w4):=Ba.o.trans Bz;have hbk4:=(D6.o.block b hD).trans hb;have ld:=A6 hbk4;have Fp:(G6.cut (Ch.step 8 0 l.line).loc.length).loc.length<=Ch.loc.length:=by show(G6.loc.take Ch.loc.length).length<=_;simp;omega
  go_wp2_with fail
  refine(Ft.o.land Ch.st.length (by rw[Ea,Qf];omega)).mono ?_;rintro r w5 ⟨rfl,Df,Cz⟩;have Ic:=A0 Df;have Ez:Hid (A3 D w w5):=D6.o.trans Cz;have hbk5:=(Ez.o.block b hD).trans hb;have d3:=A4 hbk5 3 _ rfl;have ld:=A6 hbk5;go_wp2_with fail
  refine(HC3.o _ _ Ic.o (by rw[M5,Ea,Qf];omega) (by show(G6.cut (Ch.step 8 0 l.line).loc.length).loc.length<=_;omega) (by have:=HLp2.o;show G6.lps.length<=_;omega) (((HBm2.o.cut _).step _ _ _).land _)).mono ?_;rintro r w6 ⟨rfl,F6,hb6⟩;rw[em,Ahh]at F6;have HS6:=A0 F6;have HB6:Hid (A3 D w w6):=Ez.o.trans hb6;have hbk6:=(HB6.o.block b hD).trans hb;have ld:=A6 hbk6;go_wp2_with fail
  refine(HS6.o.land G6.st.length (by rw[M5,Ea,Qf];omega)).mono ?_;exact z2pa
 ·obtain⟨x1,y1,l1,c1,r1,Du,rfl,Cc,Cd,hz⟩:=hr.cons';obtain⟨x2,y2,l2,c2,r2,I7,rfl,Eu,C7,hzz⟩:=hz.cons';obtain⟨x3,y3,l3,c3,r3,ks3,rfl,hn3,Gg,hz3⟩:=hzz.cons';obtain rfl:=hz3.nil';obtain⟨Er,I5⟩:=hwf.Nv.1 Cc.Ua.1;obtain⟨D4,C4⟩:=Eu.Rg;obtain⟨h31,_⟩:=hwf.1.Nv.2 D4;obtain⟨hk3,E8⟩:=hn3.Rg;obtain⟨h33,_⟩:=hwf.1.1.Nv.2 hk3;have Cu:bsize (.node x1 y1 l1 c1 (.node x2 y2 l2 c2 (.node x3 y3 l3 c3 .nil)))=bsize (nd l1 c1)+1+l2.ps.length+bsize c2+1+l3.ps.length+bsize c3:=by rw[Cf];simp only[bsize];omega
  have hl1:=I0 K.fns K.gl l1 c1 e;have Gx:=(Ox K.fns K.gl c2).1 ((Aq K.fns K.gl l1 (Aj c1) (em K.fns K.gl c1) e).step 8 0 l.line);have Jw:=Vp K.fns K.gl c2 0 ((Aq K.fns K.gl l1 (Aj c1) (em K.fns K.gl c1) e).step 8 0 l.line);rw[Ea]at Gx Jw;have hsm:=Qg K.fns K.gl l1 c1 Er I5 e;have hlc1:(Aq K.fns K.gl l1 (Aj c1) (em K.fns K.gl c1) e).loc.length<=e.loc.length:=by rw[hsm.2.1];exact Af _
  have HLp1:Hid ((Aq K.fns K.gl l1 (Aj c1) (em K.fns K.gl c1) e).lps.length=e.lps.length):=by show _=_;rw[hsm.1]
  have HLpc:Hid (Lp (.node x1 y1 l1 c1 (.node x2 y2 l2 c2 (.node x3 y3 l3 c3 .nil))) e.lps.length):=by have:=hlp.2.1;rw[Ai]at this;exact this
  have hpc2:Lp c2 e.lps.length:=by have:=HLpc.o.2.2.2.1;rw[Ai]at this;exact this
  have HLp2:Hid ((em K.fns K.gl c2 0 ((Aq K.fns K.gl l1 (Aj c1) (em K.fns K.gl c1) e).step 8 0 l.line)).lps.length=e.lps.length):=(Y2 _ _ _ _ _).trans HLp1.o;have hpc3:Lp c3 e.lps.length:=by have:=HLpc.o.2.2.2.2.2.1;rw[Ai]at this;exact this
  rw[Ahz K.fns K.gl l.line x1 y1 x2 y2 x3 y3 l1 l2 l3 c1 c2 c3 e h31 h33];have HC1:=A0 (hst.expr Er I5 Cc Cd z4ma);have HBm1:=A0 (Y0 K.fns K.gl l1 c1 e hbb);have HBm2:=A0 (Y1 K.fns K.gl c2 0 _ (HBm1.o.step 8 0 l.line));have Fx:=A0 (fun(W:World) (e2:Em) (hx:K.St lbs D W e2) (hbd:A3 D w W) (h1:e2.st.length+2*bsize c2<=800000) (h2:e2.loc.length+bsize c2<=90000) (h3:e2.lps.length=e.lps.length) (h4:E1 e2)=>Ww K c2 (ih.2.1 D4) lbs D W e2 s1 n1 m1 I7 hx (C4.Bv hbd) (C7.Bv hbd) (by rw[h3];exact hpc2) h4 h1 h2 z4ma);have HC3:=A0 (fun(W:World) (e2:Em) (hx:K.St lbs D W e2) (hbd:A3 D w W) (h1:e2.st.length+2*bsize c3<=800000) (h2:e2.loc.length+bsize c3<=90000) (h3:e2.lps.length=e.lps.length) (h4:E1 e2)=>Ww K c3 (ih.2.2.1 hk3) lbs D W e2 s2 n2 m2 ks3 hx (E8.Bv hbd) (Gg.Bv hbd) (by rw[h3];exact hpc3) h4 h1 h2 z4ma);generalize J8:Aq K.fns K.gl l1 (Aj c1) (em K.fns K.gl c1) e=Ch at *;generalize hE2:em K.fns K.gl c2 0 (Ch.step 8 0 l.line)=G6 at *;go_in;go_wp2_with fail
  refine(HC1.o).mono ?_;rintro r w1 ⟨rfl,Ax,A2⟩;have B5:=A0 Ax;have A9:Hid (A3 D w w1):=A2;have C8:=(A9.o.block b hD).trans hb;have d0:w1.cell? ⟨b,0,none⟩=some (.n l.line):=A4 C8 0 _ rfl;have ld:=A6 C8;go_wp2_with fail
  refine(B5.o.step z4ma 8 0 l.line).mono ?_;rintro r w2 ⟨rfl,Bj,Ad⟩;have Au:=A0 Bj;have Ab:Hid (A3 D w w2):=A9.o.trans Ad;have Ep:=(Ab.o.block b hD).trans hb;have d2:=A4 Ep 2 _ rfl;have ld:=A6 Ep;go_wp2_with fail
  refine(Fx.o _ _ Au.o Ab.o z6fa z6ga HLp1.o (HBm1.o.step _ _ _)).mono ?_;rintro r w3 ⟨rfl,Dc,Ay⟩;rw[hE2]at Dc;have Bu:=A0 Dc;have Ba:Hid (A3 D w w3):=Ab.o.trans Ay;have Gc:=(Ba.o.block b hD).trans hb;have ld:=A6 Gc;go_wp2_with fail
  refine(Bu.o.step (by show G6.st.length<=_;omega) 6 0 0).mono ?_;rintro r w4 ⟨rfl,He,Bz⟩;have Ft:=A0 He;have D6:Hid (A3 D w w4):=Ba.o.trans Bz;have hbk4:=(D6.o.block b hD).trans hb;have ld:=A6 hbk4;have Fp:(G6.cut (Ch.step 8 0 l.line).loc.length).loc.length<=Ch.loc.length:=by show(G6.loc.take Ch.loc.length).length<=_;simp;omega
  go_wp2_with fail
  refine(Ft.o.land Ch.st.length (by rw[Ea,Qf];omega)).mono ?_;rintro r w5 ⟨rfl,Df,Cz⟩;have Ic:=A0 Df;have Ez:Hid (A3 D w w5):=D6.o.trans Cz;have hbk5:=(Ez.o.block b hD).trans hb;have d3:=A4 hbk5 3 _ rfl;have ld:=A6 hbk5;have hl3:=(Ox K.fns K.gl c3).1 (((G6.cut (Ch.step 8 0 l.line).loc.length).step 6 0 0).land Ch.st.length);have hg3:=Vp K.fns K.gl c3 0 (((G6.cut (Ch.step 8 0 l.line).loc.length).step 6 0 0).land Ch.st.length);rw[M5,Ea,Qf]at hg3 hl3;go_wp2_with fail
  refine(HC3.o _ _ Ic.o Ez.o (by rw[M5,Ea,Qf];omega) (by show(G6.cut (Ch.step 8 0 l.line).loc.length).loc.length+_<=_;omega) HLp2.o (((HBm2.o.cut _).step _ _ _).land _)).mono ?_;rintro r w6 ⟨rfl,F6,hb6⟩;have HS6:=A0 F6;have HB6:Hid (A3 D w w6):=Ez.o.trans hb6;have hbk6:=(HB6.o.block b hD).trans hb;have ld:=A6 hbk6;go_wp2_with fail
  refine(HS6.o.land G6.st.length (by rw[Qf];omega)).mono ?_;exact z2pa
def Awm(K:EC)(l:A5)(c:BT A5)(hk:l.kd=22)(ih:Dp (To K) c)(hwf:Wf 2 c):Nb K l c:=by
 intro lbs D w e v ks hst hn hr hlp hbb hsz hlo hll;obtain⟨hlw,lcb,hncb⟩:=hst.lo;have hnds:=Cf l c;unfold Bx at hn;rw[Ai]at hn;obtain⟨b,cs,rfl,hD,hb,hl⟩:=hn;have e1:Cw l.kd=253:=by rw[hk];rfl
 have e2:E4 l.kd=314:=by rw[hk];rfl
 rw[e1];rw[e2]at hb;unfold Di at hl;simp only[hk]at hl;obtain⟨t,x,s1,n1,m1,s2,n2,m2,rfl,hks⟩:=hl;have HC:=Awt K l c hk ih hwf lbs D w e b t x s1 n1 m1 s2 n2 m2 ks hD hb hks hr hst hlp hbb hsz hlo hll;have ld:=A6 hb;have Dy:=Pr 253 z4oa;have Ee:=As8;exact z4ha
end
section
set_option maxRecDepth 100000
open Go.RowKit
open Go.Deep (BT)
variable {K:EC}{D:Nat->Prop}{w:World}{e:Em}{ρ:Nat->Nat}{la:Option Addr}{ln lc:Nat}{pa:Option Addr}{pn pc:Nat}{lb:Nat}{ba:Option Addr}{bn bc:Nat}{br:List LB}
def EC.St.top{K:EC}{lbs:List Nat}{D:Nat->Prop}{w:World}{e:Em}(h:K.St lbs D w e)(h0:e.lps.length≠0)(hb:e.lps.length<=90000) :
  ∃lb lr s bs r ba bn bc,lbs=lb::lr/\e.lps=(s,bs)::r/\lb<w.heap.size/\w.heap[lb]?=some (.cells #[.n s,.slice ba bn bc] 263 (0,0))/\w.ownsRow 0 3 1 (.slice ba bn bc) (Dr bs).length (Dr bs)/\bn=bs.length/\
   Calls Tryz.prog 96 #[.pointer (some ⟨K.wb,3,none⟩)] w (fun r' w'=>r'=.returned (.p lb)/\w'=w):=by
 obtain⟨ρ,la,ln,lc,pa,pn,pc,bl,h,hlb⟩:=h;obtain⟨sa,sn,sc,hv⟩:=h.ew;have hlp:=h.lps;have hln:=hlp.len;cases hq:e.lps with
 | nil=>rw[hq]at h0;exact absurd rfl h0
 | cons x r=>
  cases hbl:bl with
  | nil=>rw[hbl,hq]at hlp;exact hlp.elim
  | cons b br=>
   rw[hbl,hq]at hlp;obtain⟨k1,k2,k3,k4,k5⟩:=hlp;have hst:=h.Ta hv;rw[hbl]at hst;have hl:((b::br).map fun b=>Cs b.1).reverse.length=br.length+1:=by simp
   have hbr:br.length<=90000:=by rw[hbl]at hln;simp at hln;omega
   have ht:=A9h hst (by rw[hl];omega) br.length (by rw[hl];omega) hl;have hx:(((b::br).map fun b=>Cs b.1).reverse)[br.length]'(by rw[hl];omega)=.p b.1:=by
    simp[Cs]
   rw[hx]at ht;refine⟨b.1,br.map Prod.fst,x.1,x.2,r,b.2.1,b.2.2.1,b.2.2.2,by rw[←hlb,hbl];rfl,rfl,A6 k1,k1,k2,?_,ht⟩;have:=(Cm k2).1;rw[this];simp[Dr]
def EC.Sv.A7d(h:K.Sv D w e ρ la ln lc pa pn pc ((lb,ba,bn,bc)::br)){s:Nat}{bs:List Nat}{r:List (Nat×List Nat)}(hq:e.lps=(s,bs)::r) :
  w.heap[lb]?=some (.cells #[.n s,.slice ba bn bc] 263 (0,0)):=by
 have:=h.lps;rw[hq]at this;exact this.1
def EC.Sv.A1n(h:K.Sv D w e ρ la ln lc pa pn pc ((lb,ba,bn,bc)::br)){s:Nat}{bs:List Nat}{r:List (Nat×List Nat)}(hq:e.lps=(s,bs)::r) :
  w.ownsRow 0 3 1 (.slice ba bn bc) (Dr bs).length (Dr bs):=by
 have:=h.lps;rw[hq]at this;exact this.2.1
def EC.Sv.Ama(h:K.Sv D w e ρ la ln lc pa pn pc ((lb,ba,bn,bc)::br)){s:Nat}{bs:List Nat}{r:List (Nat×List Nat)}(hq:e.lps=(s,bs)::r) :
  (Value.slice ba bn bc).ownBlock≠some lb:=by
 have:=h.lps;rw[hq]at this;intro e1;have h1:=this.2.2.2.1 lb e1;have h2:=this.2.2.1;simp only at h2;omega
def Awk(K:EC)(l:A5)(c:BT A5)(hk:l.kd=26):Nb K l c:=by
 intro lbs D w e v ks hst hn hr hlp hbb hsz hlo hll;obtain⟨hlw,lcb,hncb⟩:=hst.lo;have hnds:=Cf l c;unfold Bx at hn;rw[Ai]at hn;obtain⟨b,cs,rfl,hD,hb,hl⟩:=hn;have e1:Cw l.kd=264:=by rw[hk];rfl
 have e2:E4 l.kd=368:=by rw[hk];rfl
 rw[e1];rw[e2]at hb;unfold Di at hl;simp only[hk]at hl;rw[A0d hk];obtain⟨rfl,rfl⟩:=hl;have I4:e.lps.length≠0:=hlp.1 (.inr hk);obtain⟨lb,lr,s,bs,r,ba,bn,bc,rfl,hq,llb,hlb,hown,rfl,HT⟩:=hst.top I4 z4ma;have hE:e.cnt=e.step 6 (s:Nat) 0:=by unfold Em.cnt;rw[hq]
 rw[hE];have HSt:=hst.step z4ma 6 (s:Nat) 0;have g0:=A4 hlb 0 _ rfl;have ld:=A6 hb;have Dy:=Pr 264 z4oa;have Ee:=Rv 264 z4oa;have Fa:=T9 264 z4oa;have Ga:=Up 264 z4oa;have Hj:=Wl 264 z4oa;have Jf:=As5;unfold Cs;go_in;go_wp2_with fail
 refine HT.mono ?_;rintro r w ⟨rfl,rfl⟩;go_wp2_with fail
 refine(HSt).mono ?_;exact z0za
def Awj(K:EC)(l:A5)(c:BT A5)(hk:l.kd=25):Nb K l c:=by
 intro lbs D w e v ks hst hn hr hlp hbb hsz hlo hll;obtain⟨hlw,lcb,hncb⟩:=hst.lo;have hnds:=Cf l c;unfold Bx at hn;rw[Ai]at hn;obtain⟨b,cs,rfl,hD,hb,hl⟩:=hn;have e1:Cw l.kd=259:=by rw[hk];rfl
 have e2:E4 l.kd=367:=by rw[hk];rfl
 rw[e1];rw[e2]at hb;unfold Di at hl;simp only[hk]at hl;rw[A0c hk];obtain⟨rfl,rfl⟩:=hl;have I4:e.lps.length≠0:=hlp.1 (.inl hk);obtain⟨lb,lr,s,bs,r,ba,bn,bc,rfl,hq,llb,_,_,rfl,HT⟩:=hst.top I4 z4ma;have HTop:=A0 HT;obtain⟨ρ,la,ln,lc,pa,pn,pc,bl,h,hlb⟩:=hst;obtain⟨b2,br,rfl⟩:∃b2 br,bl=b2::br:=by
  cases bl with
  | nil=>simp at hlb
  | cons b2 br=>exact⟨b2,br,rfl⟩
 simp only[Q2,V3]at hlb;obtain⟨rfl,rfl⟩:=hlb;have hlps:=h.lps;rw[hq]at hlps;obtain⟨k1,k2,k3,k4,k5⟩:=hlps;obtain⟨lb,ba,bn,bc⟩:=b2;simp only[Pm]at k1 k2 k4 llb HTop HT k3;have hbn:bn=(Dr bs).length:=(Cm k2).1;have hbk:(Dr bs).length=bs.length:=by simp[Dr]
 subst hbn;obtain⟨hd,hdb⟩:=h.Ro (Eb _ w 1) (h.Pu.drewN 1) rfl;have HStep:=A0 (N1 hd.ew z4ma 6 0 0);have HD:=A0 hd;have hbs:bs.length<=800000:=by
  have:=(hbb (s,bs) z6ia).1;simp only at this;omega
 have hbl:(Dr bs).length<=800000:=by rw[hbk];exact hbs
 clear hbk hbs;have g0:=A4 k1 0 _ rfl;have g1:=A4 k1 1 _ rfl;have fz:=By k1;have HK1:=A0 k1;have HK3:=A0 k3;have HE:Hid (e.Ip=⟨e.loc,e.slots,e.st++[⟨6,0,0,Bb⟩],(s,bs++[e.st.length])::r⟩):=by show _=_;unfold Em.Ip;rw[hq]
 have HQ:=A0 hq;have ld:=A6 hb;have Dy:=Pr 259 z4oa;have Ee:=Rv 259 z4oa;have Fa:=T9 259 z4oa;have Ga:=Up 259 z4oa;have Hj:=As4;clear hb e1 e2 hk hr hlp hbb HT I4 h hd hdb k1 k2 k3 k4 k5 hq;unfold Cs;go_in;go_wp2_with fail
 refine HTop.o.mono ?_;rintro r w ⟨rfl,rfl⟩;go_wp2_with fail
 go_region_law (first
  | (refine Pt _ w5.heap.size #[.n e.st.length] 3 (Bp w5 (.cells #[.n e.st.length] 3)) rfl (.tmp 62) (.tmp 65) 34 rfl 0 1 8 (.i 0) Tryz.underlying34 A1f rfl z4ma (.slice ba (Dr bs).length bc) (Dr bs).length (Dr bs) rfl rfl (hown5.alloc _) rfl (fun u hu=>by simp at hu;rw[hu];rfl) z4ma z4ma (De _) ?_;intro g6 cap6 w6 hown6 hgrow6' hat6' hg6;have hgrow6:w5.grownBy w6 (Value.slice ba (Dr bs).length bc).ownBlock:=Oh (Oo w5 (.cells #[.n e.st.length] 3) none) hgrow6';have hat6:(Value.slice ba (Dr bs).length bc).ownBlock=some g6\/w5.heap.size<=g6:=(hat6'.imp id (fun e=>by rw[e];simp));have hl6:=(hgrow6.block lb l5 (fun e=>hnl5 e.symm)).trans hl5;have q1:=A4 hl6 1 _ rfl;have fq:=By hl6;have lq:=A6 hl6;clear hl6 hgrow6' hat6')
  | (refine F9 rfl 55 _ _ rfl #[.p K.wb,.i 6,.i 0,.i 0] (by kernel_rfl) HStep.o ?_;rintro r5 w5 ⟨rfl,Df,Cz⟩;refine⟨_,rfl,?_⟩;have Kk:=HD.o.Ro Cz (HD.o.Pu.next (e':=e.step 6 0 0) Cz Df rfl) rfl;have hl5:w5.heap[lb]?=some (.cells #[.n s,.slice ba (Dr bs).length bc] 263 (0,0)):=Kk.1.A7d HQ.o;have hown5:w5.ownsRow 0 3 1 (.slice ba (Dr bs).length bc) (Dr bs).length (Dr bs):=Kk.1.A1n HQ.o;have hnl5:(Value.slice ba (Dr bs).length bc).ownBlock≠some lb:=Kk.1.Ama HQ.o;have l5:=A6 hl5;have z0:=A4 hl5 0 _ rfl;have z1:=A4 hl5 1 _ rfl;have f5:=By hl5;have HV5:=A0 Kk;clear Df Cz Kk))
 all_goals go_wp2
 all_goals go_end0
 all_goals
  obtain⟨k1,k2⟩:=HV5.o.1.Acl HQ.o e.st.length hown6 hgrow6 hat6;rw[HE.o];exact⟨rfl,k1,(Eb D w 1).trans (HV5.o.2.trans k2)⟩
end
section
set_option maxRecDepth 100000
open Go.RowKit
open Go.Deep (BT)
def Afg{bs:List Nat}{i:Nat}(h:i<bs.length):(Dr bs)[i]?=some (.n (bs[i])):=by
 rw[Dr,Qt,Eh h];rfl
def Aih(fns:List (Nm×Nat))(gl:List Nm)(line x1 y1 x2 y2:Nat)(l1 l2:A5)(c1 c2:BT A5)(e:Em)(h32:l2.kd=32) :
  Ow line (em fns gl (.node x1 y1 l1 c1 (.node x2 y2 l2 c2 .nil))) e =
   (((((em fns gl c2 0 ((Aq fns gl l1 (Aj c1) (em fns gl c1) e.open').step 7 0 line)).cut (Aq fns gl l1 (Aj c1) (em fns gl c1) e.open').loc.length).step 6 (e.st.length:Nat) 0).land (Aq fns gl l1 (Aj c1) (em fns gl c1) e.open').st.length).E7
    ((((em fns gl c2 0 ((Aq fns gl l1 (Aj c1) (em fns gl c1) e.open').step 7 0 line)).cut (Aq fns gl l1 (Aj c1) (em fns gl c1) e.open').loc.length).step 6 (e.st.length:Nat) 0).land (Aq fns gl l1 (Aj c1) (em fns gl c1) e.open').st.length).Kv).close:=by
 simp[Ow,Qh,Y3,A0j h32];rfl
def Awv(K:EC)(l:A5)(c:BT A5)(hk:l.kd=23)(ih:Dp (To K) c)(hwf:Wf 3 c)(lbs:List Nat)(D:Nat->Prop)(w:World)(e:Em)(b:Nat)(t:TypeId)(x:Value)(s1:Option Addr)(n1 m1:Nat)(hD:D b)
  (hb:w.heap[b]?=some (.cells #[.n l.line,.iface t x,.slice s1 n1 m1] 317 (0,0)))
  (hr:Ar D w c [.iface t x,.slice s1 n1 m1]) (hst:K.St lbs D w e) (hlp:Lp (nd l c) e.lps.length) (hbb:E1 e) (hsz:e.st.length+2*bsize (nd l c)<=800000) (hlo:e.loc.length+bsize (nd l c)<=90000) (hll:e.lps.length+bsize (nd l c)<=90000) :
  Calls Tryz.prog 94 #[.p K.wb,.p b] w fun r w'=>r=.returned (.tuple #[])/\K.St lbs D w' (Aq K.fns K.gl l (Aj c) (em K.fns K.gl c) e)/\A3 D w w':=by
 obtain⟨hlw,lcb,hncb⟩:=hst.lo;have hnds:=Cf l c;rw[A0b hk];have HBk:=A0 hb;have d1:=A4 hb 1 _ rfl;have ld:=A6 hb;obtain⟨x1,y1,l1,c1,r1,Du,rfl,Cc,Cd,hz⟩:=hr.cons';obtain⟨x2,y2,l2,c2,r2,I7,rfl,Eu,C7,hzz⟩:=hz.cons';obtain rfl:=hzz.nil';obtain⟨Er,I5⟩:=hwf.T6.1 Cc.Ua.2;obtain⟨D4,C4⟩:=Eu.Rg;obtain⟨h32,_⟩:=hwf.1.T6.2 D4;have Cu:bsize (.node x1 y1 l1 c1 (.node x2 y2 l2 c2 .nil))=bsize (nd l1 c1)+1+l2.ps.length+bsize c2:=by rw[Cf];simp only[bsize];omega
 have hl1:=I0 K.fns K.gl l1 c1 e.open';have Kj:=A0t K.fns K.gl l1 c1 e.open';have Gx:=(Ox K.fns K.gl c2).1 ((Aq K.fns K.gl l1 (Aj c1) (em K.fns K.gl c1) e.open').step 7 0 l.line);have Jw:=Vp K.fns K.gl c2 0 ((Aq K.fns K.gl l1 (Aj c1) (em K.fns K.gl c1) e.open').step 7 0 l.line);rw[Ea]at Gx Jw;have Cy:e.open'.st.length=e.st.length:=rfl;rw[Cy]at hl1 Kj;clear Cy;have hsm:=Qg K.fns K.gl l1 c1 Er I5 e.open';have hlc1:(Aq K.fns K.gl l1 (Aj c1) (em K.fns K.gl c1) e.open').loc.length<=e.loc.length:=by rw[hsm.2.1];exact Af _
 have HLp1:(Aq K.fns K.gl l1 (Aj c1) (em K.fns K.gl c1) e.open').lps.length=e.lps.length+1:=by show _=_;rw[hsm.1];rfl
 have hpc2:Lp c2 (e.lps.length+1):=by
  have h1:=hlp.2.1;rw[Ai]at h1;have h2:=h1.2.2.2.1;rw[A7 h32]at h2;exact h2
 have HSts:Ey (em K.fns K.gl c2 0 ((Aq K.fns K.gl l1 (Aj c1) (em K.fns K.gl c1) e.open').step 7 0 l.line))=e.st.length::Ey e:=by
  show _=_;rw[A5t];show Ey (Aq K.fns K.gl l1 (Aj c1) (em K.fns K.gl c1) e.open')=_;unfold Ey;rw[hsm.1];rfl
 have HBm1:=Y0 K.fns K.gl l1 c1 e.open' hbb.open';have HBm2:=Y1 K.fns K.gl c2 0 _ (HBm1.step 7 0 l.line);rw[Aih K.fns K.gl l.line x1 y1 x2 y2 l1 l2 c1 c2 e h32];have HHere:=A0 hst.here;obtain⟨ρ,la,ln,lc,pa,pn,pc,bl,h,hlb⟩:=hst;have hbl:bl.length<=90000:=by have:=h.lps.len;omega
 have h1:=h.alloc (.cells #[.n e.st.length,.slice none 0 0] 263) (5+2*bl.length) z4ma;have hbd1:A3 D w (w.alloc (.cells #[.n e.st.length,.slice none 0 0] 263)):=(A3.refl D w).alloc hlw _;have hnew:=Bp w (.cells #[.n e.st.length,.slice none 0 0] 263);obtain⟨sa,sn,sc,hv⟩:=h1.ew;have HPu:=Asy (h1.Ta hv) z4qa (some ⟨w.heap.size,0,none⟩) z4ra;have HPL:=A0 (fun(w1:World) hp=>h1.A1y e.st.length w.heap.size hv hnew (J0 (Af _)) (w':=w1) hp);rw[hlb]at HPL;have HC1:=fun(W:World) (hx:K.St (w.heap.size::lbs) D W e.open') (hbd:A3 D w W)=>hx.expr Er I5 (Cc.Bv hbd) (Cd.Bv hbd) (by show e.st.length+_<=_;omega);have Fx:=fun(W:World) (e2:Em) (hx:K.St (w.heap.size::lbs) D W e2) (hbd:A3 D w W) (h1:e2.st.length+2*bsize c2<=800000) (h2:e2.loc.length+bsize c2<=90000) (h3:e2.lps.length=e.lps.length+1) (h4:E1 e2)=>Ww K c2 (ih.2.1 D4) (w.heap.size::lbs) D W e2 s1 n1 m1 I7 hx (C4.Bv hbd) (C7.Bv hbd) (by rw[h3];exact hpc2) h4 h1 h2 z4ma;have HBd1:=A0 hbd1;clear hb hr hbb Cc Cd hz ih hwf hk Eu C7 hzz Er I5 D4 C4 hlp hsm hpc2 h32 h h1 hv hnew hbd1 hlb;generalize J8:Aq K.fns K.gl l1 (Aj c1) (em K.fns K.gl c1) e.open'=Ch at *;generalize hE2:em K.fns K.gl c2 0 (Ch.step 7 0 l.line)=G6 at *;go_in;go_wp2_with fail
 refine HHere.o.mono ?_;rintro r w ⟨rfl,rfl⟩;go_wp2_with fail
 refine HPu.mono ?_;rintro r w1 ⟨rfl,hp⟩;obtain⟨Ax,hb1'⟩:=HPL.o w1 hp;have B5:=A0 Ax;have A9:A3 D w w1:=HBd1.o.trans hb1';have C8:=(A9.block b hD).trans HBk.o;clear Ax hb1' hp d1 ld;have d1:=A4 C8 1 _ rfl;have ld:=A6 C8;clear C8;go_wp2_with fail
 refine(HC1 w1 B5.o A9).mono ?_;rintro r w2 ⟨rfl,Bj,Ad⟩;have Au:=A0 Bj;have Ab:A3 D w w2:=A9.trans Ad;have Ep:=(Ab.block b hD).trans HBk.o;clear Bj Ad ld;clear d1;have d0:w2.cell? ⟨b,0,none⟩=some (.n l.line):=A4 Ep 0 _ rfl;have ld:=A6 Ep;clear Ep;go_wp2_with fail
 refine(Au.o.step z4ma 7 0 l.line).mono ?_;rintro r w3 ⟨rfl,Dc,Ay⟩;have Bu:=A0 Dc;have Ba:A3 D w w3:=Ab.trans Ay;have Gc:=(Ba.block b hD).trans HBk.o;clear Dc Ay ld;clear d0;have d2:=A4 Gc 2 _ rfl;have ld:=A6 Gc;clear Gc;go_wp2_with fail
 refine(Fx _ _ Bu.o Ba z6fa z6ga HLp1 (HBm1.step _ _ _)).mono ?_;rintro r w4 ⟨rfl,He,Bz⟩;rw[hE2]at He;have Ft:=A0 He;have D6:A3 D w w4:=Ba.trans Bz;have hbk4:=(D6.block b hD).trans HBk.o;clear He Bz ld;clear d2;have ld:=A6 hbk4;clear hbk4;have hq0:(G6.cut (Ch.step 7 0 l.line).loc.length).lps.length≠0:=by
  have:=N3 List.length HSts;simp only[Ey,Mb,Il]at this;show G6.lps.length≠0;omega
 have Az:(G6.cut (Ch.step 7 0 l.line).loc.length).lps.length<=90000:=by
  have:=N3 List.length HSts;simp only[Ey,Mb,Il]at this;show G6.lps.length<=90000;omega
 obtain⟨lb,lr,s,bs,r4,ba,bn,bc,hlbs,hq,llb,hlb4,hown4,rfl,_⟩:=Ft.o.top hq0 Az;injection hlbs with hlb5 hlr5;have It:s=e.st.length:=by
  have:=HSts;have hq':G6.lps=(s,bs)::r4:=hq;unfold Ey at this;rw[hq']at this;simp only[Q2,V3]at this;exact this.1
 have hr4:r4.length=e.lps.length:=by
  have:=N3 List.length HSts;have hq':G6.lps=(s,bs)::r4:=hq;unfold Ey at this;rw[hq']at this;simp at this;exact this
 subst It;subst hlb5;have g0:=A4 hlb4 0 _ rfl;have HQ:=A0 hq;clear hlb4 hown4 hlr5 hq hq0 Az llb;go_wp2_with fail
 refine(Ft.o.step (by show G6.st.length<=_;omega) 6 (e.st.length:Nat) 0).mono ?_;rintro r w5 ⟨rfl,Df,Cz⟩;have Ic:=A0 Df;have Ez:A3 D w w5:=D6.trans Cz;have hbk5:=(Ez.block b hD).trans HBk.o;clear Df Cz ld;clear g0;have ld:=A6 hbk5;clear hbk5;go_wp2_with fail
 refine(Ic.o.land Ch.st.length (by rw[Ea,Qf];omega)).mono ?_;rintro r w6 ⟨rfl,F6,hb6⟩;have HS6:=A0 F6;have HB6:A3 D w w6:=Ez.trans hb6;have hbk6:=(HB6.block b hD).trans HBk.o;clear F6 hb6 ld;have ld:=A6 hbk6;clear hbk6;have HQ6:(((G6.cut (Ch.step 7 0 l.line).loc.length).step 6 (e.st.length:Nat) 0).land Ch.st.length).lps=(e.st.length,bs)::r4:=HQ.o;have HBm6:E1 (((G6.cut (Ch.step 7 0 l.line).loc.length).step 6 (e.st.length:Nat) 0).land Ch.st.length):=(((HBm2.cut _).step _ _ _).land _);have HE6:(((G6.cut (Ch.step 7 0 l.line).loc.length).step 6 (e.st.length:Nat) 0).land Ch.st.length).Kv=bs:=by show _=_;unfold Em.Kv;rw[HQ6]
 have hbs:bs.length<=800000:=by
  have:=(HBm6 (e.st.length,bs) (by rw[HQ6];simp)).1;rw[M5,Ea,Qf]at this;simp only at this;omega
 generalize hE6:(((G6.cut (Ch.step 7 0 l.line).loc.length).step 6 (e.st.length:Nat) 0).land Ch.st.length)=em6 at *;have HE6':=A0 hE6;clear hE6;obtain⟨ρ,la,ln,lc,pa,pn,pc,bl,h6,hlb6⟩:=HS6.o;obtain⟨b2,br,rfl⟩:∃b2 br,bl=b2::br:=by
  cases bl with
  | nil=>simp at hlb6
  | cons b2 br=>exact⟨b2,br,rfl⟩
 obtain⟨lb,ba,bn,bc⟩:=b2;simp only[Q2,V3]at hlb6;obtain⟨hlb7,hlbr⟩:=hlb6;subst hlb7;have hl6:=h6.A7d HQ6;have hbn:bn=bs.length:=by have:=(Cm (h6.A1n HQ6)).1;rw[this];simp[Dr]
 subst hbn;have g1:=A4 hl6 1 _ rfl;have lg:=A6 hl6;have H6:=A0 h6;have HLbr:=A0 hlbr;have hbr:br.length<=90000:=by have:=h6.lps.len;rw[HQ6]at this;simp at this;omega
 clear h6 hl6 hlbr;go_wp2;go_loopg [49] bs.length (fun k v wr=>∃(i:Nat) (ρ':Nat->Nat),v=.i i/\i+k=bs.length/\K.Sv D wr (em6.E7 (bs.take i)) ρ' la ln lc pa pn pc ((w.heap.size,ba,bs.length,bc)::br)/\A3 D w wr)
 case atStart=>exact⟨0,ρ,rfl,by omega,H6.o,HB6⟩
 case round=>
  clear H6 HS6;obtain⟨i,ρ',rfl,hik,hsv,hbel⟩:=hrel;have HBel:=A0 hbel;have HQi:(em6.E7 (bs.take i)).lps=(e.st.length,bs)::r4:=(Yc _ _).trans HQ6;have hll6:=Yb (bs.take i) em6;clear hbel;by_cases hlt:i<bs.length
  ·obtain⟨g,rfl,hvn9,hcap,lg2,hcell⟩:=G1 (hsv.A1n HQi) (by simp[Dr];omega);clear hvn9;have d0:=hcell i _ (Afg hlt);have hjl:bs[i]<(em6.E7 (bs.take i)).st.length:=by
    rw[hll6];exact(HBm6 (e.st.length,bs) (by rw[HQ6];simp)).2 _ (Ho hlt)
   have HL:=Z4 hsv.ew bs[i] hjl;have HNx:=Als bs i hlt em6;have HV:=A0 hsv;clear hcell hsv hjl hll6;generalize bs[i]=jj at *;go_wp2_with fail
   refine HL.mono ?_;rintro r w7 ⟨rfl,J9,Jv⟩;obtain⟨k1,k2⟩:=HV.o.Ro Jv (HV.o.Pu.next (e':=(em6.E7 (bs.take i)).land jj) Jv J9 rfl) rfl;rw[←HNx]at k1;have HK1:=A0 k1;have HB7:A3 D w w7:=HBel.o.trans k2;clear J9 Jv k1 k2;go_wp2;go_roundg (gk-1)
   case measure=>omega
   case rel=>exact⟨i+1,_,rfl,by omega,HK1.o,HB7⟩
  ·obtain rfl:i=bs.length:=by omega
   rw[Q1]at hsv;obtain⟨sa,sn,sc,hv⟩:=hsv.ew;have lbw:=A6 hv.cell;have hpl:(((w.heap.size,ba,bs.length,bc)::br:List LB).map fun b=>Cs b.1).reverse.length=br.length+1:=by simp
   have HPo:=Asu (hsv.Ta hv) (by rw[hpl];omega) br.length (by rw[hpl];omega) hpl z4ra;have HPL:=A0 (fun(w9:World) hp=>hsv.Aom hv (w':=w9) hp);rw[HLbr.o]at HPL;clear hsv hv hll6;go_wp2_with fail
   refine HPo.mono ?_;rintro r w9 ⟨rfl,hp⟩;obtain⟨k1,k2⟩:=HPL.o w9 hp;have HK1:=A0 k1;have Dq:A3 D w w9:=HBel.o.trans k2;clear k1 k2 hp;go_wp2;go_end0;have hE7:(((G6.cut Ch.loc.length).step 6 (e.st.length:Nat) 0).land Ch.st.length)=em6:=HE6'.o;rw[hE7,HE6];exact⟨rfl,HK1.o,Dq⟩
def Aws(K:EC)(l:A5)(c:BT A5)(hk:l.kd=23)(ih:Dp (To K) c)(hwf:Wf 3 c):Nb K l c:=by
 intro lbs D w e v ks hst hn hr hlp hbb hsz hlo hll;obtain⟨hlw,lcb,hncb⟩:=hst.lo;have hnds:=Cf l c;unfold Bx at hn;rw[Ai]at hn;obtain⟨b,cs,rfl,hD,hb,hl⟩:=hn;have e1:Cw l.kd=255:=by rw[hk];rfl
 have e2:E4 l.kd=317:=by rw[hk];rfl
 rw[e1];rw[e2]at hb;unfold Di at hl;simp only[hk]at hl;obtain⟨t,x,s1,n1,m1,rfl,rfl⟩:=hl;have HC:=Awv K l c hk ih hwf lbs D w e b t x s1 n1 m1 hD hb hr hst hlp hbb hsz hlo hll;have ld:=A6 hb;have Dy:=Pr 255 z4oa;have Ee:=Rv 255 z4oa;have Fa:=Asb;exact z4ha
def Aai(K:EC):∀f:BT A5,(Wf 1 f->Dp (Nb K) f)/\(Wf 2 f->Dp (To K) f)/\(Wf 3 f->Dp (To K) f):=by
 intro f;induction f with
 | nil=>exact⟨fun _=>trivial,fun _=>trivial,fun _=>trivial⟩
 | node x y l c r D5 C6=>
  obtain⟨i1,i2,i3⟩:=D5;obtain⟨j1,j2,j3⟩:=C6;refine⟨fun h=>⟨?_,j1 h.1⟩,fun h=>⟨fun hx=>i1 (h.Nv.2 hx).2,j2 h.1⟩,fun h=>⟨fun hx=>i1 (h.T6.2 hx).2,j3 h.1⟩⟩;rcases h.2 with⟨h0,_⟩|⟨h0,_⟩|⟨h0,_⟩|⟨_,h1,h2⟩|⟨_,h1,h2⟩|⟨_,h1,h2⟩|⟨h0,_⟩
  ·omega
  ·omega
  ·omega
  ·exact Awm K l c h1 (i2 h2) h2
  ·exact Aws K l c h1 (i3 h2) h2
  ·unfold No at h1;simp only[Gz,F3,Jg,Fh]at h1;have hc:l.kd=21\/l.kd=24\/l.kd=25\/l.kd=26\/l.kd=27\/l.kd=28\/l.kd=29\/l.kd=30:=by omega
   rcases hc with e|e|e|e|e|e|e|e
   ·exact Awo K l c e h2
   ·exact Awn K l c e h2
   ·exact Awj K l c e
   ·exact Awk K l c e
   ·exact Awp K l c e h2
   ·exact Awr K l c e h2
   ·exact Awq K l c e h2
   ·exact Awl K l c e h2
  ·omega
end
section
open Go.RowKit
open Go.Deep (BT)
variable {K:EC} {D:Nat->Prop} {w w':World} {e:Em} {ρ:Nat->Nat} {la:Option Addr} {ln lc:Nat} {pa:Option Addr} {pn pc:Nat} {bl:List LB}
def J3.Ue{fs gs ls ps:Value}{slots:Nat}{st:List Aa}{wb te:Nat}{sa:Option Addr}{sn sc:Nat}(h:J3 (dX w.heap.size ρ) wb te w fs gs ls ps slots st sa sn sc)(hone:∀g,ρ g=1->g=wb):∀g,(Value.slice sa sn sc).ownBlock=some g->ρ g=4:=by
 intro g hg;have h1:=h.Dn g hg;have h2:=Bs h.own g hg;by_cases e1:ρ g=1
 ·exact absurd (hone g e1) h1.2
 ·by_cases e4:ρ g=4
  ·exact e4
  ·exact absurd ⟨h2,e1,e4⟩ h1.1
def z4ca {P:Prop} (h:P:=by
  rw[hρ K.wb hwb z5ba z5ba];exact h.one.1):P:=h
def z6ca {P:Prop} (h:P:=by rw[h.pro g hg];omega):P:=h
def z6ea {P:Prop} (h:P:=by rw[h.lro g hg];omega):P:=h
def EC.Sv.swap(h:K.Sv D w e ρ la ln lc pa pn pc bl){sa:Option Addr}{sn sc:Nat}(hv:J3 (dX w.heap.size ρ) K.wb K.te w (.slice K.fa K.fn K.fc) (.slice K.ga K.gn K.gc) (.slice la ln lc) (.slice pa pn pc) e.slots e.st sa sn sc)
  (D0:Nat->Prop) {ta:Option Addr} {tn tc:Nat} {st':List Aa} {slots':Nat} (hrow:w.ownsRow 0 251 8 (.slice ta tn tc) st'.length (F7 st')) (hT:∀g,(Value.slice ta tn tc).ownBlock=some g->ρ g=0) (hD0:∀g,D0 g->D g/\(Value.slice ta tn tc).ownBlock≠some g)
  (hfr:Jq D0 w K.fns K.fa K.fn K.fc) (hgr:Dj D0 w 9 1 (.slice K.ga K.gn K.gc) K.gl.length (Dx K.gl))
  (hcell:w'.heap[K.wb]?=some (.cells #[.slice K.fa K.fn K.fc,.slice K.ga K.gn K.gc,.slice la ln lc,.slice pa pn pc,.n slots',.slice ta tn tc] K.te (0,0))) (y:Nat) (hy:(ρ y=0/\¬D0 y/\(Value.slice ta tn tc).ownBlock≠some y)\/w.heap.size<=y) (hk:∀g,g<w.heap.size->g≠K.wb->g≠y->w'.heap[g]?=w.heap[g]?) (hs:w.heap.size<=w'.heap.size) (ho:w'.os=w.os) (ht:w'.tape=w.tape) (hu:w'.output=w.output) :
  (∃ρ',K.Sv (fun g=>D0 g\/(Value.slice sa sn sc).ownBlock=some g) w' ⟨e.loc,slots',st',e.lps⟩ ρ' la ln lc pa pn pc bl/\∀g,w.heap.size<=g->ρ' g=4)/\A3 D0 w w':=by
 have hwb:=A6 hv.cell;have h4:=hv.Ue h.one.2;have hyn:∀g,g<w.heap.size->ρ g≠0->g≠y:=by
  intro g hg h1 e;subst e;rcases hy with hy|hy
  ·exact h1 hy.1
  ·omega
 have hbd0:A3 D0 w w':=⟨ho,ht,hu,hs,fun k hk'=>by
  have h1:=h.prot k (hD0 k hk').1;refine hk k h1.1 (fun e=>by have:=h1.2;rw[e,h.one.1]at this;cases this) (fun e=>?_);subst e;rcases hy with hy|hy
  ·exact hy.2.1 hk'
  ·omega⟩
 have hTy:∀g,(Value.slice ta tn tc).ownBlock=some g->g≠y:=by
  intro g hg e;subst e;rcases hy with hy|hy
  ·exact hy.2.2 hg
  ·have:=Bs hrow g hg;omega
 have hne:∀g,ρ g≠0->ρ g≠4->¬(Value.slice ta tn tc).ownBlock=some g/\¬(Value.slice sa sn sc).ownBlock=some g:=fun g h1 h2=>⟨fun e=>h1 (hT g e),fun e=>h2 (h4 g e)⟩;have hρ:∀g,g<w.heap.size->ρ g≠0->ρ g≠4->Fs (fun g=>if(Value.slice ta tn tc).ownBlock=some g then 4 else if(Value.slice sa sn sc).ownBlock=some g then 0 else ρ g) w.heap.size 4 g=ρ g:=by
  intro g hg h1 h2;rw[Br hg,A1 (hne g h1 h2).1,A1 (hne g h1 h2).2]
 refine⟨⟨Fs (fun g=>if(Value.slice ta tn tc).ownBlock=some g then 4 else if(Value.slice sa sn sc).ownBlock=some g then 0 else ρ g) w.heap.size 4,⟨⟨ta,tn,tc,hcell,?_,?_,?_,fun g hg=>hg.1⟩,(hfr.keep hbd0).weak (fun g hg=>.inl hg),(hgr.Bv hbd0).weak (fun g hg=>.inl hg),?_,?_,?_,?_,?_,?_,⟨?_,?_⟩,h.C1⟩,fun g hg=>J0 hg⟩,hbd0⟩
 ·exact Bc hrow (fun g hg hl=>hk g hl (fun e=>by have:=hT g hg;rw[e,h.one.1]at this;cases this) (hTy g hg))
 ·intro hd;apply hd.2.1;exact z4ca
 ·intro g hg;refine⟨fun hd=>hd.2.2 ?_,fun e=>by have:=hT g hg;rw[e,h.one.1]at this;cases this⟩;rw[Br (Bs hrow g hg),A7 hg]
 ·exact Bc h.lr (fun g hg hl=>hk g hl (fun e=>by have:=h.lro g hg;rw[e,h.one.1]at this;omega) (hyn g hl z6ea))
 ·intro g hg;have:=h.lro g hg;rw[hρ g (Bs h.lr g hg) z4ma z4ma];exact this
 ·exact Bc h.pr (fun g hg hl=>hk g hl (fun e=>by have:=h.pro g hg;rw[e,h.one.1]at this;omega) (hyn g hl z6ca))
 ·intro g hg;have:=h.pro g hg;rw[hρ g (Bs h.pr g hg) z4ma z4ma];exact this
 ·exact h.lps.keep bl.length (fun g hl h5 _=>⟨hk g hl (fun e=>by rw[e,h.one.1]at h5;omega) (hyn g hl z4ma),hρ g hl z4ma z4ma⟩) (Af _)
 ·intro g hg;rcases hg with hg|hg
  ·have h1:=hD0 g hg;have h2:=h.prot g h1.1;refine⟨Cb h2.1 hs,?_⟩;rw[Br h2.1,A1 h1.2,A1 (fun e=>by have:=h4 g e;omega)];exact h2.2
  ·have h2:=Bs hv.own g hg;refine⟨Cb h2 hs,?_⟩;rw[Br h2,A1 (fun e=>by have:=hT g e;have:=h4 g hg;omega),A7 hg]
 ·exact z4ca
 ·intro g hg;by_cases hl:g<w.heap.size
  ·rw[Br hl]at hg;split at hg
   ·cases hg
   ·split at hg
    ·cases hg
    ·exact h.one.2 g hg
  ·rw[J0 z4ma]at hg;cases hg
def z3ya {P:Prop} (h:P:=by
  show(if X K.wb then 0 else ρ K.wb)=1;rw[hρ _ z5ba];exact h.one.1):P:=h
def EC.Sv.more(h:K.Sv D w e ρ la ln lc pa pn pc bl){sa:Option Addr}{sn sc:Nat}(hv:J3 (dX w.heap.size ρ) K.wb K.te w (.slice K.fa K.fn K.fc) (.slice K.ga K.gn K.gc) (.slice la ln lc) (.slice pa pn pc) e.slots e.st sa sn sc)(X:Nat->Prop)
  (hX:∀g,X g->g<w.heap.size/\ρ g=4/\(Value.slice sa sn sc).ownBlock≠some g):∃ρ',K.Sv (fun g=>D g\/X g) w e ρ' la ln lc pa pn pc bl:=by
 classical
 have h4:=hv.Ue h.one.2;have hρ:∀g,ρ g≠4->(if X g then 0 else ρ g)=ρ g:=fun g hg=>A1 (fun hx=>hg (hX g hx).2.1);refine⟨fun g=>if X g then 0 else ρ g,⟨sa,sn,sc,hv.cell,hv.own,?_,?_,fun g hg=>hg.1⟩,h.fr.weak (fun g hg=>.inl hg),h.gr.weak (fun g hg=>.inl hg),h.lr,?_,h.pr,?_,?_,?_,⟨?_,?_⟩,h.C1⟩
 ·intro hd;apply hd.2.1;exact z3ya
 ·intro g hg;refine⟨fun hd=>hd.2.2 ?_,(hv.Dn g hg).2⟩;show(if X g then 0 else ρ g)=4;rw[A1 (fun hx=>(hX g hx).2.2 hg)];exact h4 g hg
 ·intro g hg;have:=h.lro g hg;show(if X g then 0 else ρ g)=2;rw[hρ _ z4ma];exact this
 ·intro g hg;have:=h.pro g hg;show(if X g then 0 else ρ g)=3;rw[hρ _ z4ma];exact this
 ·exact h.lps.keep bl.length (fun g _ h5 _=>⟨rfl,by show(if X g then 0 else ρ g)=ρ g;by_cases h4':ρ g=4 <;> first|omega|exact hρ g h4'⟩) (Af _)
 ·intro g hg;show _/\(if X g then 0 else ρ g)=0;rcases hg with hg|hg
  ·have:=h.prot g hg;refine⟨this.1,?_⟩;rw[hρ _ z4ma];exact this.2
  ·exact⟨(hX g hg).1,A7 hg⟩
 ·exact z3ya
 ·intro g hg;have hg:(if X g then 0 else ρ g)=1:=hg;split at hg
  ·cases hg
  ·exact h.one.2 g hg
def EC.St.alloc{lbs:List Nat}(h:K.St lbs D w e)(o:Obj):K.St lbs D (w.alloc o) e:=by
 obtain⟨ρ,la,ln,lc,pa,pn,pc,bl,h,hlb⟩:=h;exact⟨_,_,_,_,_,_,_,_,h.alloc o 5 (Af _),hlb⟩
def Uk(w:World)(a:Addr)(v:Value):(w.setCell a v).os=w.os:=rfl
def Ad6(w:World)(o:Obj):(w.alloc o).os=w.os:=rfl
def Ahp(w:World):w.drew.os=w.os:=rfl
def Um(w:World)(a:Addr)(v:Value):(w.setCell a v).tape=w.tape:=rfl
def Ad8(w:World)(o:Obj):(w.alloc o).tape=w.tape:=rfl
def Ahr(w:World):w.drew.tape=w.tape:=rfl
def Ul(w:World)(a:Addr)(v:Value):(w.setCell a v).output=w.output:=rfl
def Ad7(w:World)(o:Obj):(w.alloc o).output=w.output:=rfl
def Ahq(w:World):w.drew.output=w.output:=rfl
def A02(w:World):w.drew.heap=w.heap:=rfl
def z62a {P:Prop} (h:P:=by exact fun e=>hrbw e.symm):P:=h
def Aw3{D2:Nat->Prop}(h:K.Sv D2 w e ρ la ln lc pa pn pc []){sb:Option Addr}{sm sd:Nat}(hv:J3 (dX w.heap.size ρ) K.wb K.te w (.slice K.fa K.fn K.fc) (.slice K.ga K.gn K.gc) (.slice la ln lc) (.slice pa pn pc) e.slots e.st sb sm sd)(rb:Nat){slots:Nat}{st:List Aa}{sa:Option Addr}{sn sc:Nat}
  (hrow:w.ownsRow 0 251 8 (.slice sa sn sc) st.length (F7 st)) (hS2:∀g,(Value.slice sa sn sc).ownBlock=some g->D2 g) (hSD:∀g,(Value.slice sa sn sc).ownBlock=some g->¬D g) (Ky:∀g,D g->D2 g) (hrb:D2 rb) (hrbD:¬D rb) (hrbS:(Value.slice sa sn sc).ownBlock≠some rb)
  (hfr:Jq D w K.fns K.fa K.fn K.fc) (hgr:Dj D w 9 1 (.slice K.ga K.gn K.gc) K.gl.length (Dx K.gl)) (v0 v1 v2 v3:Value) (o:Obj) (W:World)
  (hW:W=(((((((w.setCell ⟨K.wb,4,none⟩ (.n slots)).setCell ⟨K.wb,5,none⟩ (.slice sa sn sc)).setCell ⟨rb,0,none⟩ v0).setCell ⟨rb,1,none⟩ v1).setCell ⟨rb,2,none⟩ v2).setCell ⟨rb,3,none⟩ v3).alloc o).drew) :
  W.ownsRow 0 251 8 (.slice sb sm sd) e.st.length (F7 e.st)/\K.St [] (fun g=>D g\/(Value.slice sb sm sd).ownBlock=some g) W ⟨e.loc,slots,st,e.lps⟩/\A3 D w W:=by
 have hwb:=A6 hv.cell;have hrbw:rb≠K.wb:=fun e=>by have:=(h.prot rb hrb).2;rw[e,h.one.1]at this;cases this
 have hrl:=(h.prot rb hrb).1;have hsz:W.heap.size=w.heap.size+1:=by rw[hW,A02];simp[World.setCell]
 have hk:∀g,g<w.heap.size->g≠K.wb->g≠rb->W.heap[g]?=w.heap[g]?:=by
  intro g hg h1 h2;rw[hW,A02,Ck _ _ _ (by simp[World.setCell];exact hg),Bh _ _ _ _ (by exact h2),Bh _ _ _ _ (by exact h2),Bh _ _ _ _ (by exact h2),Bh _ _ _ _ (by exact h2),Bh _ _ _ _ (by exact h1),Bh _ _ _ _ (by exact h1)]
 have hcell:W.heap[K.wb]?=some (.cells #[.slice K.fa K.fn K.fc,.slice K.ga K.gn K.gc,.slice la ln lc,.slice pa pn pc,.n slots,.slice sa sn sc] K.te (0,0)):=by
  rw[hW,A02,Ck _ _ _ (by simp[World.setCell];exact hwb),Bh _ _ _ _ z62a,Bh _ _ _ _ z62a,Bh _ _ _ _ z62a,Bh _ _ _ _ z62a];have:=heap_set (j:=5) (heap_set (j:=4) hv.cell (.n slots)) (.slice sa sn sc);rw[this];simp
 obtain⟨⟨ρ9,h9,_⟩,Dm⟩:=h.swap hv D hrow (fun g hg=>(h.prot g (hS2 g hg)).2) (fun g hg=>⟨Ky g hg,fun e=>hSD g e hg⟩) hfr hgr hcell rb (.inl ⟨(h.prot rb hrb).2,hrbD,hrbS⟩) hk z4ma (by simp only[hW,Ahp,Ad6,Uk]) (by simp only[hW,Ahr,Ad8,Um]) (by simp only[hW,Ahq,Ad7,Ul]);have h4:=hv.Ue h.one.2;refine⟨Bc hv.own (fun g hg hl=>hk g hl (hv.Dn g hg).2 (fun e=>?_)),⟨_,_,_,_,_,_,_,_,h9,rfl⟩,Dm⟩;have h1:=h4 g hg;rw[e,(h.prot rb hrb).2]at h1;cases h1
end
section
set_option maxRecDepth 100000
open Go.RowKit
open Go.Deep (BT)
def Aw4(K:EC)(l:A5)(c:BT A5)(hwf:Wf 1 c)(hlp:Lp c 0)(D:Nat->Prop)(w:World)(slots:Nat)(st:List Aa)(b:Nat)(pa:Option Addr)(pn pc:Nat)(va:Option Addr)(vn vc:Nat)(ks:List Value)
  (hst:K.St [] D w ⟨[],slots,st,[]⟩) (hD:D b) (hblk:w.heap[b]?=some (.cells #[.n l.line,.s l.s,.slice pa pn pc,.slice va vn vc] 218 (0,0)))
  (hprm:Dj D w 148 2 (.slice pa pn pc) l.ps.length (My l.ps)) (hown:Dj D w 142 1 (.slice va vn vc) ks.length ks) (hrep:Ar D w c ks) (A2:l.ps.length+bsize c<=80000) :
  Calls Tryz.prog 53 #[.p K.wb,.p b] w fun r w'=>∃sa sn sc,r=.returned (.agg #[.s l.s,.n l.ps.length,.n ((Mf K.fns K.gl l c).slots),.slice sa sn sc])/\
   w'.ownsRow 0 251 8 (.slice sa sn sc) (Mf K.fns K.gl l c).steps.length (F7 (Mf K.fns K.gl l c).steps)/\(∀g,(Value.slice sa sn sc).ownBlock=some g->¬D g)/\K.St [] (fun g=>D g\/(Value.slice sa sn sc).ownBlock=some g) w' ⟨[],slots,st,[]⟩/\A3 D w w':=by
 obtain⟨hlw,lcb,hncb⟩:=hst.lo;have hpn:pn=l.ps.length:=(Cm hprm.1).1;subst hpn;obtain⟨ρ,la,ln,lc,qa,qn,qc,bl,h,hlb⟩:=hst;obtain⟨sa,sn,sc,hv⟩:=h.ew;obtain⟨c0,c1,c2,c3,c4,c5,fz,lb⟩:=Xr hv.cell;obtain⟨d0,d1,d2,d3,fd,ld⟩:=Eo hblk;have hwbb:K.wb≠b:=fun e=>hncb (by rw[e];exact hD);obtain⟨w0,Dk⟩:∃w0,w0=(((w.setCell ⟨K.wb,4,none⟩ (.i 0)).setCell ⟨K.wb,5,none⟩ (.slice none 0 0)).alloc (.cells #[.string ⟨#[]⟩,.i 0,.i 0,.slice none 0 0] 103)).alloc (.cells #[.n slots,.slice sa sn sc] 98):=⟨_,rfl⟩;have hk0:∀g,g<w.heap.size->g≠K.wb->w0.heap[g]?=w.heap[g]?:=by
  intro g hg hne;rw[Dk,Ck _ _ _ z4sa,Ck _ _ _ z4sa,Bh _ _ _ _ z5ca,Bh _ _ _ _ z5ca]
 have hc0:w0.heap[K.wb]?=some (.cells #[.slice K.fa K.fn K.fc,.slice K.ga K.gn K.gc,.slice la ln lc,.slice qa qn qc,.i ((0:Nat):Int),.slice none 0 0] K.te (0,0)):=by
  rw[Dk,Ck _ _ _ z4sa,Ck _ _ _ z4sa];have:=heap_set (j:=5) (heap_set (j:=4) hv.cell (.i 0)) (.slice none 0 0);rw[this];simp
 have It:w0.heap.size=w.heap.size+2:=by rw[Dk];simp[World.setCell]
 have hR0:w0.heap[w.heap.size]?=some (.cells #[.string ⟨#[]⟩,.i 0,.i 0,.slice none 0 0] 103 (0,0)):=by
  rw[Dk,Ck _ _ _ z4za];have:=Bp ((w.setCell ⟨K.wb,4,none⟩ (.i 0)).setCell ⟨K.wb,5,none⟩ (.slice none 0 0)) (.cells #[.string ⟨#[]⟩,.i 0,.i 0,.slice none 0 0] 103);simpa [World.setCell]using this
 have hO0:w0.heap[w.heap.size+1]?=some (.cells #[.n slots,.slice sa sn sc] 98 (0,0)):=by
  rw[Dk];have:=Bp (((w.setCell ⟨K.wb,4,none⟩ (.i 0)).setCell ⟨K.wb,5,none⟩ (.slice none 0 0)).alloc (.cells #[.string ⟨#[]⟩,.i 0,.i 0,.slice none 0 0] 103)) (.cells #[.n slots,.slice sa sn sc] 98);simpa [World.setCell]using this
 obtain⟨⟨ρ1,h1,Cc⟩,hbd0⟩:=h.swap hv D (M9 w 0 251 8) (st':=[]) (slots':=0) (fun g hg=>by simp[Value.ownBlock]at hg) (fun g hg=>⟨hg,by simp[Value.ownBlock]⟩) h.fr h.gr hc0 w.heap.size (.inr (Af _)) (fun g h1 h2 _=>hk0 g h1 h2) z4ma (by rw[Dk];rfl) (by rw[Dk];rfl) (by rw[Dk];rfl);obtain⟨sa1,sn1,sc1,Hg⟩:=h1.ew;have hc0':=Hg.cell.symm.trans hc0;simp only[Cg,Obj.cells.injEq,Array.mk.injEq,V3,Zh]at hc0';obtain⟨⟨_,_,_,_,_,⟨rfl,rfl,rfl⟩,_⟩,_⟩:=hc0';obtain⟨ρ2,h2⟩:=h1.more Hg (fun g=>g=w.heap.size\/g=w.heap.size+1) (fun g hg=>⟨by omega,Cc g z4ma,by simp[Value.ownBlock]⟩);have hblE:bl=[]:=by cases bl with
  | nil=>rfl
  | cons x y=>simp at hlb
 subst hblE;have Av:K.St [] (fun g=>(D g\/(Value.slice sa sn sc).ownBlock=some g)\/(g=w.heap.size\/g=w.heap.size+1)) w0 ⟨[],0,[],[]⟩:=⟨_,_,_,_,_,_,_,_,h2,rfl⟩;have hSD:∀g,(Value.slice sa sn sc).ownBlock=some g->¬D g:=fun g hg hd=>(hv.Dn g hg).1 (h.dx g hd);have HOwnS:w0.ownsRow 0 251 8 (.slice sa sn sc) st.length (F7 st):=Bc hv.own (fun g hg hl=>hk0 g hl (hv.Dn g hg).2);have HOwnS0:=A0 hv.own;have HFr:=A0 h.fr;have HGr:=A0 h.gr;have HRun:=fun(W:World) (e2:Em) (hx:K.St [] (fun g=>(D g\/(Value.slice sa sn sc).ownBlock=some g)\/(g=w.heap.size\/g=w.heap.size+1)) W e2) (hbd:A3 D w W) (h1:e2.lps=[]) (h2:e2.st=[]) (h3:e2.loc.length<=l.ps.length)=>Aaj K c ((Aai K c).1 hwf) [] _ W e2 va vn vc ks hx ((hown.Bv hbd).weak (fun g hg=>.inl (.inl hg))) (Ar.keep (fun g hg _=>⟨rfl,.inl (.inl hg)⟩) _ _ (hrep.Bv hbd)) (by rw[h1];exact hlp) (fun x hx=>by rw[h1]at hx;cases hx) (by rw[h2];simp;omega) z4ma (by rw[h1];simp;omega);have hsw0:=It;have HD3:=A0 d3;go_in;go_wp2;rw[←Dk];go_loopg [22] l.ps.length (fun k v wr=>∃(i:Nat),v=.i i/\i+k=l.ps.length/\K.St [] (fun g=>(D g\/(Value.slice sa sn sc).ownBlock=some g)\/(g=w.heap.size\/g=w.heap.size+1)) wr ⟨(l.ps.take i).map Prod.snd,i,[],[]⟩/\A3 (fun g=>(D g\/(Value.slice sa sn sc).ownBlock=some g)\/(g=w.heap.size\/g=w.heap.size+1)) w0 wr)
 case atStart=>exact⟨0,rfl,by omega,Av,A3.refl _ _⟩
 case round=>
  obtain⟨i,rfl,hik,hst,hbel⟩:=hrel;have HSt:=A0 hst;have HBD:A3 D w wr:=hbd0.trans (hbel.weak (fun g hg=>.inl (.inl hg)));by_cases hlt:i<l.ps.length
  ·obtain⟨g,rfl,hvn9,hcap,lg,hcell⟩:=G1 (hprm.Bv HBD).1 z4ma;have p0:=hcell (i*2) _ (Yl l.ps i hlt).1;have p1:=hcell (i*2+1) _ (Yl l.ps i hlt).2;have hnm:(⟨(l.ps.take i).map Prod.snd,i,[],[]⟩:Em).local' l.ps[i].2=⟨(l.ps.take (i+1)).map Prod.snd,i+1,[],[]⟩:=by
    unfold Em.local';simp only[X4 hlt,V0,Q2,A3f,Mb,G3];congr 1
    omega
   have HLoc:=fun(o:Obj)=>Aae (HSt.o.alloc o) z4qa l.ps[i].2;have hlo9:=HSt.o.lo.1;generalize l.ps[i]=prm at *;go_wp2_with fail
   refine(HLoc _).mono ?_;rintro r w7 ⟨rfl,J9,Jv⟩;rw[hnm]at J9;have HB7:=hbel.trans (((A3.refl _ wr).alloc hlo9 _).trans Jv);go_wp2;go_roundg (gk-1)
   case measure=>omega
   case rel=>exact⟨i+1,rfl,by omega,J9,HB7⟩
  ·obtain rfl:i=l.ps.length:=by omega
   rw[Q1]at HSt;have hbk9:=(HBD.block b hD).trans hblk;have d3:=A4 hbk9 3 _ rfl;have ld:=A6 hbk9;go_wp2_with fail
   refine(HRun _ _ HSt.o HBD rfl rfl z4ra).mono ?_;rintro r w1 ⟨rfl,Ax,A2⟩;have A9:=hbel.trans A2;have hln1:=(Ox K.fns K.gl c).1 ⟨l.ps.map Prod.snd,l.ps.length,[],[]⟩;simp only[Jo,Tf]at hln1;generalize J8:em K.fns K.gl c 0 ⟨l.ps.map Prod.snd,l.ps.length,[],[]⟩=Ch at *;go_wp2_with fail
   refine(Ax.step z4ma 43 0 0).mono ?_;rintro r w2 ⟨rfl,Bj,Ad⟩;have Ab:=A9.trans Ad;have hlb2:=Bj.lo.2.1;obtain⟨ρ3,la3,ln3,lc3,pa3,pn3,pc3,bl3,h3,hlb3⟩:=Bj;obtain⟨sa3,sn3,sc3,hv3⟩:=h3.ew;have HCut:=A27 (h3.Nx hv3) 0 (De _) z4ra;have HTo:=fun(w9:World) hp=>h3.A5g 0 hv3 (w':=w9) hp;rw[hlb3]at HTo;go_wp2_with fail
   refine HCut.mono ?_;rintro r w3 ⟨rfl,hp⟩;obtain⟨k1,k2⟩:=HTo w3 hp;have Ba:=Ab.trans k2;obtain⟨ρ4,la4,ln4,lc4,pa4,pn4,pc4,bl4,h4,hlb4⟩:=k1;obtain⟨sa4,sn4,sc4,hv4⟩:=h4.ew;have hbl4:bl4=[]:=by cases bl4 with
    | nil=>rfl
    | cons x y=>simp at hlb4
   subst hbl4;obtain⟨c0,c1,c2,c3,c4,c5,fz,lb⟩:=Xr hv4.cell;have HBD3:A3 D w w3:=hbd0.trans (Ba.weak (fun g hg=>.inl (.inl hg)));have Gc:=(HBD3.block b hD).trans hblk;obtain⟨d0,d1,d2,d3,fd,ld⟩:=Eo Gc;have hO3:=(Ba.block (w.heap.size+1) (.inr (.inr rfl))).trans hO0;have o0:=A4 hO3 0 _ rfl;have o1:=A4 hO3 1 _ rfl;have lo:=A6 hO3;have Ki:=(Ba.block w.heap.size (.inr (.inl rfl))).trans hR0;obtain⟨r0,r1,r2,r3,fr,lr⟩:=Eo Ki;have hle4:((Ch.step 43 0 0).cut 0).lps=[]:=by have:=h4.lps.len;exact X3.1 this.symm
   have hend:=fun v0 v1 v2 v3 o W=>Aw3 (D:=D) (slots:=slots) h4 hv4 w.heap.size (Bc HOwnS (fun g hg _=>Ba.block g (.inl (.inr hg)))) (fun g hg=>.inl (.inr hg)) hSD (fun g hg=>.inl (.inl hg)) (.inr (.inl rfl)) (fun hd=>by have:=hlw _ hd;omega) (fun e=>by have:=Bs HOwnS0.o _ e;omega) (HFr.o.keep HBD3) (HGr.o.Bv HBD3) v0 v1 v2 v3 o W;have hemF:Mf K.fns K.gl l c=⟨l.s,l.ps.length,((Ch.step 43 0 0).cut 0).slots,((Ch.step 43 0 0).cut 0).st⟩:=by unfold Mf;rw[J8];rfl
   rw[hle4,show((Ch.step 43 0 0).cut 0).loc=[] from rfl]at hend;have HSn:∀g,(Value.slice sa4 sn4 sc4).ownBlock=some g->¬D g:=fun g hg hd=>(hv4.Dn g hg).1 (h4.dx g (.inl (.inl hd)));go_wp2;go_region
   all_goals go_wp2
   all_goals
    refine B9 (v:=.agg #[.s l.s,.n l.ps.length,.n (((Ch.step 43 0 0).cut 0).slots),.slice sa4 sn4 sc4]) (by simp[results,Tryz.results53,go_sem,lr,r0,r1,r2,r3]) rfl ?_;rw[hemF];obtain⟨q1,q2,q3⟩:=hend _ _ _ _ _ _ rfl;exact⟨sa4,sn4,sc4,rfl,q1,HSn,q2,HBD3.trans q3⟩
end
section
open Go.RowKit
open Go.Deep (BT)
variable {K:EC} {D:Nat->Prop} {w w':World} {e:Em} {ρ:Nat->Nat} {la:Option Addr} {ln lc:Nat} {pa:Option Addr} {pn pc:Nat} {bl:List LB}
def Akk:(Tryz.prog.info? 103).map (fun i=>(i.zero,i.size,i.bytes))=some (some (.agg #[.string ⟨#[]⟩,.i 0,.i 0,.slice none 0 0]),4,56):=by kernel_rfl
def N9(D:Nat->Prop)(w:World):List Fn->List Value->Prop
 | [],cs=>cs=[]
 | f::r,cs=>∃sa sn sc rest,cs=Ml f.name::.int .i64 (f.params:Nat)::.int .i64 (f.slots:Nat)::.slice sa sn sc::rest/\Dj D w 251 8 (.slice sa sn sc) f.steps.length (F7 f.steps)/\N9 D w r rest
def N9.keep{D':Nat->Prop}(hk:∀g,D g->g<w.heap.size->w'.heap[g]?=w.heap[g]?/\D' g):∀{fs:List Fn} {cs:List Value},N9 D w fs cs->N9 D' w' fs cs:=by
 intro fs;induction fs with
 | nil=>intro cs h;exact h
 | cons f r ih=>
  intro cs h;obtain⟨sa,sn,sc,rest,e1,h1,h2⟩:=h;exact⟨sa,sn,sc,rest,e1,h1.keep hk,ih h2⟩
def N9.app:∀{fs:List Fn} {cs:List Value},N9 D w fs cs->∀{f:Fn} {sa:Option Addr} {sn sc:Nat},Dj D w 251 8 (.slice sa sn sc) f.steps.length (F7 f.steps)->N9 D w (fs++[f]) (cs++[Ml f.name,.n f.params,.n f.slots,.slice sa sn sc]):=by
 intro fs;induction fs with
 | nil=>intro cs h f sa sn sc ho;rw[N9]at h;subst h;exact⟨sa,sn,sc,[],rfl,ho,rfl⟩
 | cons g r ih=>
  intro cs h f sa sn sc ho;obtain⟨ta,tn,tc,rest,rfl,h1,h2⟩:=h;exact⟨ta,tn,tc,rest++_,rfl,h1,ih h2 ho⟩
def z2la {P:Prop} (h:P:=by
  intro g hg;rcases hD' g hg with h1|h1
  ·have:=h.prot g h1;exact⟨Cb this.1 hs,by rw[Br this.1];exact this.2⟩
  ·exact⟨h1.2,J0 h1.1⟩):P:=h
def EC.Sv.zero(h:K.Sv D w e ρ la ln lc pa pn pc bl)(D':Nat->Prop)(hD':∀g,D' g->D g\/(w.heap.size<=g/\g<w'.heap.size))(hk:∀g,g<w.heap.size->¬D g->w'.heap[g]?=w.heap[g]?)(hs:w.heap.size<=w'.heap.size)
  (hfr:Jq D' w' K.fns K.fa K.fn K.fc) (hgr:Dj D' w' 9 1 (.slice K.ga K.gn K.gc) K.gl.length (Dx K.gl)):K.Sv D' w' e (Fs ρ w.heap.size 0) la ln lc pa pn pc bl:=by
 obtain⟨sa,sn,sc,hv⟩:=h.ew;have hwb:=A6 hv.cell;have h4:=hv.Ue h.one.2;have hz:∀g,g<w.heap.size->ρ g≠0->w'.heap[g]?=w.heap[g]?:=fun g hg h0=>hk g hg (fun hd=>h0 (h.prot g hd).2);refine⟨⟨sa,sn,sc,(hz _ hwb z5ba).trans hv.cell,Bc hv.own (fun g hg hl=>hz g hl z5aa),fun hd=>hd.2.1 (by rw[Br hwb];exact h.one.1),fun g hg=>⟨fun hd=>hd.2.2 (by rw[Br (Bs hv.own g hg)];exact h4 g hg),(hv.Dn g hg).2⟩,fun g hg=>hg.1⟩,hfr,hgr,Bc h.lr (fun g hg hl=>hz g hl z6ea),fun g hg=>by rw[Br (Bs h.lr g hg)];exact h.lro g hg,
  Bc h.pr (fun g hg hl=>hz g hl z6ca),fun g hg=>by rw[Br (Bs h.pr g hg)];exact h.pro g hg,h.lps.keep bl.length (fun g hl h5 _=>⟨hz g hl z4ma,Br hl⟩) (Af _),?_,Rp h.one hwb z4ma,h.C1⟩
 exact z2la
def Q5.drop:∀(i:Nat) (c:BT A5),Q5 c->Q5 (Cp i c):=by
 intro i;induction i with
 | zero=>intro c h;rw[show Cp 0 c=c from by cases c <;> rfl];exact h
 | succ i ih=>
  intro c h;cases c with
  | nil=>exact h
  | node x y l c r=>exact ih r h.2
def EC.A6n(K:EC)(s:Nm)(ga:Option Addr)(gn gc:Nat):EC:=⟨K.wb,K.te,K.fns,K.fa,K.fn,K.fc,K.gl++[s],ga,gn,gc⟩
def EC.Sv.A29(h:K.Sv D w e ρ la ln lc pa pn pc bl)(D':Nat->Prop)(s:Nm)(ga:Option Addr)(gn gc:Nat)(hD':∀g,D' g->D g\/(w.heap.size<=g/\g<w'.heap.size)){sa:Option Addr}{sn sc:Nat}(hv:J3 (dX w.heap.size ρ) K.wb K.te w (.slice K.fa K.fn K.fc) (.slice K.ga K.gn K.gc) (.slice la ln lc) (.slice pa pn pc) e.slots e.st sa sn sc)
  (hcell:w'.heap[K.wb]?=some (.cells #[.slice K.fa K.fn K.fc,.slice ga gn gc,.slice la ln lc,.slice pa pn pc,.n e.slots,.slice sa sn sc] K.te (0,0))) (hk:∀g,g<w.heap.size->g≠K.wb->¬D g->w'.heap[g]?=w.heap[g]?) (hs:w.heap.size<=w'.heap.size)
  (hfr:Jq D' w' K.fns K.fa K.fn K.fc) (hgr:Dj D' w' 9 1 (.slice ga gn gc) (K.gl++[s]).length (Dx (K.gl++[s]))) (hn:K.gl.length+1<=100000):(K.A6n s ga gn gc).Sv D' w' e (Fs ρ w.heap.size 0) la ln lc pa pn pc bl:=by
 have hwb:=A6 hv.cell;have h4:=hv.Ue h.one.2;have hz:∀g,g<w.heap.size->ρ g≠0->ρ g≠1->w'.heap[g]?=w.heap[g]?:=fun g hg h0 h1=>hk g hg (fun e=>h1 (by rw[e];exact h.one.1)) (fun hd=>h0 (h.prot g hd).2);refine⟨⟨sa,sn,sc,hcell,Bc hv.own (fun g hg hl=>hz g hl z5aa z5aa),fun hd=>hd.2.1 (by show Fs ρ w.heap.size 0 K.wb=1;rw[Br hwb];exact h.one.1),fun g hg=>⟨fun hd=>hd.2.2 (by rw[Br (Bs hv.own g hg)];exact h4 g hg),(hv.Dn g hg).2⟩,fun g hg=>hg.1⟩,hfr,hgr,Bc h.lr (fun g hg hl=>hz g hl z6ea z6ea),fun g hg=>by rw[Br (Bs h.lr g hg)];exact h.lro g hg,
  Bc h.pr (fun g hg hl=>hz g hl z6ca z6ca),fun g hg=>by rw[Br (Bs h.pr g hg)];exact h.pro g hg,h.lps.keep bl.length (fun g hl h5 _=>⟨hz g hl z4ma z4ma,Br hl⟩) (Af _),?_,Rp (K:=K) h.one hwb z4ma,⟨h.C1.1,by show(K.gl++[s]).length<=_;simp;omega⟩⟩
 exact z2la
def EC.Sv.start(hfr:Jq D w K.fns K.fa K.fn K.fc)(hg:K.gl=[]/\K.ga=none/\K.gn=0/\K.gc=0)(hc:w.heap[K.wb]?=some (.cells #[.slice K.fa K.fn K.fc,.slice none 0 0,.slice none 0 0,.slice none 0 0,.i ((0:Nat):Int),.slice none 0 0] K.te (0,0)))(hD:∀g,D g->g<w.heap.size/\g≠K.wb) :
  K.St [] D w ⟨[],0,[],[]⟩:=by
 refine⟨fun g=>if g=K.wb then 1 else 0,none,0,0,none,0,0,[],⟨⟨none,0,0,?_,M9 _ _ _ _,fun hd=>hd.2.1 (A7 rfl),fun g hg=>by simp[Value.ownBlock]at hg,fun g hg=>hg.1⟩,hfr,?_,M9 _ _ _ _,fun g hg=>by simp[Value.ownBlock]at hg,M9 _ _ _ _,fun g hg=>by simp[Value.ownBlock]at hg,trivial,fun g hg=>⟨(hD g hg).1,A1 (hD g hg).2⟩,⟨A7 rfl,fun g hg=>?_⟩,?_⟩,rfl⟩
 ·rw[hc,hg.2.1,hg.2.2.1,hg.2.2.2]
 ·rw[hg.1,hg.2.1,hg.2.2.1,hg.2.2.2];exact Rr _ _ _ _
 ·have hg':(if g=K.wb then 1 else 0)=1:=hg;split at hg'
  ·assumption
  ·cases hg'
 ·rw[hg.1];exact⟨De _,De _⟩
end
section
open Go.RowKit
open Go.Deep (BT)
def eK(n:Nat)(σ:Nat->Nat):Nat->Prop:=fun g=>g<n/\σ g<5
def Ahu{σ:Nat->Nat}{n n':Nat}(h:n<=n'):eK n' (Fs σ n 9)=eK n σ:=by
 funext g
 apply propext;unfold eK;by_cases hg:g<n
 ·rw[Br hg];exact⟨fun⟨_,h1⟩=>⟨hg,h1⟩,fun⟨_,h1⟩=>⟨by omega,h1⟩⟩
 ·rw[J0 z4ma];exact⟨fun⟨_,h1⟩=>by omega,fun⟨h1,_⟩=>absurd h1 hg⟩
structure Od (D : Nat -> Prop) (pb : Nat) (K : EC) (w : World) (e : Em) (σ : Nat -> Nat) (fs : List Fn) (ms : List Value) (ha : Option Addr) (hn hc : Nat) : Prop where
 st:K.St [] (eK w.heap.size σ) w e
 fr:Jq D w K.fns K.fa K.fn K.fc
 dz:∀g,D g->g<w.heap.size/\σ g=0
 gr:w.ownsRow 0 9 1 (.slice K.ga K.gn K.gc) K.gl.length (Dx K.gl)
 gro:∀g,(Value.slice K.ga K.gn K.gc).ownBlock=some g->σ g=3
 pbc:w.heap[pb]?=some (.cells #[.i 0,.i 0,.slice none 0 0,.slice ha hn hc] 101 (0,0))
 pbo:σ pb=1
 hr:w.ownsRow 0 103 4 (.slice ha hn hc) fs.length ms
 hro:∀g,(Value.slice ha hn hc).ownBlock=some g->σ g=2
 fns:N9 (fun g=>σ g=4) w fs ms
variable {D:Nat->Prop} {pb:Nat} {K:EC} {w w':World} {e e':Em} {σ:Nat->Nat} {fs:List Fn} {ms:List Value} {ha:Option Addr} {hn hc:Nat}
def z5ka {P:Prop} (h:P:=by rw[h.pbo];omega):P:=h
def Od.next(h:Od D pb K w e σ fs ms ha hn hc)(hs:K.St [] (eK w.heap.size σ) w' e')(hb:A3 (eK w.heap.size σ) w w'):Od D pb K w' e' (Fs σ w.heap.size 9) fs ms ha hn hc:=by
 have hbd:A3 D w w':=hb.weak (fun g hg=>⟨(h.dz g hg).1,by rw[(h.dz g hg).2];omega⟩);have hk:∀g,g<w.heap.size->σ g<5->w'.heap[g]?=w.heap[g]?:=fun g h1 h2=>hb.block g ⟨h1,h2⟩;have lp:=A6 h.pbc;refine⟨by rw[Ahu hb.size];exact hs,h.fr.keep hbd,fun g hg=>⟨Cb (h.dz g hg).1 hb.size,by rw[Br (h.dz g hg).1];exact(h.dz g hg).2⟩,Bc h.gr (fun g hg hl=>hk g hl (by rw[h.gro g hg];omega)),fun g hg=>by rw[Br (Bs h.gr g hg)];exact h.gro g hg,(hk pb lp z5ka).trans h.pbc,by rw[Br lp];exact h.pbo,Bc h.hr (fun g hg hl=>hk g hl (by rw[h.hro g hg];omega)),fun g hg=>by rw[Br (Bs h.hr g hg)];exact h.hro g hg,h.fns.keep (fun g hg hl=>⟨hk g hl (by rw[hg];omega),?_⟩)⟩;show Fs σ w.heap.size 9 g=4;rw[Br hl];exact hg
def z57a {P:Prop} (h:P:=by rw[(h.dz k hk).2];omega):P:=h
def z5oa {P:Prop} (h:P:=by rw[hk];omega):P:=h
def z5pa {P:Prop} (h:P:=by rw[h.gro k hk];omega):P:=h
def Od.func(h:Od D pb K w e σ fs ms ha hn hc){w1 w2:World}{f:Fn}{sa:Option Addr}{sn sc:Nat}(hs:K.St [] (fun g=>eK w.heap.size σ g\/(Value.slice sa sn sc).ownBlock=some g) w1 e)(hb:A3 (eK w.heap.size σ) w w1)
  (hrow:w1.ownsRow 0 251 8 (.slice sa sn sc) f.steps.length (F7 f.steps)) (hne:∀g,(Value.slice sa sn sc).ownBlock=some g->¬eK w.heap.size σ g) {g cap:Nat}
  (hown:w2.ownsRow 0 103 4 (.slice (some ⟨g,0,none⟩) (fs.length+1) cap) (fs.length+1) (ms++[Ml f.name,.n f.params,.n f.slots,.slice sa sn sc])) (hgr:w1.grownBy w2 (Value.slice ha hn hc).ownBlock) (hat:(Value.slice ha hn hc).ownBlock=some g\/w1.heap.size<=g) :
  (∃σ',Od D pb K (w2.setCell ⟨pb,3,none⟩ (.slice (some ⟨g,0,none⟩) (fs.length+1) cap)) e σ' (fs++[f]) (ms++[Ml f.name,.n f.params,.n f.slots,.slice sa sn sc]) (some ⟨g,0,none⟩) (fs.length+1) cap)/\A3 D w (w2.setCell ⟨pb,3,none⟩ (.slice (some ⟨g,0,none⟩) (fs.length+1) cap)):=by
 classical
 have lp:=A6 h.pbc;have lp1:pb<w1.heap.size:=Cb lp hb.size;have hk1:∀k,k<w.heap.size->σ k<5->w1.heap[k]?=w.heap[k]?:=fun k h1 h2=>hb.block k ⟨h1,h2⟩;have hgl:g<w2.heap.size:=Bs hown g rfl;have hgpb:g≠pb:=by
  rcases hat with h1|h1
  ·intro e1;have:=h.hro g h1;rw[e1,h.pbo]at this;omega
  ·omega
 have hS:∀k,(Value.slice sa sn sc).ownBlock=some k->k<w1.heap.size:=fun k hk=>Bs hrow k hk;have hk3:∀k,k<w1.heap.size->k≠pb->(Value.slice ha hn hc).ownBlock≠some k->(w2.setCell ⟨pb,3,none⟩ (.slice (some ⟨g,0,none⟩) (fs.length+1) cap)).heap[k]?=w1.heap[k]?:=fun k h1 h2 h3=>(Bh _ _ _ _ (by exact h2)).trans (hgr.block k h1 (fun e=>h3 e.symm));obtain⟨σ',hσ⟩:∃σ':Nat->Nat,σ'=fun k=>if k=g then 2 else if(Value.slice sa sn sc).ownBlock=some k then 4 else if k<w.heap.size then σ k else 9:=⟨_,rfl⟩;have hgE:∀k,k<w.heap.size->σ k<5->σ k≠2->σ' k=σ k:=by
  intro k hk h5 h2;rw[hσ];show(if k=g then 2 else _)=σ k;rw[A1 (fun e=>by rcases hat with h1|h1;exact h2 (by rw[e];exact h.hro g h1);have:=hb.size;omega),A1 (fun e=>hne k e ⟨hk,h5⟩),A7 hk]
 have Jw:σ' g=2:=by rw[hσ];exact A7 rfl
 have hgS:∀k,(Value.slice sa sn sc).ownBlock=some k->k≠g:=by
  intro k hk e1;subst e1;rcases hat with h1|h1
  ·exact hne k hk ⟨Bs h.hr k h1,by rw[h.hro k h1];omega⟩
  ·have:=hS k hk;omega
 have hS4:∀k,(Value.slice sa sn sc).ownBlock=some k->σ' k=4:=by
  intro k hk;rw[hσ];show(if k=g then 2 else _)=4;rw[A1 (hgS k hk),A7 hk]
 have hpb1:σ' pb=1:=(hgE pb lp z5ka z5ka).trans h.pbo;have hsz:=hgr.size;have hW:(w2.setCell ⟨pb,3,none⟩ (.slice (some ⟨g,0,none⟩) (fs.length+1) cap)).heap.size=w2.heap.size:=by simp[World.setCell]
 have hkeep:∀k,k<w.heap.size->σ k<5->σ k≠1->σ k≠2->(w2.setCell ⟨pb,3,none⟩ (.slice (some ⟨g,0,none⟩) (fs.length+1) cap)).heap[k]?=w.heap[k]?:=fun k h1 h5 h2 h3=>(hk3 k (Cb h1 hb.size) (fun e=>h2 (by rw[e];exact h.pbo)) (fun e=>h3 (h.hro k e))).trans (hk1 k h1 h5);have hbd:A3 D w (w2.setCell ⟨pb,3,none⟩ (.slice (some ⟨g,0,none⟩) (fs.length+1) cap)):=⟨hgr.os.trans hb.os,hgr.tape.trans hb.tape,hgr.output.trans hb.output,by rw[hW];have:=hb.size;omega,fun k hk=>hkeep k (h.dz k hk).1 z57a z57a z57a⟩;have hdz:∀k,D k->k<(w2.setCell ⟨pb,3,none⟩ (.slice (some ⟨g,0,none⟩) (fs.length+1) cap)).heap.size/\σ' k=0:=fun k hk=>⟨by rw[hW];have:=(h.dz k hk).1;have:=hb.size;omega,(hgE k (h.dz k hk).1 z57a z57a).trans (h.dz k hk).2⟩;have hgr3:(w2.setCell ⟨pb,3,none⟩ (.slice (some ⟨g,0,none⟩) (fs.length+1) cap)).ownsRow 0 9 1 (.slice K.ga K.gn K.gc) K.gl.length (Dx K.gl):=Bc h.gr (fun k hk hl=>hkeep k hl z5pa z5pa z5pa);have hgro:∀k,(Value.slice K.ga K.gn K.gc).ownBlock=some k->σ' k=3:=fun k hk=>(hgE k (Bs h.gr k hk) z5pa z5pa).trans (h.gro k hk);refine⟨⟨σ',?_,h.fr.keep hbd,hdz,hgr3,hgro,?_,hpb1,?_,?_,?_⟩,hbd⟩
 ·obtain⟨ρ,la,ln,lc,pa,pn,pc,bl,hv,hlb⟩:=hs;refine⟨_,_,_,_,_,_,_,_,hv.zero _ ?_ ?_ (by rw[hW];exact hsz) ((h.fr.keep hbd).weak (fun k hk=>⟨(hdz k hk).1,by rw[(hdz k hk).2];omega⟩)) ⟨hgr3,fun k hk=>⟨Bs hgr3 k hk,by rw[hgro k hk];omega⟩⟩,hlb⟩
  ·intro k hk;obtain⟨k1,k2⟩:=hk;by_cases hl:k<w1.heap.size
   ·left;rw[hσ]at k2;replace k2:(if k=g then 2 else if(Value.slice sa sn sc).ownBlock=some k then 4 else if k<w.heap.size then σ k else 9)<5:=k2;split at k2
    ·rename_i e1;rcases hat with h1|h1
     ·exact .inl ⟨by rw[e1];exact Bs h.hr g h1,by rw[e1,h.hro g h1];omega⟩
     ·omega
    ·split at k2
     ·exact .inr (by assumption)
     ·split at k2
      ·exact .inl ⟨by assumption,k2⟩
      ·omega
   ·exact .inr ⟨by omega,k1⟩
  ·intro k hk hn;refine hk3 k hk (fun e1=>hn (.inl ⟨by rw[e1];exact lp,by rw[e1,h.pbo];omega⟩)) (fun e1=>hn (.inl ⟨Bs h.hr k e1,by rw[h.hro k e1];omega⟩))
 ·have h1:w2.heap[pb]?=w1.heap[pb]?:=hgr.block pb lp1 (fun e=>by have:=h.hro pb e.symm;rw[h.pbo]at this;omega);rw[heap_set ((h1.trans (hk1 pb lp z5ka)).trans h.pbc)];simp
 ·rw[Ds];exact Yi hown _ _ (by simp only[Value.ownBlock,La,Cg];exact hgpb)
 ·intro k hk;simp only[Value.ownBlock,Cg]at hk;rw[←hk];exact Jw
 ·refine N9.app (h.fns.keep (fun k hk hl=>⟨hkeep k hl z5oa z5oa z5oa,?_⟩)) ⟨?_,fun k hk=>hS4 k hk⟩
  ·exact(hgE k hl z5oa z5oa).trans hk
  ·exact Bc hrow (fun k hk hl=>hk3 k hl (fun e1=>hne k hk ⟨by rw[e1];exact lp,by rw[e1,h.pbo];omega⟩) (fun e1=>hne k hk ⟨Bs h.hr k e1,by rw[h.hro k e1];omega⟩))
def Od.Akc(h:Od D pb K w e σ fs ms ha hn hc){w2:World}(s:Nm){g cap:Nat}(Eu:K.gl.length+1<=100000)
  (hown:w2.ownsRow 0 9 1 (.slice (some ⟨g,0,none⟩) (K.gl.length+1) cap) (K.gl.length+1) (Dx K.gl++[Ql s])) (hgr:w.grownBy w2 (Value.slice K.ga K.gn K.gc).ownBlock) (hat:(Value.slice K.ga K.gn K.gc).ownBlock=some g\/w.heap.size<=g) :
  (∃σ',Od D pb (K.A6n s (some ⟨g,0,none⟩) (K.gl.length+1) cap) (w2.setCell ⟨K.wb,1,none⟩ (.slice (some ⟨g,0,none⟩) (K.gl.length+1) cap)) e σ' fs ms ha hn hc)/\A3 D w (w2.setCell ⟨K.wb,1,none⟩ (.slice (some ⟨g,0,none⟩) (K.gl.length+1) cap)):=by
 have lp:=A6 h.pbc;have hlo:=h.st.lo;have hwbE:¬eK w.heap.size σ K.wb:=hlo.2.2;have hgl:g<w2.heap.size:=Bs hown g rfl;have hgw:g≠K.wb:=by
  rcases hat with h1|h1
  ·intro e1;exact hwbE ⟨hlo.2.1,by rw[←e1,h.gro g h1];omega⟩
  ·have:=hlo.2.1;omega
 obtain⟨σ',hσ⟩:∃σ':Nat->Nat,σ'=fun k=>if k=g then 3 else if k<w.heap.size then σ k else 9:=⟨_,rfl⟩;have hgE:∀k,k<w.heap.size->σ k≠3->σ' k=σ k:=by
  intro k hk h2;rw[hσ];show(if k=g then 3 else _)=σ k;rw[A1 (fun e=>by rcases hat with h1|h1;exact h2 (by rw[e];exact h.gro g h1);omega),A7 hk]
 have hg3:σ' g=3:=by rw[hσ];exact A7 rfl
 have hsz:=hgr.size;have hW:(w2.setCell ⟨K.wb,1,none⟩ (.slice (some ⟨g,0,none⟩) (K.gl.length+1) cap)).heap.size=w2.heap.size:=by simp[World.setCell]
 have hk3:∀k,k<w.heap.size->k≠K.wb->(Value.slice K.ga K.gn K.gc).ownBlock≠some k->(w2.setCell ⟨K.wb,1,none⟩ (.slice (some ⟨g,0,none⟩) (K.gl.length+1) cap)).heap[k]?=w.heap[k]?:=fun k h1 h2 h3=>(Bh _ _ _ _ (by exact h2)).trans (hgr.block k h1 (fun e=>h3 e.symm));have hkeep:∀k,k<w.heap.size->σ k<5->σ k≠3->(w2.setCell ⟨K.wb,1,none⟩ (.slice (some ⟨g,0,none⟩) (K.gl.length+1) cap)).heap[k]?=w.heap[k]?:=fun k h1 h5 h2=>hk3 k h1 (fun e=>hwbE ⟨hlo.2.1,by rw[←e];exact h5⟩) (fun e=>h2 (h.gro k e));have hbd:A3 D w (w2.setCell ⟨K.wb,1,none⟩ (.slice (some ⟨g,0,none⟩) (K.gl.length+1) cap)):=⟨hgr.os,hgr.tape,hgr.output,by rw[hW];exact hsz,fun k hk=>hkeep k (h.dz k hk).1 z57a z57a⟩;have hdz:∀k,D k->k<(w2.setCell ⟨K.wb,1,none⟩ (.slice (some ⟨g,0,none⟩) (K.gl.length+1) cap)).heap.size/\σ' k=0:=fun k hk=>⟨by rw[hW];have:=(h.dz k hk).1;omega,(hgE k (h.dz k hk).1 z57a).trans (h.dz k hk).2⟩;have hnm:Dx (K.gl++[s])=Dx K.gl++[Ql s]:=by simp[Dx]
 have hgr3:(w2.setCell ⟨K.wb,1,none⟩ (.slice (some ⟨g,0,none⟩) (K.gl.length+1) cap)).ownsRow 0 9 1 (.slice (some ⟨g,0,none⟩) (K.gl.length+1) cap) (K.gl++[s]).length (Dx (K.gl++[s])):=by
  rw[hnm,Ds];exact Yi hown _ _ (by simp only[Value.ownBlock,La,Cg];exact hgw)
 have hgro:∀k,(Value.slice (some ⟨g,0,none⟩) (K.gl.length+1) cap).ownBlock=some k->σ' k=3:=by
  intro k hk;simp only[Value.ownBlock,Cg]at hk;rw[←hk];exact hg3
 refine⟨⟨σ',?_,h.fr.keep hbd,hdz,hgr3,hgro,?_,?_,?_,?_,?_⟩,hbd⟩
 ·obtain⟨ρ,la,ln,lc,pa,pn,pc,bl,hv,hlb⟩:=h.st;obtain⟨sa,sn,sc,hvv⟩:=hv.ew;refine⟨_,_,_,_,_,_,_,_,hv.A29 _ s _ _ _ ?_ hvv ?_ ?_ (by rw[hW];exact hsz) ((h.fr.keep hbd).weak (fun k hk=>⟨(hdz k hk).1,by rw[(hdz k hk).2];omega⟩)) ⟨hgr3,fun k hk=>⟨Bs hgr3 k hk,by rw[hgro k hk];omega⟩⟩ Eu,hlb⟩
  ·intro k hk;obtain⟨k1,k2⟩:=hk;by_cases hl:k<w.heap.size
   ·left;rw[hσ]at k2;replace k2:(if k=g then 3 else if k<w.heap.size then σ k else 9)<5:=k2;split at k2
    ·rename_i e1;rcases hat with h1|h1
     ·exact⟨hl,by rw[e1,h.gro g h1];omega⟩
     ·omega
    ·exact⟨hl,by simpa [hl]using k2⟩
   ·exact .inr ⟨by omega,k1⟩
  ·have h1:w2.heap[K.wb]?=w.heap[K.wb]?:=hgr.block K.wb hlo.2.1 (fun e=>hwbE ⟨hlo.2.1,by rw[h.gro K.wb e.symm];omega⟩);rw[heap_set (h1.trans hvv.cell)];simp
  ·intro k hk hne hnE;exact hk3 k hk hne (fun e1=>hnE ⟨hk,by rw[h.gro k e1];omega⟩)
 ·exact(hkeep pb lp z5ka z5ka).trans h.pbc
 ·exact(hgE pb lp z5ka).trans h.pbo
 ·exact Bc h.hr (fun k hk hl=>hkeep k hl (by rw[h.hro k hk];omega) (by rw[h.hro k hk];omega))
 ·intro k hk;exact(hgE k (Bs h.hr k hk) (by rw[h.hro k hk];omega)).trans (h.hro k hk)
 ·refine h.fns.keep (fun k hk hl=>⟨hkeep k hl z5oa z5oa,?_⟩);exact(hgE k hl z5oa).trans hk
end
section
set_option maxRecDepth 100000
open Go.RowKit
open Go.Deep (BT)
def Ab1(D:Nat->Prop)(c:BT A5)(nk:Nat)(w0:World)(wb pb:Nat)(fa:Option Addr)(fn fc:Nat)(k:Nat)(v:Value)(wr:World):Prop:=
 ∃(i:Nat) (gl:List Nm) (ga:Option Addr) (gn gc:Nat) (fs:List Fn) (slots:Nat) (st:List Aa) (ms:List Value) (ha:Option Addr) (hn hc:Nat) (σ:Nat->Nat),v=.i i/\i+k=nk/\
  Od D pb ⟨wb,137,Cr c,fa,fn,fc,gl,ga,gn,gc⟩ wr ⟨[],slots,st,[]⟩ σ fs ms ha hn hc/\Ht (Cr c) (Cp i c) gl fs ⟨[],slots,st,[]⟩=Fo c/\st.length+2*bsize (Cp i c)<=700000/\gl.length<=i/\fs.length<=i/\A3 D w0 wr
def M0(D:Nat->Prop)(w:World)(pb:Nat)(P:C5):Prop:=∃sa sn sc ha hn hc ms,D pb/\w.heap[pb]?=some (.cells #[.n P.globals,.n P.slots,.slice sa sn sc,.slice ha hn hc] 101 (0,0))/\
 Dj D w 251 8 (.slice sa sn sc) P.main.length (F7 P.main)/\Dj D w 103 4 (.slice ha hn hc) P.fns.length ms/\N9 D w P.fns ms
def Ap8{kd:Nat}(h:22<=kd/\kd<=30):Cw kd≠145:=by
 have h9:kd=22\/kd=23\/kd=24\/kd=25\/kd=26\/kd=27\/kd=28\/kd=29\/kd=30:=by omega
 rcases h9 with e|e|e|e|e|e|e|e|e <;> (subst e;decide)
def Wf.Amx{x y:Nat}{l:A5}{c r:BT A5}(h:Wf 4 (.node x y l c r))(h20:l.kd≠20):Wf 1 (nd l c):=by
 refine⟨trivial,?_⟩;rcases h.2 with⟨h0,_⟩|⟨h0,_⟩|⟨h0,_⟩|⟨_,h1,h2⟩|⟨_,h1,h2⟩|⟨_,h1,h2⟩|⟨_,h1,_⟩
 ·omega
 ·omega
 ·omega
 ·exact .inr (.inr (.inr (.inl ⟨.inl rfl,h1,h2⟩)))
 ·exact .inr (.inr (.inr (.inr (.inl ⟨.inl rfl,h1,h2⟩))))
 ·exact .inr (.inr (.inr (.inr (.inr (.inl ⟨.inl rfl,h1,h2⟩)))))
 ·exact absurd h1 h20
def Wf.kd4{x y:Nat}{l:A5}{c r:BT A5}(h:Wf 4 (.node x y l c r))(h20:l.kd≠20)(h21:l.kd≠21):22<=l.kd/\l.kd<=30:=by
 rcases h.2 with⟨h0,_⟩|⟨h0,_⟩|⟨h0,_⟩|⟨_,h1,h2⟩|⟨_,h1,h2⟩|⟨_,h1,h2⟩|⟨_,h1,_⟩
 ·omega
 ·omega
 ·omega
 ·omega
 ·omega
 ·unfold No at h1;simp only[Gz,F3,Jg,Fh]at h1;omega
 ·omega
def Aiz(c:BT A5)(D:Nat->Prop)(w:World)(fa:Option Addr)(fn fc:Nat)(hfr:Jq D w (Cr c) fa fn fc)(hD:∀g,D g->g<w.heap.size)(W:World)(hW:W=(w.alloc (.cells #[.slice fa fn fc,.slice none 0 0,.slice none 0 0,.slice none 0 0,.i 0,.slice none 0 0] 137)).alloc (.cells #[.i 0,.i 0,.slice none 0 0,.slice none 0 0] 101)) :
  (∃σ,Od D (w.heap.size+1) ⟨w.heap.size,137,Cr c,fa,fn,fc,[],none,0,0⟩ W ⟨[],0,[],[]⟩ σ [] [] none 0 0)/\A3 D w W:=by
 have hsz:W.heap.size=w.heap.size+2:=by rw[hW];simp
 have hk:∀g,g<w.heap.size->W.heap[g]?=w.heap[g]?:=by
  intro g hg;rw[hW,Ck _ _ _ z4qa,Ck _ _ _ hg]
 have hbd:A3 D w W:=⟨by rw[hW];rfl,by rw[hW];rfl,by rw[hW];rfl,by omega,fun k hk'=>hk k (hD k hk')⟩;have hc1:W.heap[w.heap.size]?=some (.cells #[.slice fa fn fc,.slice none 0 0,.slice none 0 0,.slice none 0 0,.i 0,.slice none 0 0] 137 (0,0)):=by
  rw[hW,Ck _ _ _ z4ra];exact Bp w _
 have hc2:W.heap[w.heap.size+1]?=some (.cells #[.i 0,.i 0,.slice none 0 0,.slice none 0 0] 101 (0,0)):=by
  have:=Bp (w.alloc (.cells #[.slice fa fn fc,.slice none 0 0,.slice none 0 0,.slice none 0 0,.i 0,.slice none 0 0] 137)) (.cells #[.i 0,.i 0,.slice none 0 0,.slice none 0 0] 101);rw[hW];simpa using this
 have hσ:∀g,D g->(if g=w.heap.size+1 then 1 else if g<w.heap.size then 0 else 9)=0:=fun g hg=>by have:=hD g hg;rw[Ai,A7 this]
 refine⟨⟨fun g=>if g=w.heap.size+1 then 1 else if g<w.heap.size then 0 else 9,?_,hfr.keep hbd,fun g hg=>⟨by have:=hD g hg;omega,hσ g hg⟩,M9 _ _ _ _,fun g hg=>by simp[Value.ownBlock]at hg,hc2,A7 rfl,M9 _ _ _ _,fun g hg=>by simp[Value.ownBlock]at hg,rfl⟩,hbd⟩;refine EC.Sv.start ((hfr.keep hbd).weak (fun g hg=>⟨by have:=hD g hg;omega,by show(if g=w.heap.size+1 then 1 else if g<w.heap.size then 0 else 9)<5;rw[hσ g hg];omega⟩)) ⟨rfl,rfl,rfl,rfl⟩ hc1 (fun g hg=>⟨hg.1,fun e=>?_⟩);have h2:(if g=w.heap.size+1 then 1 else if g<w.heap.size then 0 else 9)<5:=hg.2;have e':g=w.heap.size:=e;rw[e',Ai,Ai]at h2;omega
def Aiy{D:Nat->Prop}{pb:Nat}{K:EC}{w:World}{slots:Nat}{st:List Aa}{σ:Nat->Nat}{fs:List Fn}{ms:List Value}{ha:Option Addr}{hn hc:Nat}(h:Od D pb K w ⟨[],slots,st,[]⟩ σ fs ms ha hn hc){ρ:Nat->Nat}{la:Option Addr}{ln lc:Nat}{pa:Option Addr}{pn pc:Nat}{bl:List LB}(hs:K.Sv (eK w.heap.size σ) w ⟨[],slots,st,[]⟩ ρ la ln lc pa pn pc bl)
  {sa:Option Addr} {sn sc:Nat} (hv:J3 (dX w.heap.size ρ) K.wb K.te w (.slice K.fa K.fn K.fc) (.slice K.ga K.gn K.gc) (.slice la ln lc) (.slice pa pn pc) slots st sa sn sc) (W:World) (hW:W=((w.setCell ⟨pb,1,none⟩ (.n slots)).setCell ⟨pb,2,none⟩ (.slice sa sn sc)).setCell ⟨pb,0,none⟩ (.n K.gl.length)) :
  ∃E:Nat->Prop,M0 E W pb ⟨K.gl.length,slots,st,fs⟩/\(∀g,E g->¬D g/\g<W.heap.size)/\A3 D w W:=by
 have lp:=A6 h.pbc;have hsz:W.heap.size=w.heap.size:=by rw[hW];simp[World.setCell]
 have hk:∀g,g≠pb->W.heap[g]?=w.heap[g]?:=by
  intro g hg;rw[hW,Bh _ _ _ _ (by exact hg),Bh _ _ _ _ (by exact hg),Bh _ _ _ _ (by exact hg)]
 have hpbc:W.heap[pb]?=some (.cells #[.n K.gl.length,.n slots,.slice sa sn sc,.slice ha hn hc] 101 (0,0)):=by
  rw[hW];have:=heap_set (j:=0) (heap_set (j:=2) (heap_set (j:=1) h.pbc (.n slots)) (.slice sa sn sc)) (.n K.gl.length);rw[this];simp
 have h4:=hv.Ue hs.one.2;have hSE:∀g,(Value.slice sa sn sc).ownBlock=some g->¬eK w.heap.size σ g:=fun g hg he=>by
  have:=(hs.prot g he).2;rw[h4 g hg]at this;cases this
 have hpbE:eK w.heap.size σ pb:=⟨lp,by rw[h.pbo];omega⟩;refine⟨fun g=>g<w.heap.size/\(g=pb\/(Value.slice sa sn sc).ownBlock=some g\/σ g=2\/σ g=4),⟨sa,sn,sc,ha,hn,hc,ms,⟨lp,.inl rfl⟩,hpbc,⟨?_,?_⟩,⟨?_,?_⟩,?_⟩,?_,?_⟩
 ·exact Bc hv.own (fun g hg _=>hk g (fun e=>hSE g hg (by rw[e];exact hpbE)))
 ·intro g hg;exact⟨Bs hv.own g hg,.inr (.inl hg)⟩
 ·exact Bc h.hr (fun g hg _=>hk g (fun e=>by have:=h.hro g hg;rw[e,h.pbo]at this;omega))
 ·intro g hg;exact⟨Bs h.hr g hg,.inr (.inr (.inl (h.hro g hg)))⟩
 ·exact h.fns.keep (fun g hg hl=>⟨hk g (fun e=>by rw[e,h.pbo]at hg;omega),hl,.inr (.inr (.inr hg))⟩)
 ·intro g hg;refine⟨fun hd=>?_,by rw[hsz];exact hg.1⟩;have h0:=h.dz g hd;rcases hg.2 with e1|e1|e1|e1
  ·rw[e1,h.pbo]at h0;omega
  ·exact hSE g e1 ⟨h0.1,by rw[h0.2];omega⟩
  ·omega
  ·omega
 ·exact⟨by rw[hW];rfl,by rw[hW];rfl,by rw[hW];rfl,by omega,fun g hg=>hk g (fun e=>by have:=(h.dz g hg).2;rw[e,h.pbo]at this;omega)⟩
def Ahv(c:BT A5)(hwf:Wf 4 c)(hlp:Q5 c)(D:Nat->Prop)(w:World)(tb:Nat)(va:Option Addr)(vn vc:Nat)(ks:List Value)(hD:D tb)(hDl:∀g,D g->g<w.heap.size)(hpb:w.heap[tb]?=some (.cells #[.slice va vn vc] 140 (0,0)))
  (hown:Dj D w 142 1 (.slice va vn vc) ks.length ks) (hrep:Ar D w c ks) (A2:bsize c<=50000) :
  Calls Tryz.prog 38 #[.p tb] w fun r w'=>∃pb E,r=.returned (.p pb)/\M0 E w' pb (Fo c)/\(∀g,E g->¬D g/\g<w'.heap.size)/\A3 D w w':=by
 have hvn:vn=ks.length:=(Cm hown.1).1;subst hvn;have HF:=A6f c hwf D w tb va ks.length vc ks hpb hown hrep z4ma;have HPb:=A0 hpb;have HOwn:=A0 hown;have HRep:=A0 hrep;have hlen:=hrep.len;have HLen:=A0 hlen;have hls:=Qb c;have hkl:ks.length<=50000:=by omega
 have HWf:=A0 hwf;have HLp:=A0 hlp;clear hown hrep hlen hwf hpb hlp;go_in;go_wp2_with fail
 refine HF.mono ?_;rintro r w1 ⟨fa,fn,fc,rfl,hb1',hfr1,hfo1⟩;have hpb1:=(hb1'.block tb (hDl tb hD)).trans HPb.o;have c0:=A4 hpb1 0 _ rfl;have lt:=A6 hpb1;have HFr1:=A0 hfr1;have HFo1:=A0 hfo1;have A9:=A0 hb1';have hsz1:=hb1'.size;clear hpb1 hfr1 hfo1 hb1';obtain⟨w2,Gh⟩:∃w2,w2=(w1.alloc (.cells #[.slice fa fn fc,.slice none 0 0,.slice none 0 0,.slice none 0 0,.i 0,.slice none 0 0] 137)).alloc (.cells #[.i 0,.i 0,.slice none 0 0,.slice none 0 0] 101):=⟨_,rfl⟩;obtain⟨⟨σ0,hp0⟩,hbd0⟩:=Aiz c (fun g=>D g\/(Value.slice fa fn fc).ownBlock=some g) w1 fa fn fc HFr1.o (fun g hg=>hg.elim (fun h=>Cb (hDl g h) hsz1) (fun h=>(HFo1.o g h).2)) w2 Gh;have HP0:=A0 hp0;have HW2:=A0 Gh;have Ab:A3 D w w2:=A3.trans ⟨A9.o.os,A9.o.tape,A9.o.output,A9.o.size,fun g hg=>A9.o.block g (hDl g hg)⟩ (hbd0.weak (fun g hg=>.inl hg));clear hp0 hbd0 Gh;go_wp2;rw[←HW2.o];clear HW2 c0 lt;go_loopg [21] ks.length (fun k v wr=>Ab1 (fun g=>D g\/(Value.slice fa fn fc).ownBlock=some g) c ks.length w2 w1.heap.size (w1.heap.size+1) fa fn fc k v wr)
 case atStart=>exact⟨0,[],none,0,0,[],0,[],[],none,0,0,σ0,rfl,by omega,HP0.o,rfl,by rw[show Cp 0 c=c from by cases c <;> rfl];simp;omega,Af _,Af _,A3.refl _ _⟩
 case round=>
  clear HP0;obtain⟨i,gl,ga,gn,gc,fs,slots,st,ms,ha,hn,hc,σ,rfl,hik,hpg,hem,hsi,hgi,hfi,hbel⟩:=hrel;have HPg:=A0 hpg;have HEm:=A0 hem;have HBel:=A0 hbel;have HBD:A3 D w wr:=Ab.trans (hbel.weak (fun g hg=>.inl hg));clear hpg hem hbel;by_cases hlt:i<ks.length
  ·have hr:=HRep.o.Bv HBD;obtain⟨x,y,l,cc,r,hd,v,ks',hv,hnn,hrk⟩:=Ar.at' i c ks hr z58a;obtain⟨g,rfl,hvn9,hcap,lg,hcell⟩:=G1 (HOwn.o.Bv HBD).1 z4ma;clear hvn9;have d0:=hcell i v hv;have hwf1:=Wf.drop 4 i c HWf.o;rw[hd]at hwf1;have hlp1:=Q5.drop i c HLp.o;rw[hd]at hlp1;have hdn:=Ra i c x y l cc r hd;have hz:bsize (Cp i c)=bsize (nd l cc)+bsize r:=by rw[hd,Cf,bsize]
   have hem1:=HEm.o;rw[hd,Ht]at hem1;have hnds:=Cf l cc;have hdz:bsize (Cp i c)<=bsize c:=A03 i c;clear hcell hv hd;by_cases h20:l.kd=20
   ·rw[A7 h20]at hem1;have hlpx:=hlp1.1;rw[A7 h20]at hlpx;have hwf2:Wf 1 cc:=by
     rcases hwf1.2 with⟨h0,_⟩|⟨h0,_⟩|⟨h0,_⟩|⟨_,h1,h2⟩|⟨_,h1,h2⟩|⟨_,h1,h2⟩|⟨_,_,h2⟩
     ·omega
     ·omega
     ·omega
     ·omega
     ·omega
     ·rw[h20]at h1;cases h1
     ·exact h2
    unfold Bx at hnn;rw[Ai]at hnn;obtain⟨b,cs,rfl,hDb,hbb,hll⟩:=hnn;have e1:Cw l.kd=143:=by rw[h20];rfl
    have e2:E4 l.kd=218:=by rw[h20];rfl
    rw[e1]at d0;rw[e2]at hbb;unfold Di at hll;simp only[h20]at hll;obtain⟨ps,sl,rfl,ho,hp⟩:=hll;obtain⟨va2,vn2,vc2,rfl⟩:∃va vn vc,sl=.slice va vn vc:=Qn ho.1;obtain⟨pa2,pn2,pc2,rfl⟩:∃va vn vc,ps=.slice va vn vc:=Qn hp.1;have hpd:=HPg.o.next (HPg.o.st.drewN 1) (Eb _ wr 1);have hEK:∀g,(D g\/(Value.slice fa fn fc).ownBlock=some g)->eK (wr.drewN 1).heap.size (Fs σ wr.heap.size 9) g:=fun g hg=>⟨(hpd.dz g hg).1,by rw[(hpd.dz g hg).2];omega⟩;have HFun:=Aw4 ⟨w1.heap.size,137,Cr c,fa,fn,fc,gl,ga,gn,gc⟩ l cc hwf2 hlpx _ (wr.drewN 1) slots st b pa2 pn2 pc2 va2 vn2 vc2 ks' hpd.st (hEK b (.inl hDb)) hbb ((hp.Bv (Eb D wr 1)).weak (fun g hg=>hEK g (.inl hg))) ((ho.Bv (Eb D wr 1)).weak (fun g hg=>hEK g (.inl hg))) (Ar.keep (w:=wr) (w':=wr.drewN 1) (fun g hg _=>⟨rfl,hEK g (.inl hg)⟩) _ _ hrk) z4ma;have HPd:=A0 hpd;have HEK:=A0 hEK;have q3:=A4 hpd.pbc 3 _ rfl;have lq:=A6 hpd.pbc;have lqw:w1.heap.size+1<wr.heap.size:=lq;have hhn:hn=fs.length:=(Cm hpd.hr).1;have q3':wr.cell? ⟨w1.heap.size+1,3,none⟩=some (.slice ha hn hc):=q3;have hfl:fs.length<=60000:=by omega
    have Dy:=As7;have HEm1:=A0 hem1;have HDn:=A0 hdn;have hsn:st.length+2*bsize (Cp (i+1) c)<=700000:=by rw[hdn];omega
    have HSn:=A0 hsn;have HHr:=A0 hpd.hr;have HPbE:eK (wr.drewN 1).heap.size (Fs σ wr.heap.size 9) (w1.heap.size+1):=⟨lq,by rw[hpd.pbo];omega⟩;have HHE:∀g,(Value.slice ha hn hc).ownBlock=some g->eK (wr.drewN 1).heap.size (Fs σ wr.heap.size 9) g:=fun g hg=>⟨Bs hpd.hr g hg,by rw[hpd.hro g hg];omega⟩;have HPbN:(Value.slice ha hn hc).ownBlock≠some (w1.heap.size+1):=fun e=>by have:=hpd.hro _ e;rw[hpd.pbo]at this;omega
    have HPbc:=A0 hpd.pbc;subst hhn;clear hrk hr hem1 hdn hsn hwf1 hlp1 hlpx hwf2 hbb ho hp hpd hEK e1 e2 q3 h20;unfold Cs at *;go_wp2;go_region_law (first
     | (refine Pt _ w5.heap.size #[.s l.s,.n l.ps.length,.n ((Mf (Cr c) gl l cc).slots),.slice sa5 sn5 sc5] 103 (Bp w5 (.cells #[.s l.s,.n l.ps.length,.n ((Mf (Cr c) gl l cc).slots),.slice sa5 sn5 sc5] 103)) rfl (.tmp 36) (.tmp 40) 99 rfl 0 4 56 _ Tryz.underlying99 Akk rfl z4ma (.slice ha fs.length hc) fs.length ms rfl rfl (hown5.alloc _) rfl (fun u hu=>by simp at hu;rcases hu with rfl|rfl|rfl|rfl <;> rfl) z4ma z4ma (De _) ?_;intro g6 cap6 w6 hown6 hgrow6' hat6' hg6;have hgrow6:w5.grownBy w6 (Value.slice ha fs.length hc).ownBlock:=Oh (Oo w5 (.cells #[.s l.s,.n l.ps.length,.n ((Mf (Cr c) gl l cc).slots),.slice sa5 sn5 sc5] 103) none) hgrow6';have hat6:(Value.slice ha fs.length hc).ownBlock=some g6\/w5.heap.size<=g6:=(hat6'.imp id (fun e=>by rw[e];simp));have hl6:=(hgrow6.block (w1.heap.size+1) (A6 hpb5) (fun e=>HPbN e.symm)).trans hpb5;have z6:=A4 hl6 3 _ rfl;have fq:=By hl6;have lq6:=A6 hl6;clear hl6 hgrow6' hat6')
     | (refine F9 rfl 53 _ _ rfl #[.p w1.heap.size,.p b] (by kernel_rfl) HFun ?_;rintro r5 w5 ⟨sa5,sn5,sc5,rfl,hrow5,hne5,Df,Cz⟩;refine⟨_,rfl,?_⟩;have hpb5:=(Cz.block _ HPbE).trans HPbc.o;have hown5:w5.ownsRow 0 103 4 (.slice ha fs.length hc) fs.length ms:=Bc HHr.o (fun k hk hl=>Cz.block k (HHE k hk));have z3:=A4 hpb5 3 _ rfl;have l5:=A6 hpb5;have HRow5:=A0 hrow5;have HNe5:=A0 hne5;have Ic:=A0 Df;have Ez:=A0 Cz;clear hrow5 hne5 Df Cz))
    all_goals go_wp2
    all_goals
     obtain⟨⟨σ7,hp7⟩,hbq⟩:=HPd.o.func (f:=Mf (Cr c) gl l cc) Ic.o Ez.o HRow5.o HNe5.o hown6 hgrow6 hat6;have Jv:A3 (fun g=>D g\/(Value.slice fa fn fc).ownBlock=some g) w2 (w6.setCell ⟨w1.heap.size+1,3,none⟩ (.slice (some ⟨g6,0,none⟩) (fs.length+1) cap6)):=HBel.o.trans ((Eb _ wr 1).trans hbq);go_roundg (gk-1)
     case measure=>omega
     case rel=>exact⟨i+1,gl,ga,gn,gc,_,slots,st,_,_,_,_,σ7,rfl,by omega,hp7,by rw[HDn.o];exact HEm1.o,HSn.o,by omega,by simp;omega,Jv⟩
   ·by_cases h21:l.kd=21
    ·rw[A1 h20,A7 h21]at hem1;have hwf2:Wf 0 cc:=by
      rcases hwf1.2 with⟨h0,_⟩|⟨h0,_⟩|⟨h0,_⟩|⟨_,h1,h2⟩|⟨_,h1,h2⟩|⟨_,h1,h2⟩|⟨_,h1,h2⟩
      ·omega
      ·omega
      ·omega
      ·omega
      ·omega
      ·exact h2
      ·omega
     unfold Bx at hnn;rw[Ai]at hnn;obtain⟨b,cs,rfl,hDb,hbb,hll⟩:=hnn;have e1:Cw l.kd=145:=by rw[h21];rfl
     have e2:E4 l.kd=152:=by rw[h21];rfl
     rw[e1]at d0;rw[e2]at hbb;unfold Di at hll;simp only[h21]at hll;obtain⟨a,rfl,rfl⟩:=hll;obtain⟨x1,y1,l1,c1,r1,Du,rfl,Cc,Cd,I6⟩:=hrk.cons';obtain rfl:=I6.nil';have hxs:=hwf2.exs;have Cu:bsize (.node x1 y1 l1 c1 .nil)=bsize (nd l1 c1):=by rw[Cf,bsize];rfl
     have hsm:=Qg (Cr c) gl l1 c1 hxs.1 hxs.2.1 ⟨[],slots,st,[]⟩;have hst1:=I0 (Cr c) gl l1 c1 ⟨[],slots,st,[]⟩;rw[Iq,em]at hem1;have hEK:∀g,(D g\/(Value.slice fa fn fc).ownBlock=some g)->eK wr.heap.size σ g:=fun g hg=>⟨(HPg.o.dz g hg).1,by rw[(HPg.o.dz g hg).2];omega⟩;have HC:=A0 (HPg.o.st.expr hxs.1 hxs.2.1 (Cc.weak (fun g hg=>hEK g (.inl hg))) (Ar.keep (fun g hg _=>⟨rfl,hEK g (.inl hg)⟩) _ _ Cd) (by simp only;omega));generalize J8:Aq (Cr c) gl l1 (Aj c1) (em (Cr c) gl c1) ⟨[],slots,st,[]⟩=Ch at *;obtain⟨Ig,sl1,Gt,lp1⟩:=Ch;obtain⟨Ax,Bj,Dc⟩:=hsm;simp only at Ax Bj Dc hst1;subst Ax Bj Dc;have d2:=A4 hbb 2 a rfl;have ld:=A6 hbb;have HBb:=A0 hbb;have Dy:=A9d 145 z4oa;have Ee:=A93;have HEm1:=A0 hem1;have HDn:=A0 hdn;have hsn:(Gt++[(⟨4,(gl.length:Nat),0,Bb⟩:Aa)]).length+2*bsize (Cp (i+1) c)<=700000:=by rw[hdn];simp;omega
     have HSn:=A0 hsn;have HEK:=A0 hEK;clear hr hem1 hdn hsn hwf1 hlp1 hwf2 hbb Cc Cd I6 hrk hEK e1 e2 hxs J8 h20 h21;unfold Cs at *;go_wp2_with fail
     refine HC.o.mono ?_;rintro r9 w5 ⟨rfl,Df,Cz⟩;have hp5:=HPg.o.next Df Cz;have hB5:A3 (fun g=>D g\/(Value.slice fa fn fc).ownBlock=some g) w2 w5:=HBel.o.trans (Cz.weak (fun g hg=>HEK.o g hg));have hbk5:=(Cz.block b (HEK.o b (.inl hDb))).trans HBb.o;have HBb5:=A0 hbk5;have Kf:=A0 hp5;have Ez:=A0 hB5;obtain⟨ρ5,la5,ln5,lc5,pa5,pn5,pc5,bl5,h5,_⟩:=hp5.st;obtain⟨sa5,sn5,sc5,Kk⟩:=h5.ew;have g1:=A4 Kk.cell 1 _ rfl;have lg1:=A6 Kk.cell;have hgn:gn=gl.length:=(Cm hp5.gr).1;simp only at g1 lg1;have hgl9:gl.length<=60000:=by omega
     subst hgn;have HStp:=hp5.st.step (by simp only;omega) 4 (gl.length:Nat) 0;clear Df Cz hp5 hB5 h5 Kk d2 ld hbk5;go_wp2_with fail
     refine HStp.mono ?_;rintro r9 w6 ⟨rfl,F6,hb6⟩;have hp6:=Kf.o.next F6 hb6;have HB6:A3 (fun g=>D g\/(Value.slice fa fn fc).ownBlock=some g) w2 w6:=Ez.o.trans (hb6.weak (fun g hg=>⟨(Kf.o.dz g hg).1,by rw[(Kf.o.dz g hg).2];omega⟩));have hbk6:=(hb6.block b ⟨(Kf.o.dz b (.inl hDb)).1,by rw[(Kf.o.dz b (.inl hDb)).2];omega⟩).trans HBb5.o;have d1:w6.cell? ⟨b,1,none⟩=some (.s l.s):=A4 hbk6 1 _ rfl;have ld:=A6 hbk6;obtain⟨ρ6,la6,ln6,lc6,pa6,pn6,pc6,bl6,h6,_⟩:=hp6.st;obtain⟨sa6,sn6,sc6,hv6⟩:=h6.ew;have hcw6:=hv6.cell;have g1:=A4 hv6.cell 1 _ rfl;have lg1:=A6 hv6.cell;simp only at g1 lg1;have hown6:w6.drew.ownsRow 0 9 1 (.slice ga gl.length gc) gl.length (Dx gl):=Bc hp6.gr (fun _ _ _=>rfl);have hnb:(Value.slice ga gl.length gc).ownBlock≠some w1.heap.size:=fun e=>hp6.st.lo.2.2 ⟨hp6.st.lo.2.1,by show Fs _ _ _ w1.heap.size<5;rw[hp6.gro _ e];omega⟩;have HCw6:=A0 hcw6;have HNb:=A0 hnb;have HP6:=A0 hp6;clear F6 hb6 hp6 h6 hv6 hbk6 hcw6 hnb;go_wp2;go_region_law (refine Pt _ w6.heap.size #[.s l.s] 9 (Bp w6.drew (.cells #[.s l.s] 9)) rfl (.tmp 64) (.tmp 70) 37 rfl 0 1 16 (.string ⟨#[]⟩) Tryz.underlying37 Y9 rfl z4ma (.slice ga gl.length gc) gl.length (Dx gl) rfl rfl (hown6.alloc _) rfl (fun u hu=>by simp at hu;rw[hu];rfl) z4ma z4ma (De _) ?_;intro g7 cap7 w7 hown7 hgrow7' hat7' hg7;have hgrow7:w6.drew.grownBy w7 (Value.slice ga gl.length gc).ownBlock:=Oh (Oo w6.drew (.cells #[.s l.s] 9) none) hgrow7';have hat7:(Value.slice ga gl.length gc).ownBlock=some g7\/w6.drew.heap.size<=g7:=(hat7'.imp id (fun e=>by rw[e];simp));have hl7:=(hgrow7.block w1.heap.size lg1 (fun e=>HNb.o e.symm)).trans HCw6.o;have z7:=A4 hl7 1 _ rfl;have fq:=By hl7;have lq7:=A6 hl7;clear hl7 hgrow7' hat7')
     all_goals go_wp2
     all_goals
      obtain⟨⟨σ8,hp8⟩,hb8⟩:=(HP6.o.next (HP6.o.st.drewN 1) (Eb _ w6 1)).Akc l.s (by show gl.length+1<=_;omega) hown7 hgrow7 hat7;have hbq:A3 (fun g=>D g\/(Value.slice fa fn fc).ownBlock=some g) w2 (w7.setCell ⟨w1.heap.size,1,none⟩ (.slice (some ⟨g7,0,none⟩) (gl.length+1) cap7)):=HB6.trans ((Eb _ w6 1).trans hb8);go_roundg (gk-1)
      case measure=>omega
      case rel=>exact⟨i+1,gl++[l.s],_,_,_,fs,_,_,ms,ha,hn,hc,σ8,rfl,by omega,hp8,by rw[HDn.o];exact HEm1.o,HSn.o,by simp;omega,by omega,hbq⟩
    ·rw[A1 h20,A1 h21,A5p]at hem1;have hlpx:=hlp1.1;rw[A1 h20]at hlpx;have Fe:=hwf1.Amx h20;have hkd:=hwf1.kd4 h20 h21;obtain⟨slots',st',hE⟩:=Ai8 (Cr c) gl l cc Fe h21 ⟨[],slots,st,[]⟩ rfl rfl;have hst1:=I0 (Cr c) gl l cc ⟨[],slots,st,[]⟩;rw[hE]at hst1 hem1;have hE':=A0 hE;have hEK:∀g,(D g\/(Value.slice fa fn fc).ownBlock=some g)->eK wr.heap.size σ g:=fun g hg=>⟨(HPg.o.dz g hg).1,by rw[(HPg.o.dz g hg).2];omega⟩;have HC:=A0 (((Aai ⟨w1.heap.size,137,Cr c,fa,fn,fc,gl,ga,gn,gc⟩ (nd l cc)).1 Fe).1 [] _ wr ⟨[],slots,st,[]⟩ v ks' HPg.o.st (hnn.weak (fun g hg=>hEK g (.inl hg))) (Ar.keep (fun g hg _=>⟨rfl,hEK g (.inl hg)⟩) _ _ hrk) hlpx (fun x hx=>by cases hx) (by simp only;omega) (by simp only[Jo];omega) (by simp only[Jo];omega));unfold Bx at hnn;rw[Ai]at hnn;obtain⟨b,cs,rfl,_,_,_⟩:=hnn;have Dy:=A9d (Cw l.kd) (A8j (.inl hkd));have Ee:=Pr (Cw l.kd) (Ap8 hkd);have HEm1:=A0 hem1;have HDn:=A0 hdn;have hsn:st'.length+2*bsize (Cp (i+1) c)<=700000:=by rw[hdn];simp only at hst1;omega
     have HSn:=A0 hsn;have HEK:=A0 hEK;clear hrk hr hem1 hdn hsn hwf1 hlp1 hlpx Fe hE hEK;generalize Cw l.kd=tt at *;unfold Cs at *;go_wp2_with fail
     refine HC.o.mono ?_;rintro r9 w9 ⟨rfl,Hf,Dm⟩;have hs9':(⟨w1.heap.size,137,Cr c,fa,fn,fc,gl,ga,gn,gc⟩:EC).St [] (eK wr.heap.size σ) w9 ⟨[],slots',st',[]⟩:=by rw[←hE'.out];exact Hf
     have HPg9:=HPg.o.next hs9' Dm;have Dq:A3 (fun g=>D g\/(Value.slice fa fn fc).ownBlock=some g) w2 w9:=HBel.o.trans (Dm.weak (fun g hg=>HEK.o g hg));clear Hf hs9' Dm;go_wp2;go_roundg (gk-1)
     case measure=>omega
     case rel=>exact⟨i+1,gl,ga,gn,gc,fs,slots',st',ms,ha,hn,hc,_,rfl,by omega,HPg9,by rw[HDn.o];exact HEm1.o,HSn.o,by omega,by omega,Dq⟩
  ·have h0:Cp i c=.nil:=by
    exact z1na
   have hem1:=HEm.o;rw[h0,Ht]at hem1;have HEm1:=A0 hem1;have hpg:=HPg.o;obtain⟨ρ5,la5,ln5,lc5,pa5,pn5,pc5,bl5,h5,_⟩:=hpg.st;obtain⟨sa5,sn5,sc5,Kk⟩:=h5.ew;obtain⟨c0,c1,c2,c3,c4,c5,fz,lb⟩:=Xr Kk.cell;obtain⟨q0,q1,q2,q3,fq,lq⟩:=Eo hpg.pbc;have hgn:gn=gl.length:=(Cm hpg.gr).1;simp only at c0 c1 c2 c3 c4 c5 fz lb;subst hgn;have hgl9:gl.length<=60000:=by omega
   have hne:w1.heap.size≠w1.heap.size+1:=by omega
   have HV5:=A0 Kk;have H5:=A0 h5;clear hem1 h0 hpg h5 Kk;go_wp2;go_ret;obtain⟨E,k1,k2,k3⟩:=Aiy HPg.o H5.o HV5.o _ rfl;rw[HEm1.o]at k1;exact⟨_,rfl,E,k1,fun g hg=>⟨fun hd=>(k2 g hg).1 (.inl hd),(k2 g hg).2⟩,HBD.trans (k3.weak (fun g hg=>.inl hg))⟩
