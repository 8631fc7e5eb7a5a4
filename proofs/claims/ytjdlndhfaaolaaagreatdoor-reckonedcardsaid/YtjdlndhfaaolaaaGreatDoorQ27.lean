import Derived.Test.YtjdlndhfaaolaaaGreatDoorQ23
import Derived.Test.YtjdlndhfaaolaaaGreatDoorQ26
set_option maxHeartbeats 20000000
namespace Go.Proofs.YtjdlndhfaaolaaaGreatDoor
section
set_option maxRecDepth 100000
open Go.RowKit
open Go.Deep (BT)
def Pb(K:EC)(l:A6)(c:BT A6):Prop:=(l.kd=31\/l.kd=32)->Cx (Kr K) c
theorem A8j(d:Em):d.cut d.loc.length=d:=by
 unfold Em.cut;rw[List.take_length]
theorem N3(n:Nat)(e:Em):(e.cut n).st.length=e.st.length:=rfl
theorem Ajy(fns:List (Nm×Nat))(gl:List Nm)(line x1 y1 x2 y2:Nat)(l1 l2:A6)(c1 c2:BT A6)(e:Em)(h31:l2.kd=31) :
  Ld line (Ar (.node x1 y1 l1 c1 (.node x2 y2 l2 c2 .nil))) (em fns gl (.node x1 y1 l1 c1 (.node x2 y2 l2 c2 .nil))) e =
   ((((em fns gl c2 0 ((An fns gl l1 (Ar c1) (em fns gl c1) e).step 8 0 line)).cut (An fns gl l1 (Ar c1) (em fns gl c1) e).loc.length).step 6 0 0).land (An fns gl l1 (Ar c1) (em fns gl c1) e).st.length).land (em fns gl c2 0 ((An fns gl l1 (Ar c1) (em fns gl c1) e).step 8 0 line)).st.length:=by
 simp[Ld,Pg,Rz,Ar,Ta h31];rfl
theorem Am5(fns:List (Nm×Nat))(gl:List Nm)(line x1 y1 x2 y2 x3 y3:Nat)(l1 l2 l3:A6)(c1 c2 c3:BT A6)(e:Em)(h31:l2.kd=31)(h32:l3.kd=31) :
  Ld line (Ar (.node x1 y1 l1 c1 (.node x2 y2 l2 c2 (.node x3 y3 l3 c3 .nil)))) (em fns gl (.node x1 y1 l1 c1 (.node x2 y2 l2 c2 (.node x3 y3 l3 c3 .nil)))) e =
   ((em fns gl c3 0 ((((em fns gl c2 0 ((An fns gl l1 (Ar c1) (em fns gl c1) e).step 8 0 line)).cut (An fns gl l1 (Ar c1) (em fns gl c1) e).loc.length).step 6 0 0).land (An fns gl l1 (Ar c1) (em fns gl c1) e).st.length)).cut
    ((em fns gl c2 0 ((An fns gl l1 (Ar c1) (em fns gl c1) e).step 8 0 line)).cut (An fns gl l1 (Ar c1) (em fns gl c1) e).loc.length).loc.length).land (em fns gl c2 0 ((An fns gl l1 (Ar c1) (em fns gl c1) e).step 8 0 line)).st.length:=by
 simp[Ld,Pg,Rz,Aml,Ar,Ta h31,Ta h32];rfl
theorem Ahl(K:EC)(l:A6)(c:BT A6)(hk:l.kd=22)(ih:Cx (Pb K) c)(hwf:Wf 2 c)(lbs:List Nat)(D:Nat->Prop)(w:World)(e:Em)(b:Nat)(t:TypeId)(x:Value)(s1:Option Addr)(n1 m1:Nat)(s2:Option Addr)(n2 m2:Nat)(ks:List Value)(hD:D b)
  (hb:w.heap[b]?=some (.cells #[.int .i64 (l.line:Nat),.iface t x,.slice s1 n1 m1,.slice s2 n2 m2] 314 (0,0))) (hks:(ks=[.iface t x,.slice s1 n1 m1]/\Value.slice s2 n2 m2=.slice none 0 0)\/ks=[.iface t x,.slice s1 n1 m1,.slice s2 n2 m2])
  (hr:Al D w c ks) (hst:K.St lbs D w e) (hlp:Lp (nd l c) e.lps.length) (hbb:Dd e) (hsz:e.st.length+2*bsize (nd l c)<=800000) (hlo:e.loc.length+bsize (nd l c)<=90000) (hll:e.lps.length+bsize (nd l c)<=90000) :
  Calls Tryz.prog 93 #[.pointer (some ⟨K.wb,0,none⟩),.pointer (some ⟨b,0,none⟩)] w fun r w'=>r=.returned (.tuple #[])/\K.St lbs D w' (An K.fns K.gl l (Ar c) (em K.fns K.gl c) e)/\A3 D w w':=by
 obtain⟨hlw,lcb,hncb⟩:=hst.lo;have hnds:=Cd l c;rw[Yo hk];have HBk:=A0 hb;have d1:=A2 hb 1 _ rfl;have ld:=A4 hb;rcases hks with⟨rfl,Au⟩|rfl
 ·obtain⟨x1,y1,l1,c1,r1,D5,rfl,Bj,Ap,hz⟩:=hr.cons';obtain⟨x2,y2,l2,c2,r2,Gk,rfl,Dh,B0,hzz⟩:=hz.cons';obtain rfl:=hzz.nil';injection Au with q1 q2 q3;subst q1 q2 q3;obtain⟨Et,G3⟩:=hwf.La.1 Bj.Px.1;obtain⟨Cj,B8⟩:=Dh.No;obtain⟨h31,_⟩:=hwf.1.La.2 Cj;have Bv:bsize (.node x1 y1 l1 c1 (.node x2 y2 l2 c2 .nil))=bsize (nd l1 c1)+1+l2.ps.length+bsize c2:=by rw[Cd];simp only[bsize];omega
  have hl1:=Gd K.fns K.gl l1 c1 e;have Gi:=(Nv K.fns K.gl c2).1 ((An K.fns K.gl l1 (Ar c1) (em K.fns K.gl c1) e).step 8 0 l.line);have Gn:=R7 K.fns K.gl c2 0 ((An K.fns K.gl l1 (Ar c1) (em K.fns K.gl c1) e).step 8 0 l.line);rw[Dq]at Gi Gn;have hsm:=Na K.fns K.gl l1 c1 Et G3 e;have hlc1:(An K.fns K.gl l1 (Ar c1) (em K.fns K.gl c1) e).loc.length<=e.loc.length:=by rw[hsm.2.1];exact Nat.le_refl _
  have HLp1:Hid ((An K.fns K.gl l1 (Ar c1) (em K.fns K.gl c1) e).lps.length=e.lps.length):=by show _=_;rw[hsm.1]
  have HLpc:Hid (Lp (.node x1 y1 l1 c1 (.node x2 y2 l2 c2 .nil)) e.lps.length):=by have:=hlp.2.1;rw[if_neg (by omega)]at this;exact this
  have hpc2:Lp c2 e.lps.length:=by have:=HLpc.o.2.2.2.1;rw[if_neg (by omega)]at this;exact this
  have HLp2:Hid ((em K.fns K.gl c2 0 ((An K.fns K.gl l1 (Ar c1) (em K.fns K.gl c1) e).step 8 0 l.line)).lps.length=e.lps.length):=(Tv _ _ _ _ _).trans HLp1.o;rw[Ajy K.fns K.gl l.line x1 y1 x2 y2 l1 l2 c1 c2 e h31];have I8:=A0 (hst.expr Et G3 Bj Ap (by omega));have HBm1:=A0 (Rl K.fns K.gl l1 c1 e hbb);have HBm2:=A0 (Tn K.fns K.gl c2 0 _ (HBm1.o.step 8 0 l.line));have F2:=A0 (fun(W:World) (e2:Em) (hx:K.St lbs D W e2) (hbd:A3 D w W) (h1:e2.st.length+2*bsize c2<=800000) (h2:e2.loc.length+bsize c2<=90000) (h3:e2.lps.length=e.lps.length) (h4:Dd e2)=>R1 K c2 (ih.2.1 Cj) lbs D W e2 s1 n1 m1 Gk hx (B8.Bn hbd) (B0.Bn hbd) (by rw[h3];exact hpc2) h4 h1 h2 (by omega));have HC3:=A0 (fun(W:World) (e2:Em) (hx:K.St lbs D W e2) (h1:e2.st.length<=800000) (h2:e2.loc.length<=90000) (h3:e2.lps.length<=90000) (h4:Dd e2)=>R1 K .nil trivial lbs D W e2 none 0 0 [] hx (O8 _ _ _ _) rfl trivial h4 (by simp only[bsize];omega) (by simp only[bsize];omega) (by simp only[bsize];omega));clear hst hb hr hbb Bj Ap hz ih hwf hk Dh B0 hzz Et G3 Cj B8 hlp hsm hpc2 HLpc h31;generalize Hs:An K.fns K.gl l1 (Ar c1) (em K.fns K.gl c1) e=Bz at *;generalize hE2:em K.fns K.gl c2 0 (Bz.step 8 0 l.line)=F7 at *;go_enter Tryz.func93,Tryz.ntmps93;go_wp2_with fail
  refine(I8.o).mono ?_;rintro r w1 ⟨rfl,Ah,A1⟩;have A9:=A0 Ah;have A5:Hid (A3 D w w1):=A1;have Bm:=(A5.o.block b hD).trans HBk.o;clear Ah A1 ld;clear d1;have d0:w1.cell? ⟨b,0,none⟩=some (.int .i64 (l.line:Nat)):=A2 Bm 0 _ rfl;have ld:=A4 Bm;clear Bm;go_wp2_with fail
  refine(A9.o.step (by omega) 8 0 l.line).mono ?_;rintro r w2 ⟨rfl,Au,A8⟩;have Ak:=A0 Au;have Aa:Hid (A3 D w w2):=A5.o.trans A8;have D6:=(Aa.o.block b hD).trans HBk.o;clear Au A8 ld;clear d0;have d2:=A2 D6 2 _ rfl;have ld:=A4 D6;clear D6;go_wp2_with fail
  refine(F2.o _ _ Ak.o Aa.o (by rw[Dq];omega) (by show Bz.loc.length+_<=_;omega) HLp1.o (HBm1.o.step _ _ _)).mono ?_;rintro r w3 ⟨rfl,Bx,Aj⟩;rw[hE2]at Bx;have Bh:=A0 Bx;have At:Hid (A3 D w w3):=Aa.o.trans Aj;have Eg:=(At.o.block b hD).trans HBk.o;clear Bx Aj ld;clear d2;have ld:=A4 Eg;clear Eg;go_wp2_with fail
  refine(Bh.o.step (by show F7.st.length<=_;omega) 6 0 0).mono ?_;rintro r w4 ⟨rfl,F6,B4⟩;have Ep:=A0 F6;have Ci:Hid (A3 D w w4):=At.o.trans B4;have hbk4:=(Ci.o.block b hD).trans HBk.o;clear F6 B4 ld;have ld:=A4 hbk4;clear hbk4;have hm1:(F7.cut (Bz.step 8 0 l.line).loc.length).loc.length<=Bz.loc.length:=by show(F7.loc.take Bz.loc.length).length<=_;simp;omega
  go_wp2_with fail
  refine(Ep.o.land Bz.st.length (by rw[Dq,N3];omega)).mono ?_;rintro r w5 ⟨rfl,Ck,Cc⟩;have Hg:=A0 Ck;have Dn:Hid (A3 D w w5):=Ci.o.trans Cc;have hbk5:=(Dn.o.block b hD).trans HBk.o;clear Ck Cc ld;have d3:=A2 hbk5 3 _ rfl;have ld:=A4 hbk5;clear hbk5;go_wp2_with fail
  refine(HC3.o _ _ Hg.o (by rw[Jt,Dq,N3];omega) (by show(F7.cut (Bz.step 8 0 l.line).loc.length).loc.length<=_;omega) (by have:=HLp2.o;show F7.lps.length<=_;omega) (((HBm2.o.cut _).step _ _ _).land _)).mono ?_;rintro r w6 ⟨rfl,E3,hb6⟩;rw[em,A8j]at E3;have HS6:=A0 E3;have Iu:Hid (A3 D w w6):=Dn.o.trans hb6;have hbk6:=(Iu.o.block b hD).trans HBk.o;clear E3 hb6 ld;clear d3;have ld:=A4 hbk6;clear hbk6;go_wp2_with fail
  refine(HS6.o.land F7.st.length (by rw[Jt,Dq,N3];omega)).mono ?_;rintro r w7 ⟨rfl,G2,Ig⟩;have HS7:=A0 G2;have HB7:Hid (A3 D w w7):=Iu.o.trans Ig;clear G2 Ig;go_wp2;go_end0;exact⟨rfl,HS7.o,HB7.o⟩
 ·obtain⟨x1,y1,l1,c1,r1,D5,rfl,Bj,Ap,hz⟩:=hr.cons';obtain⟨x2,y2,l2,c2,r2,Gk,rfl,Dh,B0,hzz⟩:=hz.cons';obtain⟨x3,y3,l3,c3,r3,ks3,rfl,hn3,C7,Ft⟩:=hzz.cons';obtain rfl:=Ft.nil';obtain⟨Et,G3⟩:=hwf.La.1 Bj.Px.1;obtain⟨Cj,B8⟩:=Dh.No;obtain⟨h31,_⟩:=hwf.1.La.2 Cj;obtain⟨hk3,Cl⟩:=hn3.No;obtain⟨h33,_⟩:=hwf.1.1.La.2 hk3;have Bv:bsize (.node x1 y1 l1 c1 (.node x2 y2 l2 c2 (.node x3 y3 l3 c3 .nil)))=bsize (nd l1 c1)+1+l2.ps.length+bsize c2+1+l3.ps.length+bsize c3:=by rw[Cd];simp only[bsize];omega
  have hl1:=Gd K.fns K.gl l1 c1 e;have Gi:=(Nv K.fns K.gl c2).1 ((An K.fns K.gl l1 (Ar c1) (em K.fns K.gl c1) e).step 8 0 l.line);have Gn:=R7 K.fns K.gl c2 0 ((An K.fns K.gl l1 (Ar c1) (em K.fns K.gl c1) e).step 8 0 l.line);rw[Dq]at Gi Gn;have hsm:=Na K.fns K.gl l1 c1 Et G3 e;have hlc1:(An K.fns K.gl l1 (Ar c1) (em K.fns K.gl c1) e).loc.length<=e.loc.length:=by rw[hsm.2.1];exact Nat.le_refl _
  have HLp1:Hid ((An K.fns K.gl l1 (Ar c1) (em K.fns K.gl c1) e).lps.length=e.lps.length):=by show _=_;rw[hsm.1]
  have HLpc:Hid (Lp (.node x1 y1 l1 c1 (.node x2 y2 l2 c2 (.node x3 y3 l3 c3 .nil))) e.lps.length):=by have:=hlp.2.1;rw[if_neg (by omega)]at this;exact this
  have hpc2:Lp c2 e.lps.length:=by have:=HLpc.o.2.2.2.1;rw[if_neg (by omega)]at this;exact this
  have HLp2:Hid ((em K.fns K.gl c2 0 ((An K.fns K.gl l1 (Ar c1) (em K.fns K.gl c1) e).step 8 0 l.line)).lps.length=e.lps.length):=(Tv _ _ _ _ _).trans HLp1.o;have hpc3:Lp c3 e.lps.length:=by have:=HLpc.o.2.2.2.2.2.1;rw[if_neg (by omega)]at this;exact this
  rw[Am5 K.fns K.gl l.line x1 y1 x2 y2 x3 y3 l1 l2 l3 c1 c2 c3 e h31 h33];have I8:=A0 (hst.expr Et G3 Bj Ap (by omega));have HBm1:=A0 (Rl K.fns K.gl l1 c1 e hbb);have HBm2:=A0 (Tn K.fns K.gl c2 0 _ (HBm1.o.step 8 0 l.line));have F2:=A0 (fun(W:World) (e2:Em) (hx:K.St lbs D W e2) (hbd:A3 D w W) (h1:e2.st.length+2*bsize c2<=800000) (h2:e2.loc.length+bsize c2<=90000) (h3:e2.lps.length=e.lps.length) (h4:Dd e2)=>R1 K c2 (ih.2.1 Cj) lbs D W e2 s1 n1 m1 Gk hx (B8.Bn hbd) (B0.Bn hbd) (by rw[h3];exact hpc2) h4 h1 h2 (by omega));have HC3:=A0 (fun(W:World) (e2:Em) (hx:K.St lbs D W e2) (hbd:A3 D w W) (h1:e2.st.length+2*bsize c3<=800000) (h2:e2.loc.length+bsize c3<=90000) (h3:e2.lps.length=e.lps.length) (h4:Dd e2)=>R1 K c3 (ih.2.2.1 hk3) lbs D W e2 s2 n2 m2 ks3 hx (Cl.Bn hbd) (C7.Bn hbd) (by rw[h3];exact hpc3) h4 h1 h2 (by omega));clear hst hb hr hbb Bj Ap hz ih hwf hk Dh B0 hzz Et G3 Cj B8 hlp hsm hpc2 HLpc h31 hn3 C7 Ft hk3 Cl hpc3 h33;generalize Hs:An K.fns K.gl l1 (Ar c1) (em K.fns K.gl c1) e=Bz at *;generalize hE2:em K.fns K.gl c2 0 (Bz.step 8 0 l.line)=F7 at *;go_enter Tryz.func93,Tryz.ntmps93;go_wp2_with fail
  refine(I8.o).mono ?_;rintro r w1 ⟨rfl,Ah,A1⟩;have A9:=A0 Ah;have A5:Hid (A3 D w w1):=A1;have Bm:=(A5.o.block b hD).trans HBk.o;clear Ah A1 ld;clear d1;have d0:w1.cell? ⟨b,0,none⟩=some (.int .i64 (l.line:Nat)):=A2 Bm 0 _ rfl;have ld:=A4 Bm;clear Bm;go_wp2_with fail
  refine(A9.o.step (by omega) 8 0 l.line).mono ?_;rintro r w2 ⟨rfl,Au,A8⟩;have Ak:=A0 Au;have Aa:Hid (A3 D w w2):=A5.o.trans A8;have D6:=(Aa.o.block b hD).trans HBk.o;clear Au A8 ld;clear d0;have d2:=A2 D6 2 _ rfl;have ld:=A4 D6;clear D6;go_wp2_with fail
  refine(F2.o _ _ Ak.o Aa.o (by rw[Dq];omega) (by show Bz.loc.length+_<=_;omega) HLp1.o (HBm1.o.step _ _ _)).mono ?_;rintro r w3 ⟨rfl,Bx,Aj⟩;rw[hE2]at Bx;have Bh:=A0 Bx;have At:Hid (A3 D w w3):=Aa.o.trans Aj;have Eg:=(At.o.block b hD).trans HBk.o;clear Bx Aj ld;clear d2;have ld:=A4 Eg;clear Eg;go_wp2_with fail
  refine(Bh.o.step (by show F7.st.length<=_;omega) 6 0 0).mono ?_;rintro r w4 ⟨rfl,F6,B4⟩;have Ep:=A0 F6;have Ci:Hid (A3 D w w4):=At.o.trans B4;have hbk4:=(Ci.o.block b hD).trans HBk.o;clear F6 B4 ld;have ld:=A4 hbk4;clear hbk4;have hm1:(F7.cut (Bz.step 8 0 l.line).loc.length).loc.length<=Bz.loc.length:=by show(F7.loc.take Bz.loc.length).length<=_;simp;omega
  go_wp2_with fail
  refine(Ep.o.land Bz.st.length (by rw[Dq,N3];omega)).mono ?_;rintro r w5 ⟨rfl,Ck,Cc⟩;have Hg:=A0 Ck;have Dn:Hid (A3 D w w5):=Ci.o.trans Cc;have hbk5:=(Dn.o.block b hD).trans HBk.o;clear Ck Cc ld;have d3:=A2 hbk5 3 _ rfl;have ld:=A4 hbk5;clear hbk5;have hl3:=(Nv K.fns K.gl c3).1 (((F7.cut (Bz.step 8 0 l.line).loc.length).step 6 0 0).land Bz.st.length);have hg3:=R7 K.fns K.gl c3 0 (((F7.cut (Bz.step 8 0 l.line).loc.length).step 6 0 0).land Bz.st.length);rw[Jt,Dq,N3]at hg3 hl3;go_wp2_with fail
  refine(HC3.o _ _ Hg.o Dn.o (by rw[Jt,Dq,N3];omega) (by show(F7.cut (Bz.step 8 0 l.line).loc.length).loc.length+_<=_;omega) HLp2.o (((HBm2.o.cut _).step _ _ _).land _)).mono ?_;rintro r w6 ⟨rfl,E3,hb6⟩;have HS6:=A0 E3;have Iu:Hid (A3 D w w6):=Dn.o.trans hb6;have hbk6:=(Iu.o.block b hD).trans HBk.o;clear E3 hb6 ld;clear d3;have ld:=A4 hbk6;clear hbk6;go_wp2_with fail
  refine(HS6.o.land F7.st.length (by rw[N3];omega)).mono ?_;rintro r w7 ⟨rfl,G2,Ig⟩;have HS7:=A0 G2;have HB7:Hid (A3 D w w7):=Iu.o.trans Ig;clear G2 Ig;go_wp2;go_end0;exact⟨rfl,HS7.o,HB7.o⟩
theorem Agq(K:EC)(l:A6)(c:BT A6)(hk:l.kd=22)(ih:Cx (Pb K) c)(hwf:Wf 2 c):Kr K l c:=by
 intro lbs D w e v ks hst hn hr hlp hbb hsz hlo hll;obtain⟨hlw,lcb,hncb⟩:=hst.lo;have hnds:=Cd l c;unfold Bo at hn;rw[if_neg (by omega)]at hn;obtain⟨b,cs,rfl,hD,hb,hl⟩:=hn;have e1:Cb l.kd=253:=by rw[hk];rfl
 have e2:De l.kd=314:=by rw[hk];rfl
 rw[e1];rw[e2]at hb;unfold Cr at hl;simp only[hk]at hl;obtain⟨t,x,s1,n1,m1,s2,n2,m2,rfl,hks⟩:=hl;have HC:=A0 (Ahl K l c hk ih hwf lbs D w e b t x s1 n1 m1 s2 n2 m2 ks hD hb hks hr hst hlp hbb hsz hlo hll);have ld:=A4 hb;have D8:=Mq 253 (by decide);have Dr:=An6;clear hst hb e1 e2 hk hr hlp hbb hks ih hwf;unfold C5;go_enter Tryz.func56,Tryz.ntmps56;go_wp2_with fail
 refine(HC.o).mono ?_;rintro r w1 ⟨rfl,Ah,A1⟩;have A9:=A0 Ah;have A5:=A0 A1;clear Ah A1;go_wp2;go_end0;exact⟨rfl,A9.o,A5.o⟩
end
section
set_option maxRecDepth 100000
open Go.RowKit
open Go.Deep (BT)
variable {K:EC}{D:Nat->Prop}{w:World}{e:Em}{ρ:Nat->Nat}{la:Option Addr}{ln lc:Nat}{pa:Option Addr}{pn pc:Nat}{lb:Nat}{ba:Option Addr}{bn bc:Nat}{br:List LB}
theorem EC.St.top{K:EC}{lbs:List Nat}{D:Nat->Prop}{w:World}{e:Em}(h:K.St lbs D w e)(h0:e.lps.length≠0)(hb:e.lps.length<=90000) :
  ∃lb lr s bs r ba bn bc,lbs=lb::lr/\e.lps=(s,bs)::r/\lb<w.heap.size/\w.heap[lb]?=some (.cells #[.int .i64 (s:Nat),.slice ba bn bc] 263 (0,0))/\w.ownsRow 0 3 1 (.slice ba bn bc) (D1 bs).length (D1 bs)/\bn=bs.length/\
   Calls Tryz.prog 96 #[.pointer (some ⟨K.wb,3,none⟩)] w (fun r' w'=>r'=.returned (.pointer (some ⟨lb,0,none⟩))/\w'=w):=by
 obtain⟨ρ,la,ln,lc,pa,pn,pc,bl,h,hlb⟩:=h;obtain⟨sa,sn,sc,hv⟩:=h.ew;have hlp:=h.lps;have hln:=hlp.len;cases hq:e.lps with
 | nil=>rw[hq]at h0;exact absurd rfl h0
 | cons x r=>
  cases hbl:bl with
  | nil=>rw[hbl,hq]at hlp;exact hlp.elim
  | cons b br=>
   rw[hbl,hq]at hlp;obtain⟨k1,k2,k3,k4,k5⟩:=hlp;have hst:=h.Ol hv;rw[hbl]at hst;have hl:((b::br).map fun b=>C5 b.1).reverse.length=br.length+1:=by simp
   have hbr:br.length<=90000:=by rw[hbl]at hln;simp at hln;omega
   have ht:=A1c hst (by rw[hl];omega) br.length (by rw[hl];omega) hl;have hx:(((b::br).map fun b=>C5 b.1).reverse)[br.length]'(by rw[hl];omega)=.pointer (some ⟨b.1,0,none⟩):=by
    simp[C5]
   rw[hx]at ht;refine⟨b.1,br.map Prod.fst,x.1,x.2,r,b.2.1,b.2.2.1,b.2.2.2,by rw[←hlb,hbl];rfl,rfl,A4 k1,k1,k2,?_,ht⟩;have:=(C8 k2).1;rw[this];simp[D1]
theorem EC.Sv.s8(h:K.Sv D w e ρ la ln lc pa pn pc ((lb,ba,bn,bc)::br)){s:Nat}{bs:List Nat}{r:List (Nat×List Nat)}(hq:e.lps=(s,bs)::r) :
  w.heap[lb]?=some (.cells #[.int .i64 (s:Nat),.slice ba bn bc] 263 (0,0)):=by
 have:=h.lps;rw[hq]at this;exact this.1
theorem EC.Sv.Va(h:K.Sv D w e ρ la ln lc pa pn pc ((lb,ba,bn,bc)::br)){s:Nat}{bs:List Nat}{r:List (Nat×List Nat)}(hq:e.lps=(s,bs)::r) :
  w.ownsRow 0 3 1 (.slice ba bn bc) (D1 bs).length (D1 bs):=by
 have:=h.lps;rw[hq]at this;exact this.2.1
theorem EC.Sv.A98(h:K.Sv D w e ρ la ln lc pa pn pc ((lb,ba,bn,bc)::br)){s:Nat}{bs:List Nat}{r:List (Nat×List Nat)}(hq:e.lps=(s,bs)::r) :
  (Value.slice ba bn bc).ownBlock≠some lb:=by
 have:=h.lps;rw[hq]at this;intro e1;have h1:=this.2.2.2.1 lb e1;have h2:=this.2.2.1;simp only at h2;omega
theorem Ab6(K:EC)(l:A6)(c:BT A6)(hk:l.kd=26):Kr K l c:=by
 intro lbs D w e v ks hst hn hr hlp hbb hsz hlo hll;obtain⟨hlw,lcb,hncb⟩:=hst.lo;have hnds:=Cd l c;unfold Bo at hn;rw[if_neg (by omega)]at hn;obtain⟨b,cs,rfl,hD,hb,hl⟩:=hn;have e1:Cb l.kd=264:=by rw[hk];rfl
 have e2:De l.kd=368:=by rw[hk];rfl
 rw[e1];rw[e2]at hb;unfold Cr at hl;simp only[hk]at hl;rw[X5 hk];obtain⟨rfl,rfl⟩:=hl;have Hh:e.lps.length≠0:=hlp.1 (.inr hk);obtain⟨lb,lr,s,bs,r,ba,bn,bc,rfl,hq,llb,hlb,hown,rfl,HT⟩:=hst.top Hh (by omega);have hE:e.cnt=e.step 6 (s:Nat) 0:=by unfold Em.cnt;rw[hq]
 rw[hE];have HSt:=A0 (hst.step (by omega) 6 (s:Nat) 0);have HTop:=A0 HT;have g0:=A2 hlb 0 _ rfl;have ld:=A4 hb;have D8:=Mq 264 (by decide);have Dr:=O0 264 (by decide);have Ee:=P3 264 (by decide);have F8:=Q4 264 (by decide);have G6:=Qr 264 (by decide);have He:=Alw;clear hst hb e1 e2 hk hr hlp hbb hq hE HT hown Hh hlb;unfold C5;go_enter Tryz.func56,Tryz.ntmps56;go_wp2_with fail
 refine HTop.o.mono ?_;rintro r w ⟨rfl,rfl⟩;go_wp2_with fail
 refine(HSt.o).mono ?_;rintro r w1 ⟨rfl,Ah,A1⟩;have A9:=A0 Ah;have A5:=A0 A1;clear Ah A1;go_wp2;go_end0;exact⟨rfl,A9.o,A5.o⟩
theorem Aey(K:EC)(l:A6)(c:BT A6)(hk:l.kd=25):Kr K l c:=by
 intro lbs D w e v ks hst hn hr hlp hbb hsz hlo hll;obtain⟨hlw,lcb,hncb⟩:=hst.lo;have hnds:=Cd l c;unfold Bo at hn;rw[if_neg (by omega)]at hn;obtain⟨b,cs,rfl,hD,hb,hl⟩:=hn;have e1:Cb l.kd=259:=by rw[hk];rfl
 have e2:De l.kd=367:=by rw[hk];rfl
 rw[e1];rw[e2]at hb;unfold Cr at hl;simp only[hk]at hl;rw[Xu hk];obtain⟨rfl,rfl⟩:=hl;have Hh:e.lps.length≠0:=hlp.1 (.inl hk);obtain⟨lb,lr,s,bs,r,ba,bn,bc,rfl,hq,llb,_,_,rfl,HT⟩:=hst.top Hh (by omega);have HTop:=A0 HT;obtain⟨ρ,la,ln,lc,pa,pn,pc,bl,h,hlb⟩:=hst;obtain⟨b2,br,rfl⟩:∃b2 br,bl=b2::br:=by
  cases bl with
  | nil=>simp at hlb
  | cons b2 br=>exact⟨b2,br,rfl⟩
 simp only[List.map_cons,List.cons.injEq]at hlb;obtain⟨rfl,rfl⟩:=hlb;have hlps:=h.lps;rw[hq]at hlps;obtain⟨k1,k2,k3,k4,k5⟩:=hlps;obtain⟨lb,ba,bn,bc⟩:=b2;simp only[Mw]at k1 k2 k4 llb HTop HT k3;have hbn:bn=(D1 bs).length:=(C8 k2).1;have hbk:(D1 bs).length=bs.length:=by simp[D1]
 subst hbn;obtain⟨hd,hdb⟩:=h.Nh (E6 _ w 1) (h.Mo.drewN 1) rfl;have HStep:=A0 (Kg hd.ew (by omega) 6 0 0);have HD:=A0 hd;have hbs:bs.length<=800000:=by
  have:=(hbb (s,bs) (by rw[hq];simp)).1;simp only at this;omega
 have hbl:(D1 bs).length<=800000:=by rw[hbk];exact hbs
 clear hbk hbs;have g0:=A2 k1 0 _ rfl;have g1:=A2 k1 1 _ rfl;have fz:=Bd k1;have Ht:=A0 k1;have HK3:=A0 k3;have HE:Hid (e.Kz=⟨e.loc,e.slots,e.st++[⟨6,0,0,Ai⟩],(s,bs++[e.st.length])::r⟩):=by show _=_;unfold Em.Kz;rw[hq]
 have HQ:=A0 hq;have ld:=A4 hb;have D8:=Mq 259 (by decide);have Dr:=O0 259 (by decide);have Ee:=P3 259 (by decide);have F8:=Q4 259 (by decide);have G6:=Aan;clear hb e1 e2 hk hr hlp hbb HT Hh h hd hdb k1 k2 k3 k4 k5 hq;unfold C5;go_enter Tryz.func56,Tryz.ntmps56;go_wp2_with fail
 refine HTop.o.mono ?_;rintro r w ⟨rfl,rfl⟩;go_wp2_with fail
 go_region_law (first
  | (refine Mr _ w5.heap.size #[.int .i64 (e.st.length:Nat)] 3 (heap_alloc_new w5 (.cells #[.int .i64 (e.st.length:Nat)] 3)) rfl (.tmp 62) (.tmp 65) 34 rfl 0 1 8 (.int .i64 0) Tryz.underlying34 Vm rfl (by omega) (.slice ba (D1 bs).length bc) (D1 bs).length (D1 bs) rfl rfl (hown5.alloc _) rfl (fun u hu=>by simp at hu;rw[hu];rfl) (by omega) (by omega) (Nat.zero_le _) ?_;intro g6 cap6 w6 hown6 hgrow6' hat6' hg6;have hgrow6:w5.grownBy w6 (Value.slice ba (D1 bs).length bc).ownBlock:=Lx (World.grownBy_alloc w5 (.cells #[.int .i64 (e.st.length:Nat)] 3) none) hgrow6';have hat6:(Value.slice ba (D1 bs).length bc).ownBlock=some g6\/w5.heap.size<=g6:=(hat6'.imp id (fun e=>by rw[e];simp));have hl6:=(hgrow6.block lb l5 (fun e=>hnl5 e.symm)).trans hl5;have q1:=A2 hl6 1 _ rfl;have fq:=Bd hl6;have lq:=A4 hl6;clear hl6 hgrow6' hat6')
  | (refine Fj rfl 55 _ _ rfl #[.pointer (some ⟨K.wb,0,none⟩),.int .i64 6,.int .i64 0,.int .i64 0] (by kernel_rfl) HStep.o ?_;rintro r5 w5 ⟨rfl,Ck,Cc⟩;refine⟨_,rfl,?_⟩;have Ic:=HD.o.Nh Cc (HD.o.Mo.next (e':=e.step 6 0 0) Cc Ck rfl) rfl;have hl5:w5.heap[lb]?=some (.cells #[.int .i64 (s:Nat),.slice ba (D1 bs).length bc] 263 (0,0)):=Ic.1.s8 HQ.o;have hown5:w5.ownsRow 0 3 1 (.slice ba (D1 bs).length bc) (D1 bs).length (D1 bs):=Ic.1.Va HQ.o;have hnl5:(Value.slice ba (D1 bs).length bc).ownBlock≠some lb:=Ic.1.A98 HQ.o;have l5:=A4 hl5;have z0:=A2 hl5 0 _ rfl;have z1:=A2 hl5 1 _ rfl;have f5:=Bd hl5;have HV5:=A0 Ic;clear Ck Cc Ic))
 all_goals go_wp2
 all_goals go_end0
 all_goals
  obtain⟨k1,k2⟩:=HV5.o.1.A43 HQ.o e.st.length hown6 hgrow6 hat6;rw[HE.o];exact⟨rfl,k1,(E6 D w 1).trans (HV5.o.2.trans k2)⟩
end
section
set_option maxRecDepth 100000
open Go.RowKit
open Go.Deep (BT)
theorem A4v{bs:List Nat}{i:Nat}(h:i<bs.length):(D1 bs)[i]?=some (.int .i64 (bs[i]:Nat)):=by
 rw[D1,List.getElem?_map,List.getElem?_eq_getElem h];rfl
theorem Aaj(fns:List (Nm×Nat))(gl:List Nm)(line x1 y1 x2 y2:Nat)(l1 l2:A6)(c1 c2:BT A6)(e:Em)(h32:l2.kd=32) :
  Lr line (em fns gl (.node x1 y1 l1 c1 (.node x2 y2 l2 c2 .nil))) e =
   (((((em fns gl c2 0 ((An fns gl l1 (Ar c1) (em fns gl c1) e.open').step 7 0 line)).cut (An fns gl l1 (Ar c1) (em fns gl c1) e.open').loc.length).step 6 (e.st.length:Nat) 0).land (An fns gl l1 (Ar c1) (em fns gl c1) e.open').st.length).Hj
    ((((em fns gl c2 0 ((An fns gl l1 (Ar c1) (em fns gl c1) e.open').step 7 0 line)).cut (An fns gl l1 (Ar c1) (em fns gl c1) e.open').loc.length).step 6 (e.st.length:Nat) 0).land (An fns gl l1 (Ar c1) (em fns gl c1) e.open').st.length).Sr).close:=by
 simp[Lr,Pg,Rz,A1z h32];rfl
theorem A5p(K:EC)(l:A6)(c:BT A6)(hk:l.kd=23)(ih:Cx (Pb K) c)(hwf:Wf 3 c)(lbs:List Nat)(D:Nat->Prop)(w:World)(e:Em)(b:Nat)(t:TypeId)(x:Value)(s1:Option Addr)(n1 m1:Nat)(hD:D b)
  (hb:w.heap[b]?=some (.cells #[.int .i64 (l.line:Nat),.iface t x,.slice s1 n1 m1] 317 (0,0)))
  (hr:Al D w c [.iface t x,.slice s1 n1 m1]) (hst:K.St lbs D w e) (hlp:Lp (nd l c) e.lps.length) (hbb:Dd e) (hsz:e.st.length+2*bsize (nd l c)<=800000) (hlo:e.loc.length+bsize (nd l c)<=90000) (hll:e.lps.length+bsize (nd l c)<=90000) :
  Calls Tryz.prog 94 #[.pointer (some ⟨K.wb,0,none⟩),.pointer (some ⟨b,0,none⟩)] w fun r w'=>r=.returned (.tuple #[])/\K.St lbs D w' (An K.fns K.gl l (Ar c) (em K.fns K.gl c) e)/\A3 D w w':=by
 obtain⟨hlw,lcb,hncb⟩:=hst.lo;have hnds:=Cd l c;rw[A1x hk];have HBk:=A0 hb;have d1:=A2 hb 1 _ rfl;have ld:=A4 hb;obtain⟨x1,y1,l1,c1,r1,D5,rfl,Bj,Ap,hz⟩:=hr.cons';obtain⟨x2,y2,l2,c2,r2,Gk,rfl,Dh,B0,hzz⟩:=hz.cons';obtain rfl:=hzz.nil';obtain⟨Et,G3⟩:=hwf.Ow.1 Bj.Px.2;obtain⟨Cj,B8⟩:=Dh.No;obtain⟨h32,_⟩:=hwf.1.Ow.2 Cj;have Bv:bsize (.node x1 y1 l1 c1 (.node x2 y2 l2 c2 .nil))=bsize (nd l1 c1)+1+l2.ps.length+bsize c2:=by rw[Cd];simp only[bsize];omega
 have hl1:=Gd K.fns K.gl l1 c1 e.open';have hg1:=Wc K.fns K.gl l1 c1 e.open';have Gi:=(Nv K.fns K.gl c2).1 ((An K.fns K.gl l1 (Ar c1) (em K.fns K.gl c1) e.open').step 7 0 l.line);have Gn:=R7 K.fns K.gl c2 0 ((An K.fns K.gl l1 (Ar c1) (em K.fns K.gl c1) e.open').step 7 0 l.line);rw[Dq]at Gi Gn;have Bw:e.open'.st.length=e.st.length:=rfl;rw[Bw]at hl1 hg1;clear Bw;have hsm:=Na K.fns K.gl l1 c1 Et G3 e.open';have hlc1:(An K.fns K.gl l1 (Ar c1) (em K.fns K.gl c1) e.open').loc.length<=e.loc.length:=by rw[hsm.2.1];exact Nat.le_refl _
 have HLp1:Hid ((An K.fns K.gl l1 (Ar c1) (em K.fns K.gl c1) e.open').lps.length=e.lps.length+1):=by show _=_;rw[hsm.1];rfl
 have hpc2:Lp c2 (e.lps.length+1):=by
  have h1:=hlp.2.1;rw[if_neg (by omega)]at h1;have h2:=h1.2.2.2.1;rw[if_pos h32]at h2;exact h2
 have HSts:Hid (Ga (em K.fns K.gl c2 0 ((An K.fns K.gl l1 (Ar c1) (em K.fns K.gl c1) e.open').step 7 0 l.line))=e.st.length::Ga e):=by
  show _=_;rw[Zy];show Ga (An K.fns K.gl l1 (Ar c1) (em K.fns K.gl c1) e.open')=_;unfold Ga;rw[hsm.1];rfl
 have HBm1:=A0 (Rl K.fns K.gl l1 c1 e.open' hbb.open');have HBm2:=A0 (Tn K.fns K.gl c2 0 _ (HBm1.o.step 7 0 l.line));rw[Aaj K.fns K.gl l.line x1 y1 x2 y2 l1 l2 c1 c2 e h32];have HHere:=A0 hst.here;obtain⟨ρ,la,ln,lc,pa,pn,pc,bl,h,hlb⟩:=hst;have hbl:bl.length<=90000:=by have:=h.lps.len;omega
 have h1:=h.alloc (.cells #[.int .i64 (e.st.length:Nat),.slice none 0 0] 263) (5+2*bl.length) (by omega);have hbd1:A3 D w (w.alloc (.cells #[.int .i64 (e.st.length:Nat),.slice none 0 0] 263)):=(A3.refl D w).alloc hlw _;have hnew:=heap_alloc_new w (.cells #[.int .i64 (e.st.length:Nat),.slice none 0 0] 263);obtain⟨sa,sn,sc,hv⟩:=h1.ew;have HPu:=A0 (A8f (h1.Ol hv) (by simp;omega) (some ⟨w.heap.size,0,none⟩) (by simp));have HPL:=A0 (fun(w1:World) hp=>h1.Vi e.st.length w.heap.size hv hnew (Hw (Nat.le_refl _)) (w':=w1) hp);rw[hlb]at HPL;have I8:=A0 (fun(W:World) (hx:K.St (w.heap.size::lbs) D W e.open') (hbd:A3 D w W)=>hx.expr Et G3 (Bj.Bn hbd) (Ap.Bn hbd) (by show e.st.length+_<=_;omega));have F2:=A0 (fun(W:World) (e2:Em) (hx:K.St (w.heap.size::lbs) D W e2) (hbd:A3 D w W) (h1:e2.st.length+2*bsize c2<=800000) (h2:e2.loc.length+bsize c2<=90000) (h3:e2.lps.length=e.lps.length+1) (h4:Dd e2)=>R1 K c2 (ih.2.1 Cj) (w.heap.size::lbs) D W e2 s1 n1 m1 Gk hx (B8.Bn hbd) (B0.Bn hbd) (by rw[h3];exact hpc2) h4 h1 h2 (by omega));have HBd1:=A0 hbd1;clear hb hr hbb Bj Ap hz ih hwf hk Dh B0 hzz Et G3 Cj B8 hlp hsm hpc2 h32 h h1 hv hnew hbd1 hlb;generalize Hs:An K.fns K.gl l1 (Ar c1) (em K.fns K.gl c1) e.open'=Bz at *;generalize hE2:em K.fns K.gl c2 0 (Bz.step 7 0 l.line)=F7 at *;go_enter Tryz.func94,Tryz.ntmps94;go_wp2_with fail
 refine HHere.o.mono ?_;rintro r w ⟨rfl,rfl⟩;go_wp2_with fail
 refine HPu.o.mono ?_;rintro r w1 ⟨rfl,hp⟩;obtain⟨Ah,hb1'⟩:=HPL.o w1 hp;have A9:=A0 Ah;have A5:Hid (A3 D w w1):=HBd1.o.trans hb1';have Bm:=(A5.o.block b hD).trans HBk.o;clear Ah hb1' hp d1 ld;have d1:=A2 Bm 1 _ rfl;have ld:=A4 Bm;clear Bm;go_wp2_with fail
 refine(I8.o w1 A9.o A5.o).mono ?_;rintro r w2 ⟨rfl,Au,A8⟩;have Ak:=A0 Au;have Aa:Hid (A3 D w w2):=A5.o.trans A8;have D6:=(Aa.o.block b hD).trans HBk.o;clear Au A8 ld;clear d1;have d0:w2.cell? ⟨b,0,none⟩=some (.int .i64 (l.line:Nat)):=A2 D6 0 _ rfl;have ld:=A4 D6;clear D6;go_wp2_with fail
 refine(Ak.o.step (by omega) 7 0 l.line).mono ?_;rintro r w3 ⟨rfl,Bx,Aj⟩;have Bh:=A0 Bx;have At:Hid (A3 D w w3):=Aa.o.trans Aj;have Eg:=(At.o.block b hD).trans HBk.o;clear Bx Aj ld;clear d0;have d2:=A2 Eg 2 _ rfl;have ld:=A4 Eg;clear Eg;go_wp2_with fail
 refine(F2.o _ _ Bh.o At.o (by rw[Dq];omega) (by show Bz.loc.length+_<=_;omega) HLp1.o (HBm1.o.step _ _ _)).mono ?_;rintro r w4 ⟨rfl,F6,B4⟩;rw[hE2]at F6;have Ep:=A0 F6;have Ci:Hid (A3 D w w4):=At.o.trans B4;have hbk4:=(Ci.o.block b hD).trans HBk.o;clear F6 B4 ld;clear d2;have ld:=A4 hbk4;clear hbk4;have hq0:(F7.cut (Bz.step 7 0 l.line).loc.length).lps.length≠0:=by
  have:=congrArg List.length HSts.o;simp only[Ga,List.length_map,List.length_cons]at this;show F7.lps.length≠0;omega
 have Am:(F7.cut (Bz.step 7 0 l.line).loc.length).lps.length<=90000:=by
  have:=congrArg List.length HSts.o;simp only[Ga,List.length_map,List.length_cons]at this;show F7.lps.length<=90000;omega
 obtain⟨lb,lr,s,bs,r4,ba,bn,bc,hlbs,hq,llb,hlb4,hown4,rfl,_⟩:=Ep.o.top hq0 Am;injection hlbs with hlb5 hlr5;have Fp:s=e.st.length:=by
  have:=HSts.o;have hq':F7.lps=(s,bs)::r4:=hq;unfold Ga at this;rw[hq']at this;simp only[List.map_cons,List.cons.injEq]at this;exact this.1
 have Fv:r4.length=e.lps.length:=by
  have:=congrArg List.length HSts.o;have hq':F7.lps=(s,bs)::r4:=hq;unfold Ga at this;rw[hq']at this;simp at this;exact this
 subst Fp;subst hlb5;have g0:=A2 hlb4 0 _ rfl;have HQ:=A0 hq;clear hlb4 hown4 hlr5 hq hq0 Am llb;go_wp2_with fail
 refine(Ep.o.step (by show F7.st.length<=_;omega) 6 (e.st.length:Nat) 0).mono ?_;rintro r w5 ⟨rfl,Ck,Cc⟩;have Hg:=A0 Ck;have Dn:Hid (A3 D w w5):=Ci.o.trans Cc;have hbk5:=(Dn.o.block b hD).trans HBk.o;clear Ck Cc ld;clear g0;have ld:=A4 hbk5;clear hbk5;go_wp2_with fail
 refine(Hg.o.land Bz.st.length (by rw[Dq,N3];omega)).mono ?_;rintro r w6 ⟨rfl,E3,hb6⟩;have HS6:=A0 E3;have Iu:Hid (A3 D w w6):=Dn.o.trans hb6;have hbk6:=(Iu.o.block b hD).trans HBk.o;clear E3 hb6 ld;have ld:=A4 hbk6;clear hbk6;have HQ6:Hid ((((F7.cut (Bz.step 7 0 l.line).loc.length).step 6 (e.st.length:Nat) 0).land Bz.st.length).lps=(e.st.length,bs)::r4):=HQ.o;have HBm6:Hid (Dd (((F7.cut (Bz.step 7 0 l.line).loc.length).step 6 (e.st.length:Nat) 0).land Bz.st.length)):=(((HBm2.o.cut _).step _ _ _).land _);have HE6:Hid ((((F7.cut (Bz.step 7 0 l.line).loc.length).step 6 (e.st.length:Nat) 0).land Bz.st.length).Sr=bs):=by show _=_;unfold Em.Sr;rw[HQ6.o]
 have hbs:bs.length<=800000:=by
  have:=(HBm6.o (e.st.length,bs) (by rw[HQ6.o];simp)).1;rw[Jt,Dq,N3]at this;simp only at this;omega
 generalize hE6:(((F7.cut (Bz.step 7 0 l.line).loc.length).step 6 (e.st.length:Nat) 0).land Bz.st.length)=em6 at *;have HE6':=A0 hE6;clear hE6;obtain⟨ρ,la,ln,lc,pa,pn,pc,bl,h6,hlb6⟩:=HS6.o;obtain⟨b2,br,rfl⟩:∃b2 br,bl=b2::br:=by
  cases bl with
  | nil=>simp at hlb6
  | cons b2 br=>exact⟨b2,br,rfl⟩
 obtain⟨lb,ba,bn,bc⟩:=b2;simp only[List.map_cons,List.cons.injEq]at hlb6;obtain⟨hlb7,hlbr⟩:=hlb6;subst hlb7;have hl6:=h6.s8 HQ6.o;have hbn:bn=bs.length:=by have:=(C8 (h6.Va HQ6.o)).1;rw[this];simp[D1]
 subst hbn;have g1:=A2 hl6 1 _ rfl;have lg:=A4 hl6;have H6:=A0 h6;have HLbr:=A0 hlbr;have hbr:br.length<=90000:=by have:=h6.lps.len;rw[HQ6.o]at this;simp at this;omega
 clear h6 hl6 hlbr;go_wp2;go_loopg [49] bs.length (fun k v wr=>∃(i:Nat) (ρ':Nat->Nat),v=.int .i64 i/\i+k=bs.length/\K.Sv D wr (em6.Hj (bs.take i)) ρ' la ln lc pa pn pc ((w.heap.size,ba,bs.length,bc)::br)/\A3 D w wr)
 case atStart=>exact⟨0,ρ,rfl,by omega,H6.o,Iu.o⟩
 case round=>
  clear H6 HS6;obtain⟨i,ρ',rfl,hik,hsv,hbel⟩:=hrel;have HBel:=A0 hbel;have HQi:Hid ((em6.Hj (bs.take i)).lps=(e.st.length,bs)::r4):=(Un _ _).trans HQ6.o;have hll6:=Rm (bs.take i) em6;clear hbel;by_cases hlt:i<bs.length
  ·obtain⟨g,rfl,hvn9,hcap,lg2,hcell⟩:=Gj (hsv.Va HQi.o) (by simp[D1];omega);clear hvn9;have d0:=hcell i _ (A4v hlt);have hjl:bs[i]<(em6.Hj (bs.take i)).st.length:=by
    rw[hll6];exact(HBm6.o (e.st.length,bs) (by rw[HQ6.o];simp)).2 _ (List.getElem_mem hlt)
   have HL:=A0 (Sn hsv.ew bs[i] hjl);have HNx:=A0 (Ab4 bs i hlt em6);have HV:=A0 hsv;clear hcell hsv hjl hll6;generalize bs[i]=jj at *;go_wp2_with fail
   refine HL.o.mono ?_;rintro r w7 ⟨rfl,G2,Ig⟩;obtain⟨k1,k2⟩:=HV.o.Nh Ig (HV.o.Mo.next (e':=(em6.Hj (bs.take i)).land jj) Ig G2 rfl) rfl;rw[←HNx.o]at k1;have Ht:=A0 k1;have HB7:Hid (A3 D w w7):=HBel.o.trans k2;clear G2 Ig k1 k2;go_wp2;go_roundg (gk-1)
   case measure=>omega
   case rel=>exact⟨i+1,_,rfl,by omega,Ht.o,HB7.o⟩
  ·obtain rfl:i=bs.length:=by omega
   rw[List.take_length]at hsv;obtain⟨sa,sn,sc,hv⟩:=hsv.ew;have lbw:=A4 hv.cell;have hpl:(((w.heap.size,ba,bs.length,bc)::br:List LB).map fun b=>C5 b.1).reverse.length=br.length+1:=by simp
   have HPo:=A0 (Ago (hsv.Ol hv) (by rw[hpl];omega) br.length (by rw[hpl];omega) hpl (by simp));have HPL:=A0 (fun(w9:World) hp=>hsv.A53 hv (w':=w9) hp);rw[HLbr.o]at HPL;clear hsv hv hll6;go_wp2_with fail
   refine HPo.o.mono ?_;rintro r w9 ⟨rfl,hp⟩;obtain⟨k1,k2⟩:=HPL.o w9 hp;have Ht:=A0 k1;have Cz:Hid (A3 D w w9):=HBel.o.trans k2;clear k1 k2 hp;go_wp2;go_end0;have hE7:(((F7.cut Bz.loc.length).step 6 (e.st.length:Nat) 0).land Bz.st.length)=em6:=HE6'.o;rw[hE7,HE6.o];exact⟨rfl,Ht.o,Cz.o⟩
theorem Acy(K:EC)(l:A6)(c:BT A6)(hk:l.kd=23)(ih:Cx (Pb K) c)(hwf:Wf 3 c):Kr K l c:=by
 intro lbs D w e v ks hst hn hr hlp hbb hsz hlo hll;obtain⟨hlw,lcb,hncb⟩:=hst.lo;have hnds:=Cd l c;unfold Bo at hn;rw[if_neg (by omega)]at hn;obtain⟨b,cs,rfl,hD,hb,hl⟩:=hn;have e1:Cb l.kd=255:=by rw[hk];rfl
 have e2:De l.kd=317:=by rw[hk];rfl
 rw[e1];rw[e2]at hb;unfold Cr at hl;simp only[hk]at hl;obtain⟨t,x,s1,n1,m1,rfl,rfl⟩:=hl;have HC:=A0 (A5p K l c hk ih hwf lbs D w e b t x s1 n1 m1 hD hb hr hst hlp hbb hsz hlo hll);have ld:=A4 hb;have D8:=Mq 255 (by decide);have Dr:=O0 255 (by decide);have Ee:=Agn;clear hst hb e1 e2 hk hr hlp hbb ih hwf;unfold C5;go_enter Tryz.func56,Tryz.ntmps56;go_wp2_with fail
 refine(HC.o).mono ?_;rintro r w1 ⟨rfl,Ah,A1⟩;have A9:=A0 Ah;have A5:=A0 A1;clear Ah A1;go_wp2;go_end0;exact⟨rfl,A9.o,A5.o⟩
theorem p9(K:EC):∀f:BT A6,(Wf 1 f->Cx (Kr K) f)/\(Wf 2 f->Cx (Pb K) f)/\(Wf 3 f->Cx (Pb K) f):=by
 intro f;induction f with
 | nil=>exact⟨fun _=>trivial,fun _=>trivial,fun _=>trivial⟩
 | node x y l c r Dm Cw=>
  obtain⟨i1,i2,i3⟩:=Dm;obtain⟨j1,j2,j3⟩:=Cw;refine⟨fun h=>⟨?_,j1 h.1⟩,fun h=>⟨fun hx=>i1 (h.La.2 hx).2,j2 h.1⟩,fun h=>⟨fun hx=>i1 (h.Ow.2 hx).2,j3 h.1⟩⟩;rcases h.2 with⟨h0,_⟩|⟨h0,_⟩|⟨h0,_⟩|⟨_,h1,h2⟩|⟨_,h1,h2⟩|⟨_,h1,h2⟩|⟨h0,_⟩
  ·omega
  ·omega
  ·omega
  ·exact Agq K l c h1 (i2 h2) h2
  ·exact Acy K l c h1 (i3 h2) h2
  ·unfold Oo at h1;simp only[Bool.or_eq_true,Bool.and_eq_true,decide_eq_true_eq,beq_iff_eq]at h1;have hc:l.kd=21\/l.kd=24\/l.kd=25\/l.kd=26\/l.kd=27\/l.kd=28\/l.kd=29\/l.kd=30:=by omega
   rcases hc with e|e|e|e|e|e|e|e
   ·exact Ai8 K l c e h2
   ·exact A65 K l c e h2
   ·exact Aey K l c e
   ·exact Ab6 K l c e
   ·exact Afd K l c e h2
   ·exact Agu K l c e h2
   ·exact Ae9 K l c e h2
   ·exact A75 K l c e h2
  ·omega
end
section
open Go.RowKit
open Go.Deep (BT)
variable {K:EC} {D:Nat->Prop} {w w':World} {e:Em} {ρ:Nat->Nat} {la:Option Addr} {ln lc:Nat} {pa:Option Addr} {pn pc:Nat} {bl:List LB}
theorem Hr.Pr{fs gs ls ps:Value}{slots:Nat}{st:List Ad}{wb te:Nat}{sa:Option Addr}{sn sc:Nat}(h:Hr (dX w.heap.size ρ) wb te w fs gs ls ps slots st sa sn sc)(hone:∀g,ρ g=1->g=wb):∀g,(Value.slice sa sn sc).ownBlock=some g->ρ g=4:=by
 intro g hg;have h1:=h.Cu g hg;have h2:=Bs h.own g hg;by_cases e1:ρ g=1
 ·exact absurd (hone g e1) h1.2
 ·by_cases e4:ρ g=4
  ·exact e4
  ·exact absurd ⟨h2,e1,e4⟩ h1.1
theorem EC.Sv.swap(h:K.Sv D w e ρ la ln lc pa pn pc bl){sa:Option Addr}{sn sc:Nat}(hv:Hr (dX w.heap.size ρ) K.wb K.te w (.slice K.fa K.fn K.fc) (.slice K.ga K.gn K.gc) (.slice la ln lc) (.slice pa pn pc) e.slots e.st sa sn sc)
  (D0:Nat->Prop) {ta:Option Addr} {tn tc:Nat} {st':List Ad} {slots':Nat} (hrow:w.ownsRow 0 251 8 (.slice ta tn tc) st'.length (Eh st')) (hT:∀g,(Value.slice ta tn tc).ownBlock=some g->ρ g=0) (hD0:∀g,D0 g->D g/\(Value.slice ta tn tc).ownBlock≠some g)
  (hfr:Ih D0 w K.fns K.fa K.fn K.fc) (hgr:Co D0 w 9 1 (.slice K.ga K.gn K.gc) K.gl.length (Da K.gl))
  (hcell:w'.heap[K.wb]?=some (.cells #[.slice K.fa K.fn K.fc,.slice K.ga K.gn K.gc,.slice la ln lc,.slice pa pn pc,.int .i64 (slots':Nat),.slice ta tn tc] K.te (0,0))) (y:Nat) (hy:(ρ y=0/\¬D0 y/\(Value.slice ta tn tc).ownBlock≠some y)\/w.heap.size<=y) (hk:∀g,g<w.heap.size->g≠K.wb->g≠y->w'.heap[g]?=w.heap[g]?) (hs:w.heap.size<=w'.heap.size) (ho:w'.os=w.os) (ht:w'.tape=w.tape) (hu:w'.output=w.output) :
  (∃ρ',K.Sv (fun g=>D0 g\/(Value.slice sa sn sc).ownBlock=some g) w' ⟨e.loc,slots',st',e.lps⟩ ρ' la ln lc pa pn pc bl/\∀g,w.heap.size<=g->ρ' g=4)/\A3 D0 w w':=by
 have hwb:=A4 hv.cell;have h4:=hv.Pr h.one.2;have hyn:∀g,g<w.heap.size->ρ g≠0->g≠y:=by
  intro g hg h1 e;subst e;rcases hy with hy|hy
  ·exact h1 hy.1
  ·omega
 have hbd0:A3 D0 w w':=⟨ho,ht,hu,hs,fun k hk'=>by
  have h1:=h.prot k (hD0 k hk').1;refine hk k h1.1 (fun e=>by have:=h1.2;rw[e,h.one.1]at this;cases this) (fun e=>?_);subst e;rcases hy with hy|hy
  ·exact hy.2.1 hk'
  ·omega⟩
 have hTy:∀g,(Value.slice ta tn tc).ownBlock=some g->g≠y:=by
  intro g hg e;subst e;rcases hy with hy|hy
  ·exact hy.2.2 hg
  ·have:=Bs hrow g hg;omega
 have hne:∀g,ρ g≠0->ρ g≠4->¬(Value.slice ta tn tc).ownBlock=some g/\¬(Value.slice sa sn sc).ownBlock=some g:=fun g h1 h2=>⟨fun e=>h1 (hT g e),fun e=>h2 (h4 g e)⟩;have hρ:∀g,g<w.heap.size->ρ g≠0->ρ g≠4->Eu (fun g=>if(Value.slice ta tn tc).ownBlock=some g then 4 else if(Value.slice sa sn sc).ownBlock=some g then 0 else ρ g) w.heap.size 4 g=ρ g:=by
  intro g hg h1 h2;rw[Bk hg,if_neg (hne g h1 h2).1,if_neg (hne g h1 h2).2]
 refine⟨⟨Eu (fun g=>if(Value.slice ta tn tc).ownBlock=some g then 4 else if(Value.slice sa sn sc).ownBlock=some g then 0 else ρ g) w.heap.size 4,⟨⟨ta,tn,tc,hcell,?_,?_,?_,fun g hg=>hg.1⟩,(hfr.keep hbd0).weak (fun g hg=>.inl hg),(hgr.Bn hbd0).weak (fun g hg=>.inl hg),?_,?_,?_,?_,?_,?_,⟨?_,?_⟩,h.Bq⟩,fun g hg=>Hw hg⟩,hbd0⟩
 ·exact B3 hrow (fun g hg hl=>hk g hl (fun e=>by have:=hT g hg;rw[e,h.one.1]at this;cases this) (hTy g hg))
 ·intro hd;apply hd.2.1;rw[hρ K.wb hwb (by rw[h.one.1];omega) (by rw[h.one.1];omega)];exact h.one.1
 ·intro g hg;refine⟨fun hd=>hd.2.2 ?_,fun e=>by have:=hT g hg;rw[e,h.one.1]at this;cases this⟩;rw[Bk (Bs hrow g hg),if_pos hg]
 ·exact B3 h.lr (fun g hg hl=>hk g hl (fun e=>by have:=h.lro g hg;rw[e,h.one.1]at this;omega) (hyn g hl (by rw[h.lro g hg];omega)))
 ·intro g hg;have:=h.lro g hg;rw[hρ g (Bs h.lr g hg) (by omega) (by omega)];exact this
 ·exact B3 h.pr (fun g hg hl=>hk g hl (fun e=>by have:=h.pro g hg;rw[e,h.one.1]at this;omega) (hyn g hl (by rw[h.pro g hg];omega)))
 ·intro g hg;have:=h.pro g hg;rw[hρ g (Bs h.pr g hg) (by omega) (by omega)];exact this
 ·exact h.lps.keep bl.length (fun g hl h5 _=>⟨hk g hl (fun e=>by rw[e,h.one.1]at h5;omega) (hyn g hl (by omega)),hρ g hl (by omega) (by omega)⟩) (Nat.le_refl _)
 ·intro g hg;rcases hg with hg|hg
  ·have h1:=hD0 g hg;have h2:=h.prot g h1.1;refine⟨Nat.lt_of_lt_of_le h2.1 hs,?_⟩;rw[Bk h2.1,if_neg h1.2,if_neg (fun e=>by have:=h4 g e;omega)];exact h2.2
  ·have h2:=Bs hv.own g hg;refine⟨Nat.lt_of_lt_of_le h2 hs,?_⟩;rw[Bk h2,if_neg (fun e=>by have:=hT g e;have:=h4 g hg;omega),if_pos hg]
 ·rw[hρ K.wb hwb (by rw[h.one.1];omega) (by rw[h.one.1];omega)];exact h.one.1
 ·intro g hg;by_cases hl:g<w.heap.size
  ·rw[Bk hl]at hg;split at hg
   ·cases hg
   ·split at hg
    ·cases hg
    ·exact h.one.2 g hg
  ·rw[Hw (by omega)]at hg;cases hg
theorem EC.Sv.more(h:K.Sv D w e ρ la ln lc pa pn pc bl){sa:Option Addr}{sn sc:Nat}(hv:Hr (dX w.heap.size ρ) K.wb K.te w (.slice K.fa K.fn K.fc) (.slice K.ga K.gn K.gc) (.slice la ln lc) (.slice pa pn pc) e.slots e.st sa sn sc)(X:Nat->Prop)
  (hX:∀g,X g->g<w.heap.size/\ρ g=4/\(Value.slice sa sn sc).ownBlock≠some g):∃ρ',K.Sv (fun g=>D g\/X g) w e ρ' la ln lc pa pn pc bl:=by
 classical
 have h4:=hv.Pr h.one.2;have hρ:∀g,ρ g≠4->(if X g then 0 else ρ g)=ρ g:=fun g hg=>if_neg (fun hx=>hg (hX g hx).2.1);refine⟨fun g=>if X g then 0 else ρ g,⟨sa,sn,sc,hv.cell,hv.own,?_,?_,fun g hg=>hg.1⟩,h.fr.weak (fun g hg=>.inl hg),h.gr.weak (fun g hg=>.inl hg),h.lr,?_,h.pr,?_,?_,?_,⟨?_,?_⟩,h.Bq⟩
 ·intro hd;apply hd.2.1;show(if X K.wb then 0 else ρ K.wb)=1;rw[hρ _ (by rw[h.one.1];omega)];exact h.one.1
 ·intro g hg;refine⟨fun hd=>hd.2.2 ?_,(hv.Cu g hg).2⟩;show(if X g then 0 else ρ g)=4;rw[if_neg (fun hx=>(hX g hx).2.2 hg)];exact h4 g hg
 ·intro g hg;have:=h.lro g hg;show(if X g then 0 else ρ g)=2;rw[hρ _ (by omega)];exact this
 ·intro g hg;have:=h.pro g hg;show(if X g then 0 else ρ g)=3;rw[hρ _ (by omega)];exact this
 ·exact h.lps.keep bl.length (fun g _ h5 _=>⟨rfl,by show(if X g then 0 else ρ g)=ρ g;by_cases h4':ρ g=4 <;> first|omega|exact hρ g h4'⟩) (Nat.le_refl _)
 ·intro g hg;show _/\(if X g then 0 else ρ g)=0;rcases hg with hg|hg
  ·have:=h.prot g hg;refine⟨this.1,?_⟩;rw[hρ _ (by omega)];exact this.2
  ·exact⟨(hX g hg).1,if_pos hg⟩
 ·show(if X K.wb then 0 else ρ K.wb)=1;rw[hρ _ (by rw[h.one.1];omega)];exact h.one.1
 ·intro g hg;have hg:(if X g then 0 else ρ g)=1:=hg;split at hg
  ·cases hg
  ·exact h.one.2 g hg
theorem EC.St.alloc{lbs:List Nat}(h:K.St lbs D w e)(o:Obj):K.St lbs D (w.alloc o) e:=by
 obtain⟨ρ,la,ln,lc,pa,pn,pc,bl,h,hlb⟩:=h;exact⟨_,_,_,_,_,_,_,_,h.alloc o 5 (Nat.le_refl _),hlb⟩
theorem Pd(w:World)(a:Addr)(v:Value):(w.setCell a v).os=w.os:=rfl
theorem Adj(w:World)(o:Obj):(w.alloc o).os=w.os:=rfl
theorem Aax(w:World):w.drew.os=w.os:=rfl
theorem Pk(w:World)(a:Addr)(v:Value):(w.setCell a v).tape=w.tape:=rfl
theorem Ald(w:World)(o:Obj):(w.alloc o).tape=w.tape:=rfl
theorem Ah0(w:World):w.drew.tape=w.tape:=rfl
theorem Pf(w:World)(a:Addr)(v:Value):(w.setCell a v).output=w.output:=rfl
theorem Ahe(w:World)(o:Obj):(w.alloc o).output=w.output:=rfl
theorem Adv(w:World):w.drew.output=w.output:=rfl
theorem Ue(w:World):w.drew.heap=w.heap:=rfl
theorem Aj5{D2:Nat->Prop}(h:K.Sv D2 w e ρ la ln lc pa pn pc []){sb:Option Addr}{sm sd:Nat}(hv:Hr (dX w.heap.size ρ) K.wb K.te w (.slice K.fa K.fn K.fc) (.slice K.ga K.gn K.gc) (.slice la ln lc) (.slice pa pn pc) e.slots e.st sb sm sd)(rb:Nat){slots:Nat}{st:List Ad}{sa:Option Addr}{sn sc:Nat}
  (hrow:w.ownsRow 0 251 8 (.slice sa sn sc) st.length (Eh st)) (hS2:∀g,(Value.slice sa sn sc).ownBlock=some g->D2 g) (hSD:∀g,(Value.slice sa sn sc).ownBlock=some g->¬D g) (Iy:∀g,D g->D2 g) (hrb:D2 rb) (hrbD:¬D rb) (hrbS:(Value.slice sa sn sc).ownBlock≠some rb)
  (hfr:Ih D w K.fns K.fa K.fn K.fc) (hgr:Co D w 9 1 (.slice K.ga K.gn K.gc) K.gl.length (Da K.gl)) (v0 v1 v2 v3:Value) (o:Obj) (W:World)
  (hW:W=(((((((w.setCell ⟨K.wb,4,none⟩ (.int .i64 (slots:Nat))).setCell ⟨K.wb,5,none⟩ (.slice sa sn sc)).setCell ⟨rb,0,none⟩ v0).setCell ⟨rb,1,none⟩ v1).setCell ⟨rb,2,none⟩ v2).setCell ⟨rb,3,none⟩ v3).alloc o).drew) :
  W.ownsRow 0 251 8 (.slice sb sm sd) e.st.length (Eh e.st)/\K.St [] (fun g=>D g\/(Value.slice sb sm sd).ownBlock=some g) W ⟨e.loc,slots,st,e.lps⟩/\A3 D w W:=by
 have hwb:=A4 hv.cell;have hrbw:rb≠K.wb:=fun e=>by have:=(h.prot rb hrb).2;rw[e,h.one.1]at this;cases this
 have hrl:=(h.prot rb hrb).1;have hsz:W.heap.size=w.heap.size+1:=by rw[hW,Ue];simp[World.setCell]
 have hk:∀g,g<w.heap.size->g≠K.wb->g≠rb->W.heap[g]?=w.heap[g]?:=by
  intro g hg h1 h2;rw[hW,Ue,Below.heap_alloc _ _ _ (by simp[World.setCell];exact hg),Below.heap_setCell _ _ _ _ (by exact h2),Below.heap_setCell _ _ _ _ (by exact h2),Below.heap_setCell _ _ _ _ (by exact h2),Below.heap_setCell _ _ _ _ (by exact h2),Below.heap_setCell _ _ _ _ (by exact h1),Below.heap_setCell _ _ _ _ (by exact h1)]
 have hcell:W.heap[K.wb]?=some (.cells #[.slice K.fa K.fn K.fc,.slice K.ga K.gn K.gc,.slice la ln lc,.slice pa pn pc,.int .i64 (slots:Nat),.slice sa sn sc] K.te (0,0)):=by
  rw[hW,Ue,Below.heap_alloc _ _ _ (by simp[World.setCell];exact hwb),Below.heap_setCell _ _ _ _ (by exact fun e=>hrbw e.symm),Below.heap_setCell _ _ _ _ (by exact fun e=>hrbw e.symm),Below.heap_setCell _ _ _ _ (by exact fun e=>hrbw e.symm),Below.heap_setCell _ _ _ _ (by exact fun e=>hrbw e.symm)];have:=heap_set (j:=5) (heap_set (j:=4) hv.cell (.int .i64 (slots:Nat))) (.slice sa sn sc);rw[this];simp
 obtain⟨⟨ρ9,h9,_⟩,Ct⟩:=h.swap hv D hrow (fun g hg=>(h.prot g (hS2 g hg)).2) (fun g hg=>⟨Iy g hg,fun e=>hSD g e hg⟩) hfr hgr hcell rb (.inl ⟨(h.prot rb hrb).2,hrbD,hrbS⟩) hk (by omega) (by simp only[hW,Aax,Adj,Pd]) (by simp only[hW,Ah0,Ald,Pk]) (by simp only[hW,Adv,Ahe,Pf]);have h4:=hv.Pr h.one.2;refine⟨B3 hv.own (fun g hg hl=>hk g hl (hv.Cu g hg).2 (fun e=>?_)),⟨_,_,_,_,_,_,_,_,h9,rfl⟩,Ct⟩;have h1:=h4 g hg;rw[e,(h.prot rb hrb).2]at h1;cases h1
end
section
set_option maxRecDepth 100000
open Go.RowKit
open Go.Deep (BT)
theorem Ake(K:EC)(l:A6)(c:BT A6)(hwf:Wf 1 c)(hlp:Lp c 0)(D:Nat->Prop)(w:World)(slots:Nat)(st:List Ad)(b:Nat)(pa:Option Addr)(pn pc:Nat)(va:Option Addr)(vn vc:Nat)(ks:List Value)
  (hst:K.St [] D w ⟨[],slots,st,[]⟩) (hD:D b) (hblk:w.heap[b]?=some (.cells #[.int .i64 (l.line:Nat),.string ⟨l.s.toArray⟩,.slice pa pn pc,.slice va vn vc] 218 (0,0)))
  (hprm:Co D w 148 2 (.slice pa pn pc) l.ps.length (Kj l.ps)) (hown:Co D w 142 1 (.slice va vn vc) ks.length ks) (hrep:Al D w c ks) (A1:l.ps.length+bsize c<=80000) :
  Calls Tryz.prog 53 #[.pointer (some ⟨K.wb,0,none⟩),.pointer (some ⟨b,0,none⟩)] w fun r w'=>∃sa sn sc,r=.returned (.agg #[.string ⟨l.s.toArray⟩,.int .i64 (l.ps.length:Nat),.int .i64 ((Md K.fns K.gl l c).slots:Nat),.slice sa sn sc])/\
   w'.ownsRow 0 251 8 (.slice sa sn sc) (Md K.fns K.gl l c).steps.length (Eh (Md K.fns K.gl l c).steps)/\(∀g,(Value.slice sa sn sc).ownBlock=some g->¬D g)/\K.St [] (fun g=>D g\/(Value.slice sa sn sc).ownBlock=some g) w' ⟨[],slots,st,[]⟩/\A3 D w w':=by
 obtain⟨hlw,lcb,hncb⟩:=hst.lo;have hpn:pn=l.ps.length:=(C8 hprm.1).1;subst hpn;obtain⟨ρ,la,ln,lc,qa,qn,qc,bl,h,hlb⟩:=hst;obtain⟨sa,sn,sc,hv⟩:=h.ew;obtain⟨c0,c1,c2,c3,c4,c5,fz,lb⟩:=Sj hv.cell;obtain⟨d0,d1,d2,d3,fd,ld⟩:=Dw hblk;have hwbb:K.wb≠b:=fun e=>hncb (by rw[e];exact hD);obtain⟨w0,Cq⟩:∃w0,w0=(((w.setCell ⟨K.wb,4,none⟩ (.int .i64 0)).setCell ⟨K.wb,5,none⟩ (.slice none 0 0)).alloc (.cells #[.string ⟨#[]⟩,.int .i64 0,.int .i64 0,.slice none 0 0] 103)).alloc (.cells #[.int .i64 (slots:Nat),.slice sa sn sc] 98):=⟨_,rfl⟩;have hk0:∀g,g<w.heap.size->g≠K.wb->w0.heap[g]?=w.heap[g]?:=by
  intro g hg hne;rw[Cq,Below.heap_alloc _ _ _ (by simp[World.setCell];omega),Below.heap_alloc _ _ _ (by simp[World.setCell];omega),Below.heap_setCell _ _ _ _ (by exact hne),Below.heap_setCell _ _ _ _ (by exact hne)]
 have hc0:w0.heap[K.wb]?=some (.cells #[.slice K.fa K.fn K.fc,.slice K.ga K.gn K.gc,.slice la ln lc,.slice qa qn qc,.int .i64 ((0:Nat):Int),.slice none 0 0] K.te (0,0)):=by
  rw[Cq,Below.heap_alloc _ _ _ (by simp[World.setCell];omega),Below.heap_alloc _ _ _ (by simp[World.setCell];omega)];have:=heap_set (j:=5) (heap_set (j:=4) hv.cell (.int .i64 0)) (.slice none 0 0);rw[this];simp
 have Fp:w0.heap.size=w.heap.size+2:=by rw[Cq];simp[World.setCell]
 have hR0:w0.heap[w.heap.size]?=some (.cells #[.string ⟨#[]⟩,.int .i64 0,.int .i64 0,.slice none 0 0] 103 (0,0)):=by
  rw[Cq,Below.heap_alloc _ _ _ (by simp[World.setCell])];have:=heap_alloc_new ((w.setCell ⟨K.wb,4,none⟩ (.int .i64 0)).setCell ⟨K.wb,5,none⟩ (.slice none 0 0)) (.cells #[.string ⟨#[]⟩,.int .i64 0,.int .i64 0,.slice none 0 0] 103);simpa [World.setCell]using this
 have hO0:w0.heap[w.heap.size+1]?=some (.cells #[.int .i64 (slots:Nat),.slice sa sn sc] 98 (0,0)):=by
  rw[Cq];have:=heap_alloc_new (((w.setCell ⟨K.wb,4,none⟩ (.int .i64 0)).setCell ⟨K.wb,5,none⟩ (.slice none 0 0)).alloc (.cells #[.string ⟨#[]⟩,.int .i64 0,.int .i64 0,.slice none 0 0] 103)) (.cells #[.int .i64 (slots:Nat),.slice sa sn sc] 98);simpa [World.setCell]using this
 obtain⟨⟨ρ1,h1,Bj⟩,hbd0⟩:=h.swap hv D (World.ownsRow_nil w 0 251 8) (st':=[]) (slots':=0) (fun g hg=>by simp[Value.ownBlock]at hg) (fun g hg=>⟨hg,by simp[Value.ownBlock]⟩) h.fr h.gr hc0 w.heap.size (.inr (Nat.le_refl _)) (fun g h1 h2 _=>hk0 g h1 h2) (by omega) (by rw[Cq];rfl) (by rw[Cq];rfl) (by rw[Cq];rfl);obtain⟨sa1,sn1,sc1,hv1⟩:=h1.ew;have hc0':=hv1.cell.symm.trans hc0;simp only[Option.some.injEq,Obj.cells.injEq,Array.mk.injEq,List.cons.injEq,Value.slice.injEq]at hc0';obtain⟨⟨_,_,_,_,_,⟨rfl,rfl,rfl⟩,_⟩,_⟩:=hc0';obtain⟨ρ2,h2⟩:=h1.more hv1 (fun g=>g=w.heap.size\/g=w.heap.size+1) (fun g hg=>⟨by omega,Bj g (by omega),by simp[Value.ownBlock]⟩);have hblE:bl=[]:=by cases bl with
  | nil=>rfl
  | cons x y=>simp at hlb
 subst hblE;have Av:Hid (K.St [] (fun g=>(D g\/(Value.slice sa sn sc).ownBlock=some g)\/(g=w.heap.size\/g=w.heap.size+1)) w0 ⟨[],0,[],[]⟩):=⟨_,_,_,_,_,_,_,_,h2,rfl⟩;have Ae:=A0 hbd0;have hSD:∀g,(Value.slice sa sn sc).ownBlock=some g->¬D g:=fun g hg hd=>(hv.Cu g hg).1 (h.dx g hd);have HSD:=A0 hSD;have HOwnS:Hid (w0.ownsRow 0 251 8 (.slice sa sn sc) st.length (Eh st)):=B3 hv.own (fun g hg hl=>hk0 g hl (hv.Cu g hg).2);have HOwnS0:=A0 hv.own;have HFr:=A0 h.fr;have HGr:=A0 h.gr;have HR0:=A0 hR0;have HO0:=A0 hO0;have HBlk:=A0 hblk;have HPrm:=A0 hprm;have HRun:=A0 (fun(W:World) (e2:Em) (hx:K.St [] (fun g=>(D g\/(Value.slice sa sn sc).ownBlock=some g)\/(g=w.heap.size\/g=w.heap.size+1)) W e2) (hbd:A3 D w W) (h1:e2.lps=[]) (h2:e2.st=[]) (h3:e2.loc.length<=l.ps.length)=>Xf K c ((p9 K c).1 hwf) [] _ W e2 va vn vc ks hx ((hown.Bn hbd).weak (fun g hg=>.inl (.inl hg))) (Al.keep (fun g hg _=>⟨rfl,.inl (.inl hg)⟩) _ _ (hrep.Bn hbd)) (by rw[h1];exact hlp) (fun x hx=>by rw[h1]at hx;cases hx) (by rw[h2];simp;omega) (by omega) (by rw[h1];simp;omega));have Aq:=A0 Cq;have hsw0:=Fp;have HD3:=A0 d3;clear hblk hprm hown hrep h hv h1 hv1 h2 Bj hk0 hc0 hR0 hO0 Fp Cq hSD hbd0 hlb;go_enter Tryz.func53,Tryz.ntmps53;go_wp2;rw[←Aq.o];clear Aq c0 c1 c2 c3 c4 c5 fz lb d0 d1 d2 d3 fd ld;go_loopg [22] l.ps.length (fun k v wr=>∃(i:Nat),v=.int .i64 i/\i+k=l.ps.length/\K.St [] (fun g=>(D g\/(Value.slice sa sn sc).ownBlock=some g)\/(g=w.heap.size\/g=w.heap.size+1)) wr ⟨(l.ps.take i).map Prod.snd,i,[],[]⟩/\A3 (fun g=>(D g\/(Value.slice sa sn sc).ownBlock=some g)\/(g=w.heap.size\/g=w.heap.size+1)) w0 wr)
 case atStart=>exact⟨0,rfl,by omega,Av.o,A3.refl _ _⟩
 case round=>
  clear Av;obtain⟨i,rfl,hik,hst,hbel⟩:=hrel;have HSt:=A0 hst;have HBel:=A0 hbel;have HBD:Hid (A3 D w wr):=Ae.o.trans (hbel.weak (fun g hg=>.inl (.inl hg)));clear hst hbel;by_cases hlt:i<l.ps.length
  ·obtain⟨g,rfl,hvn9,hcap,lg,hcell⟩:=Gj (HPrm.o.Bn HBD.o).1 (by omega);clear hvn9;have p0:=hcell (i*2) _ (T9 l.ps i hlt).1;have p1:=hcell (i*2+1) _ (T9 l.ps i hlt).2;have hnm:(⟨(l.ps.take i).map Prod.snd,i,[],[]⟩:Em).local' l.ps[i].2=⟨(l.ps.take (i+1)).map Prod.snd,i+1,[],[]⟩:=by
    unfold Em.local';simp only[List.take_succ_eq_append_getElem hlt,List.map_append,List.map_cons,List.map_nil,List.length_map,List.length_take];congr 1
    omega
   have HNm:=A0 hnm;have HLoc:=A0 (fun(o:Obj)=>Ws (HSt.o.alloc o) (by simp;omega) l.ps[i].2);have hlo9:=HSt.o.lo.1;clear hcell hnm;have HLo9:=A0 hlo9;clear hlo9;generalize l.ps[i]=prm at *;go_wp2_with fail
   refine(HLoc.o _).mono ?_;rintro r w7 ⟨rfl,G2,Ig⟩;rw[HNm.o]at G2;have HS7:=A0 G2;have HB7:=A0 (HBel.o.trans (((A3.refl _ wr).alloc HLo9.o _).trans Ig));clear G2 Ig;go_wp2;go_roundg (gk-1)
   case measure=>omega
   case rel=>exact⟨i+1,rfl,by omega,HS7.o,HB7.o⟩
  ·obtain rfl:i=l.ps.length:=by omega
   rw[List.take_length]at HSt;have hbk9:=(HBD.o.block b hD).trans HBlk.o;have d3:=A2 hbk9 3 _ rfl;have ld:=A4 hbk9;clear hbk9;go_wp2_with fail
   refine(HRun.o _ _ HSt.o HBD.o rfl rfl (by simp)).mono ?_;rintro r w1 ⟨rfl,Ah,A1⟩;have A9:=A0 Ah;have A5:=A0 (HBel.o.trans A1);have hln1:=(Nv K.fns K.gl c).1 ⟨l.ps.map Prod.snd,l.ps.length,[],[]⟩;simp only[List.length_nil,Nat.zero_add]at hln1;clear Ah A1 d3 ld;generalize Hs:em K.fns K.gl c 0 ⟨l.ps.map Prod.snd,l.ps.length,[],[]⟩=Bz at *;go_wp2_with fail
   refine(A9.o.step (by omega) 43 0 0).mono ?_;rintro r w2 ⟨rfl,Au,A8⟩;have Aa:=A0 (A5.o.trans A8);have hlb2:=Au.lo.2.1;obtain⟨ρ3,la3,ln3,lc3,pa3,pn3,pc3,bl3,h3,hlb3⟩:=Au;obtain⟨sa3,sn3,sc3,hv3⟩:=h3.ew;have HCut:=A0 (Uy (h3.L8 hv3) 0 (Nat.zero_le _) (by simp));have HTo:=A0 (fun(w9:World) hp=>h3.Z2 0 hv3 (w':=w9) hp);rw[hlb3]at HTo;clear h3 hv3 A8;go_wp2_with fail
   refine HCut.o.mono ?_;rintro r w3 ⟨rfl,hp⟩;obtain⟨k1,k2⟩:=HTo.o w3 hp;have At:=A0 (Aa.o.trans k2);obtain⟨ρ4,la4,ln4,lc4,pa4,pn4,pc4,bl4,h4,hlb4⟩:=k1;obtain⟨sa4,sn4,sc4,hv4⟩:=h4.ew;have hbl4:bl4=[]:=by cases bl4 with
    | nil=>rfl
    | cons x y=>simp at hlb4
   subst hbl4;obtain⟨c0,c1,c2,c3,c4,c5,fz,lb⟩:=Sj hv4.cell;have HBD3:Hid (A3 D w w3):=Ae.o.trans (At.o.weak (fun g hg=>.inl (.inl hg)));have Eg:=(HBD3.o.block b hD).trans HBlk.o;obtain⟨d0,d1,d2,d3,fd,ld⟩:=Dw Eg;have hO3:=(At.o.block (w.heap.size+1) (.inr (.inr rfl))).trans HO0.o;have o0:=A2 hO3 0 _ rfl;have o1:=A2 hO3 1 _ rfl;have lo:=A4 hO3;have I3:=(At.o.block w.heap.size (.inr (.inl rfl))).trans HR0.o;obtain⟨r0,r1,r2,r3,fr,lr⟩:=Dw I3;have hle4:((Bz.step 43 0 0).cut 0).lps=[]:=by have:=h4.lps.len;exact List.length_eq_zero_iff.1 this.symm
   have hend:=fun v0 v1 v2 v3 o W=>Aj5 (D:=D) (slots:=slots) h4 hv4 w.heap.size (B3 HOwnS.o (fun g hg _=>At.o.block g (.inl (.inr hg)))) (fun g hg=>.inl (.inr hg)) HSD.o (fun g hg=>.inl (.inl hg)) (.inr (.inl rfl)) (fun hd=>by have:=hlw _ hd;omega) (fun e=>by have:=Bs HOwnS0.o _ e;omega) (HFr.o.keep HBD3.o) (HGr.o.Bn HBD3.o) v0 v1 v2 v3 o W;have hemF:Md K.fns K.gl l c=⟨l.s,l.ps.length,((Bz.step 43 0 0).cut 0).slots,((Bz.step 43 0 0).cut 0).st⟩:=by unfold Md;rw[Hs];rfl
   rw[hle4,show((Bz.step 43 0 0).cut 0).loc=[] from rfl]at hend;have HEnd:=A0 hend;have HSn:Hid (∀g,(Value.slice sa4 sn4 sc4).ownBlock=some g->¬D g):=fun g hg hd=>(hv4.Cu g hg).1 (h4.dx g (.inl (.inl hd)));have HEmF:=A0 hemF;clear hp k2 hend hle4 hemF HCut HTo Eg hO3 I3 h4 hv4 hlb4;go_wp2;go_region
   all_goals go_wp2
   all_goals
    refine bodyPost_ret (v:=.agg #[.string ⟨l.s.toArray⟩,.int .i64 (l.ps.length:Nat),.int .i64 (((Bz.step 43 0 0).cut 0).slots:Nat),.slice sa4 sn4 sc4]) (by simp[results,Tryz.results53,go_sem,lr,r0,r1,r2,r3]) rfl ?_;rw[HEmF.o];obtain⟨q1,q2,q3⟩:=HEnd.o _ _ _ _ _ _ rfl;exact⟨sa4,sn4,sc4,rfl,q1,HSn.o,q2,HBD3.o.trans q3⟩
end
section
open Go.RowKit
open Go.Deep (BT)
variable {K:EC} {D:Nat->Prop} {w w':World} {e:Em} {ρ:Nat->Nat} {la:Option Addr} {ln lc:Nat} {pa:Option Addr} {pn pc:Nat} {bl:List LB}
theorem Ah8:(Tryz.prog.info? 103).map (fun i=>(i.zero,i.size,i.bytes))=some (some (.agg #[.string ⟨#[]⟩,.int .i64 0,.int .i64 0,.slice none 0 0]),4,56):=by kernel_rfl
def Ll(D:Nat->Prop)(w:World):List Fn->List Value->Prop
 | [],cs=>cs=[]
 | f::r,cs=>∃sa sn sc rest,cs=Kw f.name::.int .i64 (f.params:Nat)::.int .i64 (f.slots:Nat)::.slice sa sn sc::rest/\Co D w 251 8 (.slice sa sn sc) f.steps.length (Eh f.steps)/\Ll D w r rest
theorem Ll.keep{D':Nat->Prop}(hk:∀g,D g->g<w.heap.size->w'.heap[g]?=w.heap[g]?/\D' g):∀{fs:List Fn} {cs:List Value},Ll D w fs cs->Ll D' w' fs cs:=by
 intro fs;induction fs with
 | nil=>intro cs h;exact h
 | cons f r ih=>
  intro cs h;obtain⟨sa,sn,sc,rest,e1,h1,h2⟩:=h;exact⟨sa,sn,sc,rest,e1,h1.keep hk,ih h2⟩
theorem Ll.app:∀{fs:List Fn} {cs:List Value},Ll D w fs cs->∀{f:Fn} {sa:Option Addr} {sn sc:Nat},Co D w 251 8 (.slice sa sn sc) f.steps.length (Eh f.steps)->Ll D w (fs++[f]) (cs++[Kw f.name,.int .i64 (f.params:Nat),.int .i64 (f.slots:Nat),.slice sa sn sc]):=by
 intro fs;induction fs with
 | nil=>intro cs h f sa sn sc ho;rw[Ll]at h;subst h;exact⟨sa,sn,sc,[],rfl,ho,rfl⟩
 | cons g r ih=>
  intro cs h f sa sn sc ho;obtain⟨ta,tn,tc,rest,rfl,h1,h2⟩:=h;exact⟨ta,tn,tc,rest++_,rfl,h1,ih h2 ho⟩
theorem EC.Sv.zero(h:K.Sv D w e ρ la ln lc pa pn pc bl)(D':Nat->Prop)(hD':∀g,D' g->D g\/(w.heap.size<=g/\g<w'.heap.size))(hk:∀g,g<w.heap.size->¬D g->w'.heap[g]?=w.heap[g]?)(hs:w.heap.size<=w'.heap.size)
  (hfr:Ih D' w' K.fns K.fa K.fn K.fc) (hgr:Co D' w' 9 1 (.slice K.ga K.gn K.gc) K.gl.length (Da K.gl)):K.Sv D' w' e (Eu ρ w.heap.size 0) la ln lc pa pn pc bl:=by
 obtain⟨sa,sn,sc,hv⟩:=h.ew;have hwb:=A4 hv.cell;have h4:=hv.Pr h.one.2;have hz:∀g,g<w.heap.size->ρ g≠0->w'.heap[g]?=w.heap[g]?:=fun g hg h0=>hk g hg (fun hd=>h0 (h.prot g hd).2);refine⟨⟨sa,sn,sc,(hz _ hwb (by rw[h.one.1];omega)).trans hv.cell,B3 hv.own (fun g hg hl=>hz g hl (by rw[h4 g hg];omega)),fun hd=>hd.2.1 (by rw[Bk hwb];exact h.one.1),fun g hg=>⟨fun hd=>hd.2.2 (by rw[Bk (Bs hv.own g hg)];exact h4 g hg),(hv.Cu g hg).2⟩,fun g hg=>hg.1⟩,hfr,hgr,B3 h.lr (fun g hg hl=>hz g hl (by rw[h.lro g hg];omega)),fun g hg=>by rw[Bk (Bs h.lr g hg)];exact h.lro g hg,
  B3 h.pr (fun g hg hl=>hz g hl (by rw[h.pro g hg];omega)),fun g hg=>by rw[Bk (Bs h.pr g hg)];exact h.pro g hg,h.lps.keep bl.length (fun g hl h5 _=>⟨hz g hl (by omega),Bk hl⟩) (Nat.le_refl _),?_,O1 h.one hwb (by omega),h.Bq⟩
 intro g hg;rcases hD' g hg with h1|h1
 ·have:=h.prot g h1;exact⟨Nat.lt_of_lt_of_le this.1 hs,by rw[Bk this.1];exact this.2⟩
 ·exact⟨h1.2,Hw h1.1⟩
theorem Nb.drop:∀(i:Nat) (c:BT A6),Nb c->Nb (C3 i c):=by
 intro i;induction i with
 | zero=>intro c h;rw[show C3 0 c=c from by cases c <;> rfl];exact h
 | succ i ih=>
  intro c h;cases c with
  | nil=>exact h
  | node x y l c r=>exact ih r h.2
def EC.Xc(K:EC)(s:Nm)(ga:Option Addr)(gn gc:Nat):EC:=⟨K.wb,K.te,K.fns,K.fa,K.fn,K.fc,K.gl++[s],ga,gn,gc⟩
theorem EC.Sv.Z4(h:K.Sv D w e ρ la ln lc pa pn pc bl)(D':Nat->Prop)(s:Nm)(ga:Option Addr)(gn gc:Nat)(hD':∀g,D' g->D g\/(w.heap.size<=g/\g<w'.heap.size)){sa:Option Addr}{sn sc:Nat}(hv:Hr (dX w.heap.size ρ) K.wb K.te w (.slice K.fa K.fn K.fc) (.slice K.ga K.gn K.gc) (.slice la ln lc) (.slice pa pn pc) e.slots e.st sa sn sc)
  (hcell:w'.heap[K.wb]?=some (.cells #[.slice K.fa K.fn K.fc,.slice ga gn gc,.slice la ln lc,.slice pa pn pc,.int .i64 (e.slots:Nat),.slice sa sn sc] K.te (0,0))) (hk:∀g,g<w.heap.size->g≠K.wb->¬D g->w'.heap[g]?=w.heap[g]?) (hs:w.heap.size<=w'.heap.size)
  (hfr:Ih D' w' K.fns K.fa K.fn K.fc) (hgr:Co D' w' 9 1 (.slice ga gn gc) (K.gl++[s]).length (Da (K.gl++[s]))) (hn:K.gl.length+1<=100000):(K.Xc s ga gn gc).Sv D' w' e (Eu ρ w.heap.size 0) la ln lc pa pn pc bl:=by
 have hwb:=A4 hv.cell;have h4:=hv.Pr h.one.2;have hz:∀g,g<w.heap.size->ρ g≠0->ρ g≠1->w'.heap[g]?=w.heap[g]?:=fun g hg h0 h1=>hk g hg (fun e=>h1 (by rw[e];exact h.one.1)) (fun hd=>h0 (h.prot g hd).2);refine⟨⟨sa,sn,sc,hcell,B3 hv.own (fun g hg hl=>hz g hl (by rw[h4 g hg];omega) (by rw[h4 g hg];omega)),fun hd=>hd.2.1 (by show Eu ρ w.heap.size 0 K.wb=1;rw[Bk hwb];exact h.one.1),fun g hg=>⟨fun hd=>hd.2.2 (by rw[Bk (Bs hv.own g hg)];exact h4 g hg),(hv.Cu g hg).2⟩,fun g hg=>hg.1⟩,hfr,hgr,B3 h.lr (fun g hg hl=>hz g hl (by rw[h.lro g hg];omega) (by rw[h.lro g hg];omega)),fun g hg=>by rw[Bk (Bs h.lr g hg)];exact h.lro g hg,
  B3 h.pr (fun g hg hl=>hz g hl (by rw[h.pro g hg];omega) (by rw[h.pro g hg];omega)),fun g hg=>by rw[Bk (Bs h.pr g hg)];exact h.pro g hg,h.lps.keep bl.length (fun g hl h5 _=>⟨hz g hl (by omega) (by omega),Bk hl⟩) (Nat.le_refl _),?_,O1 (K:=K) h.one hwb (by omega),⟨h.Bq.1,by show(K.gl++[s]).length<=_;simp;omega⟩⟩
 intro g hg;rcases hD' g hg with h1|h1
 ·have:=h.prot g h1;exact⟨Nat.lt_of_lt_of_le this.1 hs,by rw[Bk this.1];exact this.2⟩
 ·exact⟨h1.2,Hw h1.1⟩
theorem EC.Sv.start(hfr:Ih D w K.fns K.fa K.fn K.fc)(hg:K.gl=[]/\K.ga=none/\K.gn=0/\K.gc=0)(hc:w.heap[K.wb]?=some (.cells #[.slice K.fa K.fn K.fc,.slice none 0 0,.slice none 0 0,.slice none 0 0,.int .i64 ((0:Nat):Int),.slice none 0 0] K.te (0,0)))(hD:∀g,D g->g<w.heap.size/\g≠K.wb) :
  K.St [] D w ⟨[],0,[],[]⟩:=by
 refine⟨fun g=>if g=K.wb then 1 else 0,none,0,0,none,0,0,[],⟨⟨none,0,0,?_,World.ownsRow_nil _ _ _ _,fun hd=>hd.2.1 (if_pos rfl),fun g hg=>by simp[Value.ownBlock]at hg,fun g hg=>hg.1⟩,hfr,?_,World.ownsRow_nil _ _ _ _,fun g hg=>by simp[Value.ownBlock]at hg,World.ownsRow_nil _ _ _ _,fun g hg=>by simp[Value.ownBlock]at hg,trivial,fun g hg=>⟨(hD g hg).1,if_neg (hD g hg).2⟩,⟨if_pos rfl,fun g hg=>?_⟩,?_⟩,rfl⟩
 ·rw[hc,hg.2.1,hg.2.2.1,hg.2.2.2]
 ·rw[hg.1,hg.2.1,hg.2.2.1,hg.2.2.2];exact O8 _ _ _ _
 ·have hg':(if g=K.wb then 1 else 0)=1:=hg;split at hg'
  ·assumption
  ·cases hg'
 ·rw[hg.1];exact⟨Nat.zero_le _,Nat.zero_le _⟩
end
section
open Go.RowKit
open Go.Deep (BT)
def eK(n:Nat)(σ:Nat->Nat):Nat->Prop:=fun g=>g<n/\σ g<5
theorem A3h{σ:Nat->Nat}{n n':Nat}(h:n<=n'):eK n' (Eu σ n 9)=eK n σ:=by
 funext g
 apply propext;unfold eK;by_cases hg:g<n
 ·rw[Bk hg];exact⟨fun⟨_,h1⟩=>⟨hg,h1⟩,fun⟨_,h1⟩=>⟨by omega,h1⟩⟩
 ·rw[Hw (by omega)];exact⟨fun⟨_,h1⟩=>by omega,fun⟨h1,_⟩=>absurd h1 hg⟩
structure Le (D : Nat -> Prop) (pb : Nat) (K : EC) (w : World) (e : Em) (σ : Nat -> Nat) (fs : List Fn) (ms : List Value) (ha : Option Addr) (hn hc : Nat) : Prop where
 st:K.St [] (eK w.heap.size σ) w e
 fr:Ih D w K.fns K.fa K.fn K.fc
 dz:∀g,D g->g<w.heap.size/\σ g=0
 gr:w.ownsRow 0 9 1 (.slice K.ga K.gn K.gc) K.gl.length (Da K.gl)
 gro:∀g,(Value.slice K.ga K.gn K.gc).ownBlock=some g->σ g=3
 pbc:w.heap[pb]?=some (.cells #[.int .i64 0,.int .i64 0,.slice none 0 0,.slice ha hn hc] 101 (0,0))
 pbo:σ pb=1
 hr:w.ownsRow 0 103 4 (.slice ha hn hc) fs.length ms
 hro:∀g,(Value.slice ha hn hc).ownBlock=some g->σ g=2
 fns:Ll (fun g=>σ g=4) w fs ms
variable {D:Nat->Prop} {pb:Nat} {K:EC} {w w':World} {e e':Em} {σ:Nat->Nat} {fs:List Fn} {ms:List Value} {ha:Option Addr} {hn hc:Nat}
theorem Le.next(h:Le D pb K w e σ fs ms ha hn hc)(hs:K.St [] (eK w.heap.size σ) w' e')(hb:A3 (eK w.heap.size σ) w w'):Le D pb K w' e' (Eu σ w.heap.size 9) fs ms ha hn hc:=by
 have hbd:A3 D w w':=hb.weak (fun g hg=>⟨(h.dz g hg).1,by rw[(h.dz g hg).2];omega⟩);have hk:∀g,g<w.heap.size->σ g<5->w'.heap[g]?=w.heap[g]?:=fun g h1 h2=>hb.block g ⟨h1,h2⟩;have lp:=A4 h.pbc;refine⟨by rw[A3h hb.size];exact hs,h.fr.keep hbd,fun g hg=>⟨Nat.lt_of_lt_of_le (h.dz g hg).1 hb.size,by rw[Bk (h.dz g hg).1];exact(h.dz g hg).2⟩,B3 h.gr (fun g hg hl=>hk g hl (by rw[h.gro g hg];omega)),fun g hg=>by rw[Bk (Bs h.gr g hg)];exact h.gro g hg,(hk pb lp (by rw[h.pbo];omega)).trans h.pbc,by rw[Bk lp];exact h.pbo,B3 h.hr (fun g hg hl=>hk g hl (by rw[h.hro g hg];omega)),fun g hg=>by rw[Bk (Bs h.hr g hg)];exact h.hro g hg,h.fns.keep (fun g hg hl=>⟨hk g hl (by rw[hg];omega),?_⟩)⟩;show Eu σ w.heap.size 9 g=4;rw[Bk hl];exact hg
theorem Le.func(h:Le D pb K w e σ fs ms ha hn hc){w1 w2:World}{f:Fn}{sa:Option Addr}{sn sc:Nat}(hs:K.St [] (fun g=>eK w.heap.size σ g\/(Value.slice sa sn sc).ownBlock=some g) w1 e)(hb:A3 (eK w.heap.size σ) w w1)
  (hrow:w1.ownsRow 0 251 8 (.slice sa sn sc) f.steps.length (Eh f.steps)) (hne:∀g,(Value.slice sa sn sc).ownBlock=some g->¬eK w.heap.size σ g) {g cap:Nat}
  (hown:w2.ownsRow 0 103 4 (.slice (some ⟨g,0,none⟩) (fs.length+1) cap) (fs.length+1) (ms++[Kw f.name,.int .i64 (f.params:Nat),.int .i64 (f.slots:Nat),.slice sa sn sc])) (hgr:w1.grownBy w2 (Value.slice ha hn hc).ownBlock) (hat:(Value.slice ha hn hc).ownBlock=some g\/w1.heap.size<=g) :
  (∃σ',Le D pb K (w2.setCell ⟨pb,3,none⟩ (.slice (some ⟨g,0,none⟩) (fs.length+1) cap)) e σ' (fs++[f]) (ms++[Kw f.name,.int .i64 (f.params:Nat),.int .i64 (f.slots:Nat),.slice sa sn sc]) (some ⟨g,0,none⟩) (fs.length+1) cap)/\A3 D w (w2.setCell ⟨pb,3,none⟩ (.slice (some ⟨g,0,none⟩) (fs.length+1) cap)):=by
 classical
 have lp:=A4 h.pbc;have lp1:pb<w1.heap.size:=Nat.lt_of_lt_of_le lp hb.size;have hk1:∀k,k<w.heap.size->σ k<5->w1.heap[k]?=w.heap[k]?:=fun k h1 h2=>hb.block k ⟨h1,h2⟩;have hgl:g<w2.heap.size:=Bs hown g rfl;have hgpb:g≠pb:=by
  rcases hat with h1|h1
  ·intro e1;have:=h.hro g h1;rw[e1,h.pbo]at this;omega
  ·omega
 have hS:∀k,(Value.slice sa sn sc).ownBlock=some k->k<w1.heap.size:=fun k hk=>Bs hrow k hk;have hk3:∀k,k<w1.heap.size->k≠pb->(Value.slice ha hn hc).ownBlock≠some k->(w2.setCell ⟨pb,3,none⟩ (.slice (some ⟨g,0,none⟩) (fs.length+1) cap)).heap[k]?=w1.heap[k]?:=fun k h1 h2 h3=>(Below.heap_setCell _ _ _ _ (by exact h2)).trans (hgr.block k h1 (fun e=>h3 e.symm));obtain⟨σ',hσ⟩:∃σ':Nat->Nat,σ'=fun k=>if k=g then 2 else if(Value.slice sa sn sc).ownBlock=some k then 4 else if k<w.heap.size then σ k else 9:=⟨_,rfl⟩;have hgE:∀k,k<w.heap.size->σ k<5->σ k≠2->σ' k=σ k:=by
  intro k hk h5 h2;rw[hσ];show(if k=g then 2 else _)=σ k;rw[if_neg (fun e=>by rcases hat with h1|h1;exact h2 (by rw[e];exact h.hro g h1);have:=hb.size;omega),if_neg (fun e=>hne k e ⟨hk,h5⟩),if_pos hk]
 have Gn:σ' g=2:=by rw[hσ];exact if_pos rfl
 have hgS:∀k,(Value.slice sa sn sc).ownBlock=some k->k≠g:=by
  intro k hk e1;subst e1;rcases hat with h1|h1
  ·exact hne k hk ⟨Bs h.hr k h1,by rw[h.hro k h1];omega⟩
  ·have:=hS k hk;omega
 have hS4:∀k,(Value.slice sa sn sc).ownBlock=some k->σ' k=4:=by
  intro k hk;rw[hσ];show(if k=g then 2 else _)=4;rw[if_neg (hgS k hk),if_pos hk]
 have hpb1:σ' pb=1:=(hgE pb lp (by rw[h.pbo];omega) (by rw[h.pbo];omega)).trans h.pbo;have hsz:=hgr.size;have hW:(w2.setCell ⟨pb,3,none⟩ (.slice (some ⟨g,0,none⟩) (fs.length+1) cap)).heap.size=w2.heap.size:=by simp[World.setCell]
 have hkeep:∀k,k<w.heap.size->σ k<5->σ k≠1->σ k≠2->(w2.setCell ⟨pb,3,none⟩ (.slice (some ⟨g,0,none⟩) (fs.length+1) cap)).heap[k]?=w.heap[k]?:=fun k h1 h5 h2 h3=>(hk3 k (Nat.lt_of_lt_of_le h1 hb.size) (fun e=>h2 (by rw[e];exact h.pbo)) (fun e=>h3 (h.hro k e))).trans (hk1 k h1 h5);have hbd:A3 D w (w2.setCell ⟨pb,3,none⟩ (.slice (some ⟨g,0,none⟩) (fs.length+1) cap)):=⟨hgr.os.trans hb.os,hgr.tape.trans hb.tape,hgr.output.trans hb.output,by rw[hW];have:=hb.size;omega,fun k hk=>hkeep k (h.dz k hk).1 (by rw[(h.dz k hk).2];omega) (by rw[(h.dz k hk).2];omega) (by rw[(h.dz k hk).2];omega)⟩;have hdz:∀k,D k->k<(w2.setCell ⟨pb,3,none⟩ (.slice (some ⟨g,0,none⟩) (fs.length+1) cap)).heap.size/\σ' k=0:=fun k hk=>⟨by rw[hW];have:=(h.dz k hk).1;have:=hb.size;omega,(hgE k (h.dz k hk).1 (by rw[(h.dz k hk).2];omega) (by rw[(h.dz k hk).2];omega)).trans (h.dz k hk).2⟩;have hgr3:(w2.setCell ⟨pb,3,none⟩ (.slice (some ⟨g,0,none⟩) (fs.length+1) cap)).ownsRow 0 9 1 (.slice K.ga K.gn K.gc) K.gl.length (Da K.gl):=B3 h.gr (fun k hk hl=>hkeep k hl (by rw[h.gro k hk];omega) (by rw[h.gro k hk];omega) (by rw[h.gro k hk];omega));have hgro:∀k,(Value.slice K.ga K.gn K.gc).ownBlock=some k->σ' k=3:=fun k hk=>(hgE k (Bs h.gr k hk) (by rw[h.gro k hk];omega) (by rw[h.gro k hk];omega)).trans (h.gro k hk);refine⟨⟨σ',?_,h.fr.keep hbd,hdz,hgr3,hgro,?_,hpb1,?_,?_,?_⟩,hbd⟩
 ·obtain⟨ρ,la,ln,lc,pa,pn,pc,bl,hv,hlb⟩:=hs;refine⟨_,_,_,_,_,_,_,_,hv.zero _ ?_ ?_ (by rw[hW];exact hsz) ((h.fr.keep hbd).weak (fun k hk=>⟨(hdz k hk).1,by rw[(hdz k hk).2];omega⟩)) ⟨hgr3,fun k hk=>⟨Bs hgr3 k hk,by rw[hgro k hk];omega⟩⟩,hlb⟩
  ·intro k hk;obtain⟨k1,k2⟩:=hk;by_cases hl:k<w1.heap.size
   ·left;rw[hσ]at k2;replace k2:(if k=g then 2 else if(Value.slice sa sn sc).ownBlock=some k then 4 else if k<w.heap.size then σ k else 9)<5:=k2;split at k2
    ·rename_i e1;rcases hat with h1|h1
     ·exact .inl ⟨by rw[e1];exact Bs h.hr g h1,by rw[e1,h.hro g h1];omega⟩
     ·omega
    ·split at k2
     ·exact .inr (by assumption)
     ·split at k2
      ·exact .inl ⟨by assumption,k2⟩
      ·omega
   ·exact .inr ⟨by omega,k1⟩
  ·intro k hk hn;refine hk3 k hk (fun e1=>hn (.inl ⟨by rw[e1];exact lp,by rw[e1,h.pbo];omega⟩)) (fun e1=>hn (.inl ⟨Bs h.hr k e1,by rw[h.hro k e1];omega⟩))
 ·have h1:w2.heap[pb]?=w1.heap[pb]?:=hgr.block pb lp1 (fun e=>by have:=h.hro pb e.symm;rw[h.pbo]at this;omega);rw[heap_set ((h1.trans (hk1 pb lp (by rw[h.pbo];omega))).trans h.pbc)];simp
 ·rw[List.length_append];exact Sp hown _ _ (by simp only[Value.ownBlock,ne_eq,Option.some.injEq];exact hgpb)
 ·intro k hk;simp only[Value.ownBlock,Option.some.injEq]at hk;rw[←hk];exact Gn
 ·refine Ll.app (h.fns.keep (fun k hk hl=>⟨hkeep k hl (by rw[hk];omega) (by rw[hk];omega) (by rw[hk];omega),?_⟩)) ⟨?_,fun k hk=>hS4 k hk⟩
  ·exact(hgE k hl (by rw[hk];omega) (by rw[hk];omega)).trans hk
  ·exact B3 hrow (fun k hk hl=>hk3 k hl (fun e1=>hne k hk ⟨by rw[e1];exact lp,by rw[e1,h.pbo];omega⟩) (fun e1=>hne k hk ⟨Bs h.hr k e1,by rw[h.hro k e1];omega⟩))
theorem Le.Afi(h:Le D pb K w e σ fs ms ha hn hc){w2:World}(s:Nm){g cap:Nat}(Dh:K.gl.length+1<=100000)
  (hown:w2.ownsRow 0 9 1 (.slice (some ⟨g,0,none⟩) (K.gl.length+1) cap) (K.gl.length+1) (Da K.gl++[N1 s])) (hgr:w.grownBy w2 (Value.slice K.ga K.gn K.gc).ownBlock) (hat:(Value.slice K.ga K.gn K.gc).ownBlock=some g\/w.heap.size<=g) :
  (∃σ',Le D pb (K.Xc s (some ⟨g,0,none⟩) (K.gl.length+1) cap) (w2.setCell ⟨K.wb,1,none⟩ (.slice (some ⟨g,0,none⟩) (K.gl.length+1) cap)) e σ' fs ms ha hn hc)/\A3 D w (w2.setCell ⟨K.wb,1,none⟩ (.slice (some ⟨g,0,none⟩) (K.gl.length+1) cap)):=by
 have lp:=A4 h.pbc;have hlo:=h.st.lo;have hwbE:¬eK w.heap.size σ K.wb:=hlo.2.2;have hgl:g<w2.heap.size:=Bs hown g rfl;have hgw:g≠K.wb:=by
  rcases hat with h1|h1
  ·intro e1;exact hwbE ⟨hlo.2.1,by rw[←e1,h.gro g h1];omega⟩
  ·have:=hlo.2.1;omega
 obtain⟨σ',hσ⟩:∃σ':Nat->Nat,σ'=fun k=>if k=g then 3 else if k<w.heap.size then σ k else 9:=⟨_,rfl⟩;have hgE:∀k,k<w.heap.size->σ k≠3->σ' k=σ k:=by
  intro k hk h2;rw[hσ];show(if k=g then 3 else _)=σ k;rw[if_neg (fun e=>by rcases hat with h1|h1;exact h2 (by rw[e];exact h.gro g h1);omega),if_pos hk]
 have hg3:σ' g=3:=by rw[hσ];exact if_pos rfl
 have hsz:=hgr.size;have hW:(w2.setCell ⟨K.wb,1,none⟩ (.slice (some ⟨g,0,none⟩) (K.gl.length+1) cap)).heap.size=w2.heap.size:=by simp[World.setCell]
 have hk3:∀k,k<w.heap.size->k≠K.wb->(Value.slice K.ga K.gn K.gc).ownBlock≠some k->(w2.setCell ⟨K.wb,1,none⟩ (.slice (some ⟨g,0,none⟩) (K.gl.length+1) cap)).heap[k]?=w.heap[k]?:=fun k h1 h2 h3=>(Below.heap_setCell _ _ _ _ (by exact h2)).trans (hgr.block k h1 (fun e=>h3 e.symm));have hkeep:∀k,k<w.heap.size->σ k<5->σ k≠3->(w2.setCell ⟨K.wb,1,none⟩ (.slice (some ⟨g,0,none⟩) (K.gl.length+1) cap)).heap[k]?=w.heap[k]?:=fun k h1 h5 h2=>hk3 k h1 (fun e=>hwbE ⟨hlo.2.1,by rw[←e];exact h5⟩) (fun e=>h2 (h.gro k e));have hbd:A3 D w (w2.setCell ⟨K.wb,1,none⟩ (.slice (some ⟨g,0,none⟩) (K.gl.length+1) cap)):=⟨hgr.os,hgr.tape,hgr.output,by rw[hW];exact hsz,fun k hk=>hkeep k (h.dz k hk).1 (by rw[(h.dz k hk).2];omega) (by rw[(h.dz k hk).2];omega)⟩;have hdz:∀k,D k->k<(w2.setCell ⟨K.wb,1,none⟩ (.slice (some ⟨g,0,none⟩) (K.gl.length+1) cap)).heap.size/\σ' k=0:=fun k hk=>⟨by rw[hW];have:=(h.dz k hk).1;omega,(hgE k (h.dz k hk).1 (by rw[(h.dz k hk).2];omega)).trans (h.dz k hk).2⟩;have hnm:Da (K.gl++[s])=Da K.gl++[N1 s]:=by simp[Da]
 have hgr3:(w2.setCell ⟨K.wb,1,none⟩ (.slice (some ⟨g,0,none⟩) (K.gl.length+1) cap)).ownsRow 0 9 1 (.slice (some ⟨g,0,none⟩) (K.gl.length+1) cap) (K.gl++[s]).length (Da (K.gl++[s])):=by
  rw[hnm,List.length_append];exact Sp hown _ _ (by simp only[Value.ownBlock,ne_eq,Option.some.injEq];exact hgw)
 have hgro:∀k,(Value.slice (some ⟨g,0,none⟩) (K.gl.length+1) cap).ownBlock=some k->σ' k=3:=by
  intro k hk;simp only[Value.ownBlock,Option.some.injEq]at hk;rw[←hk];exact hg3
 refine⟨⟨σ',?_,h.fr.keep hbd,hdz,hgr3,hgro,?_,?_,?_,?_,?_⟩,hbd⟩
 ·obtain⟨ρ,la,ln,lc,pa,pn,pc,bl,hv,hlb⟩:=h.st;obtain⟨sa,sn,sc,hvv⟩:=hv.ew;refine⟨_,_,_,_,_,_,_,_,hv.Z4 _ s _ _ _ ?_ hvv ?_ ?_ (by rw[hW];exact hsz) ((h.fr.keep hbd).weak (fun k hk=>⟨(hdz k hk).1,by rw[(hdz k hk).2];omega⟩)) ⟨hgr3,fun k hk=>⟨Bs hgr3 k hk,by rw[hgro k hk];omega⟩⟩ Dh,hlb⟩
  ·intro k hk;obtain⟨k1,k2⟩:=hk;by_cases hl:k<w.heap.size
   ·left;rw[hσ]at k2;replace k2:(if k=g then 3 else if k<w.heap.size then σ k else 9)<5:=k2;split at k2
    ·rename_i e1;rcases hat with h1|h1
     ·exact⟨hl,by rw[e1,h.gro g h1];omega⟩
     ·omega
    ·exact⟨hl,by simpa [hl]using k2⟩
   ·exact .inr ⟨by omega,k1⟩
  ·have h1:w2.heap[K.wb]?=w.heap[K.wb]?:=hgr.block K.wb hlo.2.1 (fun e=>hwbE ⟨hlo.2.1,by rw[h.gro K.wb e.symm];omega⟩);rw[heap_set (h1.trans hvv.cell)];simp
  ·intro k hk hne hnE;exact hk3 k hk hne (fun e1=>hnE ⟨hk,by rw[h.gro k e1];omega⟩)
 ·exact(hkeep pb lp (by rw[h.pbo];omega) (by rw[h.pbo];omega)).trans h.pbc
 ·exact(hgE pb lp (by rw[h.pbo];omega)).trans h.pbo
 ·exact B3 h.hr (fun k hk hl=>hkeep k hl (by rw[h.hro k hk];omega) (by rw[h.hro k hk];omega))
 ·intro k hk;exact(hgE k (Bs h.hr k hk) (by rw[h.hro k hk];omega)).trans (h.hro k hk)
 ·refine h.fns.keep (fun k hk hl=>⟨hkeep k hl (by rw[hk];omega) (by rw[hk];omega),?_⟩);exact(hgE k hl (by rw[hk];omega)).trans hk
end
end Go.Proofs.YtjdlndhfaaolaaaGreatDoor
