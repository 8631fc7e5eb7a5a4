import Derived.Test.YtjdlndhfaaolaaaGreatDoorX26
set_option maxHeartbeats 20000000
namespace Go.Proofs.YtjdlndhfaaolaaaGreatDoor
section
set_option maxRecDepth 100000
open Go.RowKit
open Go.Deep (BT)
theorem A94{bs:List Nat}{i:Nat}(h:i<bs.length):(Ct bs)[i]?=some (.int .i64 (bs[i]:Nat)):=by
 rw[Ct,List.getElem?_map,List.getElem?_eq_getElem h];rfl
theorem Abq(fns:List (Nm×Nat))(gl:List Nm)(line x1 y1 x2 y2:Nat)(l1 l2:A3)(c1 c2:BT A3)(e:Em)(h32:l2.kd=32) :
  L2 line (em fns gl (.node x1 y1 l1 c1 (.node x2 y2 l2 c2 .nil))) e =
   (((((em fns gl c2 0 ((Am fns gl l1 (Ak c1) (em fns gl c1) e.open').step 7 0 line)).cut (Am fns gl l1 (Ak c1) (em fns gl c1) e.open').loc.length).step 6 (e.st.length:Nat) 0).land (Am fns gl l1 (Ak c1) (em fns gl c1) e.open').st.length).Dn
    ((((em fns gl c2 0 ((Am fns gl l1 (Ak c1) (em fns gl c1) e.open').step 7 0 line)).cut (Am fns gl l1 (Ak c1) (em fns gl c1) e.open').loc.length).step 6 (e.st.length:Nat) 0).land (Am fns gl l1 (Ak c1) (em fns gl c1) e.open').st.length).Kc).close:=by
 simp[L2,P9,Ti,Ws h32];rfl
theorem Ao9(K:EC)(l:A3)(c:BT A3)(hk:l.kd=23)(ih:Cq (Py K) c)(hwf:Wf 3 c)(lbs:List Nat)(D:Nat->Prop)(w:World)(e:Em)(b:Nat)(t:TypeId)(x:Value)(s1:Option Addr)(n1 m1:Nat)(hD:D b)
  (hb:w.heap[b]?=some (.cells #[.int .i64 (l.line:Nat),.iface t x,.slice s1 n1 m1] 317 (0,0)))
  (hr:Al D w c [.iface t x,.slice s1 n1 m1]) (hst:K.St lbs D w e) (hlp:Lp (nd l c) e.lps.length) (hbb:D6 e) (hsz:e.st.length+2*bsize (nd l c)<=800000) (hlo:e.loc.length+bsize (nd l c)<=90000) (hll:e.lps.length+bsize (nd l c)<=90000) :
  Calls Tryz.prog 94 #[.pointer (some ⟨K.wb,0,none⟩),.pointer (some ⟨b,0,none⟩)] w fun r w'=>r=.returned (.tuple #[])/\K.St lbs D w' (Am K.fns K.gl l (Ak c) (em K.fns K.gl c) e)/\A2 D w w':=by
 obtain⟨hlw,lcb,hncb⟩:=hst.lo;have hnds:=Br l c;rw[Wk hk];have HBk:=A0 hb;have d1:=A7 hb 1 _ rfl;have ld:=A6 hb;obtain⟨x1,y1,l1,c1,r1,Cx,rfl,B9,B8,hz⟩:=hr.cons';obtain⟨x2,y2,l2,c2,r2,Gl,rfl,D7,Bm,hzz⟩:=hz.cons';obtain rfl:=hzz.nil';obtain⟨Dm,Fc⟩:=hwf.Pj.1 B9.Qh.2;obtain⟨C7,B1⟩:=D7.Od;obtain⟨h32,_⟩:=hwf.1.Pj.2 C7;have Bq:bsize (.node x1 y1 l1 c1 (.node x2 y2 l2 c2 .nil))=bsize (nd l1 c1)+1+l2.ps.length+bsize c2:=by rw[Br];simp only[bsize];omega
 have Jm:=Gh K.fns K.gl l1 c1 e.open';have Ig:=X3 K.fns K.gl l1 c1 e.open';have Ip:=(Mb K.fns K.gl c2).1 ((Am K.fns K.gl l1 (Ak c1) (em K.fns K.gl c1) e.open').step 7 0 l.line);have Io:=Rg K.fns K.gl c2 0 ((Am K.fns K.gl l1 (Ak c1) (em K.fns K.gl c1) e.open').step 7 0 l.line);rw[Dg]at Ip Io;have Bt:e.open'.st.length=e.st.length:=rfl;rw[Bt]at Jm Ig;clear Bt;have hsm:=Nn K.fns K.gl l1 c1 Dm Fc e.open';have hlc1:(Am K.fns K.gl l1 (Ak c1) (em K.fns K.gl c1) e.open').loc.length<=e.loc.length:=by rw[hsm.2.1];exact Nat.le_refl _
 have HLp1:Hid ((Am K.fns K.gl l1 (Ak c1) (em K.fns K.gl c1) e.open').lps.length=e.lps.length+1):=by show _=_;rw[hsm.1];rfl
 have hpc2:Lp c2 (e.lps.length+1):=by
  have h1:=hlp.2.1;rw[if_neg z4sa]at h1;have h2:=h1.2.2.2.1;rw[if_pos h32]at h2;exact h2
 have HSts:Hid (Dx (em K.fns K.gl c2 0 ((Am K.fns K.gl l1 (Ak c1) (em K.fns K.gl c1) e.open').step 7 0 l.line))=e.st.length::Dx e):=by
  show _=_;rw[A0h];show Dx (Am K.fns K.gl l1 (Ak c1) (em K.fns K.gl c1) e.open')=_;unfold Dx;rw[hsm.1];rfl
 have HBm1:=A0 (Tg K.fns K.gl l1 c1 e.open' hbb.open');have HBm2:=A0 (Th K.fns K.gl c2 0 _ (HBm1.o.step 7 0 l.line));rw[Abq K.fns K.gl l.line x1 y1 x2 y2 l1 l2 c1 c2 e h32];have HHere:=A0 hst.here;obtain⟨ρ,la,ln,lc,pa,pn,pc,bl,h,hlb⟩:=hst;have hbl:bl.length<=90000:=by have:=h.lps.len;omega
 have h1:=h.alloc (.cells #[.int .i64 (e.st.length:Nat),.slice none 0 0] 263) (5+2*bl.length) z4sa;have hbd1:A2 D w (w.alloc (.cells #[.int .i64 (e.st.length:Nat),.slice none 0 0] 263)):=(A2.refl D w).alloc hlw _;have hnew:=heap_alloc_new w (.cells #[.int .i64 (e.st.length:Nat),.slice none 0 0] 263);obtain⟨sa,sn,sc,hv⟩:=h1.ew;have HPu:=A0 (Akp (h1.Pq hv) z4za (some ⟨w.heap.size,0,none⟩) z4wa);have HPL:=A0 (fun(w1:World) hp=>h1.Yt e.st.length w.heap.size hv hnew (Ho (Nat.le_refl _)) (w':=w1) hp);rw[hlb]at HPL;have Gy:=A0 (fun(W:World) (hx:K.St (w.heap.size::lbs) D W e.open') (hbd:A2 D w W)=>hx.expr Dm Fc (B9.Bf hbd) (B8.Bf hbd) (by show e.st.length+_<=_;omega));have Ed:=A0 (fun(W:World) (e2:Em) (hx:K.St (w.heap.size::lbs) D W e2) (hbd:A2 D w W) (h1:e2.st.length+2*bsize c2<=800000) (h2:e2.loc.length+bsize c2<=90000) (h3:e2.lps.length=e.lps.length+1) (h4:D6 e2)=>Sp K c2 (ih.2.1 C7) (w.heap.size::lbs) D W e2 s1 n1 m1 Gl hx (B1.Bf hbd) (Bm.Bf hbd) (by rw[h3];exact hpc2) h4 h1 h2 z4sa);have HBd1:=A0 hbd1;clear hb hr hbb B9 B8 hz ih hwf hk D7 Bm hzz Dm Fc C7 B1 hlp hsm hpc2 h32 h h1 hv hnew hbd1 hlb;generalize I0:Am K.fns K.gl l1 (Ak c1) (em K.fns K.gl c1) e.open'=Bu at *;generalize hE2:em K.fns K.gl c2 0 (Bu.step 7 0 l.line)=F5 at *;go_enter Tryz.func94,Tryz.ntmps94;go_wp2_with fail
 refine HHere.o.mono ?_;rintro r w ⟨rfl,rfl⟩;go_wp2_with fail
 refine HPu.o.mono ?_;rintro r w1 ⟨rfl,hp⟩;obtain⟨Ai,hb1'⟩:=HPL.o w1 hp;have A8:=A0 Ai;have A4:Hid (A2 D w w1):=HBd1.o.trans hb1';have Bd:=(A4.o.block b hD).trans HBk.o;clear Ai hb1' hp d1 ld;have d1:=A7 Bd 1 _ rfl;have ld:=A6 Bd;clear Bd;go_wp2_with fail
 refine(Gy.o w1 A8.o A4.o).mono ?_;rintro r w2 ⟨rfl,Az,A9⟩;have Ah:=A0 Az;have Aa:Hid (A2 D w w2):=A4.o.trans A9;have Cv:=(Aa.o.block b hD).trans HBk.o;clear Az A9 ld;clear d1;have d0:w2.cell? ⟨b,0,none⟩=some (.int .i64 (l.line:Nat)):=A7 Cv 0 _ rfl;have ld:=A6 Cv;clear Cv;go_wp2_with fail
 refine(Ah.o.step z4sa 7 0 l.line).mono ?_;rintro r w3 ⟨rfl,C0,Ar⟩;have Be:=A0 C0;have Ay:Hid (A2 D w w3):=Aa.o.trans Ar;have Eh:=(Ay.o.block b hD).trans HBk.o;clear C0 Ar ld;clear d0;have d2:=A7 Eh 2 _ rfl;have ld:=A6 Eh;clear Eh;go_wp2_with fail
 refine(Ed.o _ _ Be.o Ay.o z6ba z6da HLp1.o (HBm1.o.step _ _ _)).mono ?_;rintro r w4 ⟨rfl,F6,Bi⟩;rw[hE2]at F6;have El:=A0 F6;have Cs:Hid (A2 D w w4):=Ay.o.trans Bi;have hbk4:=(Cs.o.block b hD).trans HBk.o;clear F6 Bi ld;clear d2;have ld:=A6 hbk4;clear hbk4;have hq0:(F5.cut (Bu.step 7 0 l.line).loc.length).lps.length≠0:=by
  have:=congrArg List.length HSts.o;simp only[Dx,List.length_map,List.length_cons]at this;show F5.lps.length≠0;omega
 have hq9:(F5.cut (Bu.step 7 0 l.line).loc.length).lps.length<=90000:=by
  have:=congrArg List.length HSts.o;simp only[Dx,List.length_map,List.length_cons]at this;show F5.lps.length<=90000;omega
 obtain⟨lb,lr,s,bs,r4,ba,bn,bc,hlbs,hq,llb,hlb4,hown4,rfl,_⟩:=El.o.top hq0 hq9;injection hlbs with hlb5 hlr5;have J4:s=e.st.length:=by
  have:=HSts.o;have hq':F5.lps=(s,bs)::r4:=hq;unfold Dx at this;rw[hq']at this;simp only[List.map_cons,List.cons.injEq]at this;exact this.1
 have hr4:r4.length=e.lps.length:=by
  have:=congrArg List.length HSts.o;have hq':F5.lps=(s,bs)::r4:=hq;unfold Dx at this;rw[hq']at this;simp at this;exact this
 subst J4;subst hlb5;have g0:=A7 hlb4 0 _ rfl;have HQ:=A0 hq;clear hlb4 hown4 hlr5 hq hq0 hq9 llb;go_wp2_with fail
 refine(El.o.step (by show F5.st.length<=_;omega) 6 (e.st.length:Nat) 0).mono ?_;rintro r w5 ⟨rfl,Ch,Dd⟩;have Hs:=A0 Ch;have Ek:Hid (A2 D w w5):=Cs.o.trans Dd;have hbk5:=(Ek.o.block b hD).trans HBk.o;clear Ch Dd ld;clear g0;have ld:=A6 hbk5;clear hbk5;go_wp2_with fail
 refine(Hs.o.land Bu.st.length (by rw[Dg,Nl];omega)).mono ?_;rintro r w6 ⟨rfl,Dy,hb6⟩;have HS6:=A0 Dy;have Jh:Hid (A2 D w w6):=Ek.o.trans hb6;have hbk6:=(Jh.o.block b hD).trans HBk.o;clear Dy hb6 ld;have ld:=A6 hbk6;clear hbk6;have HQ6:Hid ((((F5.cut (Bu.step 7 0 l.line).loc.length).step 6 (e.st.length:Nat) 0).land Bu.st.length).lps=(e.st.length,bs)::r4):=HQ.o;have HBm6:Hid (D6 (((F5.cut (Bu.step 7 0 l.line).loc.length).step 6 (e.st.length:Nat) 0).land Bu.st.length)):=(((HBm2.o.cut _).step _ _ _).land _);have HE6:Hid ((((F5.cut (Bu.step 7 0 l.line).loc.length).step 6 (e.st.length:Nat) 0).land Bu.st.length).Kc=bs):=by show _=_;unfold Em.Kc;rw[HQ6.o]
 have hbs:bs.length<=800000:=by
  have:=(HBm6.o (e.st.length,bs) (by rw[HQ6.o];simp)).1;rw[K6,Dg,Nl]at this;simp only at this;omega
 generalize hE6:(((F5.cut (Bu.step 7 0 l.line).loc.length).step 6 (e.st.length:Nat) 0).land Bu.st.length)=em6 at *;have HE6':=A0 hE6;clear hE6;obtain⟨ρ,la,ln,lc,pa,pn,pc,bl,h6,hlb6⟩:=HS6.o;obtain⟨b2,br,rfl⟩:∃b2 br,bl=b2::br:=by
  cases bl with
  | nil=>simp at hlb6
  | cons b2 br=>exact⟨b2,br,rfl⟩
 obtain⟨lb,ba,bn,bc⟩:=b2;simp only[List.map_cons,List.cons.injEq]at hlb6;obtain⟨hlb7,hlbr⟩:=hlb6;subst hlb7;have hl6:=h6.A1q HQ6.o;have hbn:bn=bs.length:=by have:=(Cf (h6.Xw HQ6.o)).1;rw[this];simp[Ct]
 subst hbn;have g1:=A7 hl6 1 _ rfl;have lg:=A6 hl6;have H6:=A0 h6;have HLbr:=A0 hlbr;have hbr:br.length<=90000:=by have:=h6.lps.len;rw[HQ6.o]at this;simp at this;omega
 clear h6 hl6 hlbr;go_wp2;go_loopg [49] bs.length (fun k v wr=>∃(i:Nat) (ρ':Nat->Nat),v=.int .i64 i/\i+k=bs.length/\K.Sv D wr (em6.Dn (bs.take i)) ρ' la ln lc pa pn pc ((w.heap.size,ba,bs.length,bc)::br)/\A2 D w wr)
 case atStart=>exact⟨0,ρ,rfl,by omega,H6.o,Jh.o⟩
 case round=>
  clear H6 HS6;obtain⟨i,ρ',rfl,hik,hsv,hbel⟩:=hrel;have HBel:=A0 hbel;have HQi:Hid ((em6.Dn (bs.take i)).lps=(e.st.length,bs)::r4):=(Tt _ _).trans HQ6.o;have hll6:=Tr (bs.take i) em6;clear hbel;by_cases hlt:i<bs.length
  ·obtain⟨g,rfl,hvn9,hcap,lg2,hcell⟩:=Hg (hsv.Xw HQi.o) (by simp[Ct];omega);clear hvn9;have d0:=hcell i _ (A94 hlt);have hjl:bs[i]<(em6.Dn (bs.take i)).st.length:=by
    rw[hll6];exact(HBm6.o (e.st.length,bs) (by rw[HQ6.o];simp)).2 _ (List.getElem_mem hlt)
   have HL:=A0 (Uz hsv.ew bs[i] hjl);have HNx:=A0 (Ae9 bs i hlt em6);have HV:=A0 hsv;clear hcell hsv hjl hll6;generalize bs[i]=jj at *;go_wp2_with fail
   refine HL.o.mono ?_;rintro r w7 ⟨rfl,G2,He⟩;obtain⟨k1,k2⟩:=HV.o.Oj He (HV.o.Na.next (e':=(em6.Dn (bs.take i)).land jj) He G2 rfl) rfl;rw[←HNx.o]at k1;have Iy:=A0 k1;have HB7:Hid (A2 D w w7):=HBel.o.trans k2;clear G2 He k1 k2;go_wp2;go_roundg (gk-1)
   case measure=>omega
   case rel=>exact⟨i+1,_,rfl,by omega,Iy.o,HB7.o⟩
  ·obtain rfl:i=bs.length:=by omega
   rw[List.take_length]at hsv;obtain⟨sa,sn,sc,hv⟩:=hsv.ew;have lbw:=A6 hv.cell;have hpl:(((w.heap.size,ba,bs.length,bc)::br:List LB).map fun b=>C3 b.1).reverse.length=br.length+1:=by simp
   have HPo:=A0 (Akl (hsv.Pq hv) (by rw[hpl];omega) br.length (by rw[hpl];omega) hpl z4wa);have HPL:=A0 (fun(w9:World) hp=>hsv.Agg hv (w':=w9) hp);rw[HLbr.o]at HPL;clear hsv hv hll6;go_wp2_with fail
   refine HPo.o.mono ?_;rintro r w9 ⟨rfl,hp⟩;obtain⟨k1,k2⟩:=HPL.o w9 hp;have Iy:=A0 k1;have Gx:Hid (A2 D w w9):=HBel.o.trans k2;clear k1 k2 hp;go_wp2;go_end0;have hE7:(((F5.cut Bu.loc.length).step 6 (e.st.length:Nat) 0).land Bu.st.length)=em6:=HE6'.o;rw[hE7,HE6.o];exact⟨rfl,Iy.o,Gx.o⟩
theorem Ao6(K:EC)(l:A3)(c:BT A3)(hk:l.kd=23)(ih:Cq (Py K) c)(hwf:Wf 3 c):Kw K l c:=by
 intro lbs D w e v ks hst hn hr hlp hbb hsz hlo hll;obtain⟨hlw,lcb,hncb⟩:=hst.lo;have hnds:=Br l c;unfold Bh at hn;rw[if_neg z4sa]at hn;obtain⟨b,cs,rfl,hD,hb,hl⟩:=hn;have e1:Cc l.kd=255:=by rw[hk];rfl
 have e2:D8 l.kd=317:=by rw[hk];rfl
 rw[e1];rw[e2]at hb;unfold Cm at hl;simp only[hk]at hl;obtain⟨t,x,s1,n1,m1,rfl,rfl⟩:=hl;have HC:=A0 (Ao9 K l c hk ih hwf lbs D w e b t x s1 n1 m1 hD hb hr hst hlp hbb hsz hlo hll);have ld:=A6 hb;have D4:=N8 255 z4ta;have Dp:=Oq 255 z4ta;have Ej:=Ak3;clear hst hb e1 e2 hk hr hlp hbb ih hwf;exact z47a
theorem A5a(K:EC):∀f:BT A3,(Wf 1 f->Cq (Kw K) f)/\(Wf 2 f->Cq (Py K) f)/\(Wf 3 f->Cq (Py K) f):=by
 intro f;induction f with
 | nil=>exact⟨fun _=>trivial,fun _=>trivial,fun _=>trivial⟩
 | node x y l c r Cb Bn=>
  obtain⟨i1,i2,i3⟩:=Cb;obtain⟨j1,j2,j3⟩:=Bn;refine⟨fun h=>⟨?_,j1 h.1⟩,fun h=>⟨fun hx=>i1 (h.Li.2 hx).2,j2 h.1⟩,fun h=>⟨fun hx=>i1 (h.Pj.2 hx).2,j3 h.1⟩⟩;rcases h.2 with⟨h0,_⟩|⟨h0,_⟩|⟨h0,_⟩|⟨_,h1,h2⟩|⟨_,h1,h2⟩|⟨_,h1,h2⟩|⟨h0,_⟩
  ·omega
  ·omega
  ·omega
  ·exact Ao0 K l c h1 (i2 h2) h2
  ·exact Ao6 K l c h1 (i3 h2) h2
  ·unfold N9 at h1;simp only[Bool.or_eq_true,Bool.and_eq_true,decide_eq_true_eq,beq_iff_eq]at h1;have hc:l.kd=21\/l.kd=24\/l.kd=25\/l.kd=26\/l.kd=27\/l.kd=28\/l.kd=29\/l.kd=30:=by omega
   rcases hc with e|e|e|e|e|e|e|e
   ·exact Ao2 K l c e h2
   ·exact Ao1 K l c e h2
   ·exact Anw K l c e
   ·exact Anx K l c e
   ·exact Ao3 K l c e h2
   ·exact Ao5 K l c e h2
   ·exact Ao4 K l c e h2
   ·exact Anz K l c e h2
  ·omega
end
section
open Go.RowKit
open Go.Deep (BT)
variable {K:EC} {D:Nat->Prop} {w w':World} {e:Em} {ρ:Nat->Nat} {la:Option Addr} {ln lc:Nat} {pa:Option Addr} {pn pc:Nat} {bl:List LB}
theorem Hq.Qm{fs gs ls ps:Value}{slots:Nat}{st:List Af}{wb te:Nat}{sa:Option Addr}{sn sc:Nat}(h:Hq (dX w.heap.size ρ) wb te w fs gs ls ps slots st sa sn sc)(hone:∀g,ρ g=1->g=wb):∀g,(Value.slice sa sn sc).ownBlock=some g->ρ g=4:=by
 intro g hg;have h1:=h.Cp g hg;have h2:=Bg h.own g hg;by_cases e1:ρ g=1
 ·exact absurd (hone g e1) h1.2
 ·by_cases e4:ρ g=4
  ·exact e4
  ·exact absurd ⟨h2,e1,e4⟩ h1.1
theorem z4pa {P:Prop} (h:P:=by
  rw[hρ K.wb hwb z5fa z5fa];exact h.one.1):P:=h
theorem z68a {P:Prop} (h:P:=by rw[h.pro g hg];omega):P:=h
theorem z6aa {P:Prop} (h:P:=by rw[h.lro g hg];omega):P:=h
theorem EC.Sv.swap(h:K.Sv D w e ρ la ln lc pa pn pc bl){sa:Option Addr}{sn sc:Nat}(hv:Hq (dX w.heap.size ρ) K.wb K.te w (.slice K.fa K.fn K.fc) (.slice K.ga K.gn K.gc) (.slice la ln lc) (.slice pa pn pc) e.slots e.st sa sn sc)
  (D0:Nat->Prop) {ta:Option Addr} {tn tc:Nat} {st':List Af} {slots':Nat} (hrow:w.ownsRow 0 251 8 (.slice ta tn tc) st'.length (Ez st')) (hT:∀g,(Value.slice ta tn tc).ownBlock=some g->ρ g=0) (hD0:∀g,D0 g->D g/\(Value.slice ta tn tc).ownBlock≠some g)
  (hfr:Ik D0 w K.fns K.fa K.fn K.fc) (hgr:Cr D0 w 9 1 (.slice K.ga K.gn K.gc) K.gl.length (Cz K.gl))
  (hcell:w'.heap[K.wb]?=some (.cells #[.slice K.fa K.fn K.fc,.slice K.ga K.gn K.gc,.slice la ln lc,.slice pa pn pc,.int .i64 (slots':Nat),.slice ta tn tc] K.te (0,0))) (y:Nat) (hy:(ρ y=0/\¬D0 y/\(Value.slice ta tn tc).ownBlock≠some y)\/w.heap.size<=y) (hk:∀g,g<w.heap.size->g≠K.wb->g≠y->w'.heap[g]?=w.heap[g]?) (hs:w.heap.size<=w'.heap.size) (ho:w'.os=w.os) (ht:w'.tape=w.tape) (hu:w'.output=w.output) :
  (∃ρ',K.Sv (fun g=>D0 g\/(Value.slice sa sn sc).ownBlock=some g) w' ⟨e.loc,slots',st',e.lps⟩ ρ' la ln lc pa pn pc bl/\∀g,w.heap.size<=g->ρ' g=4)/\A2 D0 w w':=by
 have hwb:=A6 hv.cell;have h4:=hv.Qm h.one.2;have hyn:∀g,g<w.heap.size->ρ g≠0->g≠y:=by
  intro g hg h1 e;subst e;rcases hy with hy|hy
  ·exact h1 hy.1
  ·omega
 have hbd0:A2 D0 w w':=⟨ho,ht,hu,hs,fun k hk'=>by
  have h1:=h.prot k (hD0 k hk').1;refine hk k h1.1 (fun e=>by have:=h1.2;rw[e,h.one.1]at this;cases this) (fun e=>?_);subst e;rcases hy with hy|hy
  ·exact hy.2.1 hk'
  ·omega⟩
 have hTy:∀g,(Value.slice ta tn tc).ownBlock=some g->g≠y:=by
  intro g hg e;subst e;rcases hy with hy|hy
  ·exact hy.2.2 hg
  ·have:=Bg hrow g hg;omega
 have hne:∀g,ρ g≠0->ρ g≠4->¬(Value.slice ta tn tc).ownBlock=some g/\¬(Value.slice sa sn sc).ownBlock=some g:=fun g h1 h2=>⟨fun e=>h1 (hT g e),fun e=>h2 (h4 g e)⟩;have hρ:∀g,g<w.heap.size->ρ g≠0->ρ g≠4->Et (fun g=>if(Value.slice ta tn tc).ownBlock=some g then 4 else if(Value.slice sa sn sc).ownBlock=some g then 0 else ρ g) w.heap.size 4 g=ρ g:=by
  intro g hg h1 h2;rw[Bb hg,if_neg (hne g h1 h2).1,if_neg (hne g h1 h2).2]
 refine⟨⟨Et (fun g=>if(Value.slice ta tn tc).ownBlock=some g then 4 else if(Value.slice sa sn sc).ownBlock=some g then 0 else ρ g) w.heap.size 4,⟨⟨ta,tn,tc,hcell,?_,?_,?_,fun g hg=>hg.1⟩,(hfr.keep hbd0).weak (fun g hg=>.inl hg),(hgr.Bf hbd0).weak (fun g hg=>.inl hg),?_,?_,?_,?_,?_,?_,⟨?_,?_⟩,h.Bz⟩,fun g hg=>Ho hg⟩,hbd0⟩
 ·exact B2 hrow (fun g hg hl=>hk g hl (fun e=>by have:=hT g hg;rw[e,h.one.1]at this;cases this) (hTy g hg))
 ·intro hd;apply hd.2.1;exact z4pa
 ·intro g hg;refine⟨fun hd=>hd.2.2 ?_,fun e=>by have:=hT g hg;rw[e,h.one.1]at this;cases this⟩;rw[Bb (Bg hrow g hg),if_pos hg]
 ·exact B2 h.lr (fun g hg hl=>hk g hl (fun e=>by have:=h.lro g hg;rw[e,h.one.1]at this;omega) (hyn g hl z6aa))
 ·intro g hg;have:=h.lro g hg;rw[hρ g (Bg h.lr g hg) z4sa z4sa];exact this
 ·exact B2 h.pr (fun g hg hl=>hk g hl (fun e=>by have:=h.pro g hg;rw[e,h.one.1]at this;omega) (hyn g hl z68a))
 ·intro g hg;have:=h.pro g hg;rw[hρ g (Bg h.pr g hg) z4sa z4sa];exact this
 ·exact h.lps.keep bl.length (fun g hl h5 _=>⟨hk g hl (fun e=>by rw[e,h.one.1]at h5;omega) (hyn g hl z4sa),hρ g hl z4sa z4sa⟩) (Nat.le_refl _)
 ·intro g hg;rcases hg with hg|hg
  ·have h1:=hD0 g hg;have h2:=h.prot g h1.1;refine⟨Nat.lt_of_lt_of_le h2.1 hs,?_⟩;rw[Bb h2.1,if_neg h1.2,if_neg (fun e=>by have:=h4 g e;omega)];exact h2.2
  ·have h2:=Bg hv.own g hg;refine⟨Nat.lt_of_lt_of_le h2 hs,?_⟩;rw[Bb h2,if_neg (fun e=>by have:=hT g e;have:=h4 g hg;omega),if_pos hg]
 ·exact z4pa
 ·intro g hg;by_cases hl:g<w.heap.size
  ·rw[Bb hl]at hg;split at hg
   ·cases hg
   ·split at hg
    ·cases hg
    ·exact h.one.2 g hg
  ·rw[Ho z4sa]at hg;cases hg
theorem z42a {P:Prop} (h:P:=by
  show(if X K.wb then 0 else ρ K.wb)=1;rw[hρ _ z5fa];exact h.one.1):P:=h
theorem EC.Sv.more(h:K.Sv D w e ρ la ln lc pa pn pc bl){sa:Option Addr}{sn sc:Nat}(hv:Hq (dX w.heap.size ρ) K.wb K.te w (.slice K.fa K.fn K.fc) (.slice K.ga K.gn K.gc) (.slice la ln lc) (.slice pa pn pc) e.slots e.st sa sn sc)(X:Nat->Prop)
  (hX:∀g,X g->g<w.heap.size/\ρ g=4/\(Value.slice sa sn sc).ownBlock≠some g):∃ρ',K.Sv (fun g=>D g\/X g) w e ρ' la ln lc pa pn pc bl:=by
 classical
 have h4:=hv.Qm h.one.2;have hρ:∀g,ρ g≠4->(if X g then 0 else ρ g)=ρ g:=fun g hg=>if_neg (fun hx=>hg (hX g hx).2.1);refine⟨fun g=>if X g then 0 else ρ g,⟨sa,sn,sc,hv.cell,hv.own,?_,?_,fun g hg=>hg.1⟩,h.fr.weak (fun g hg=>.inl hg),h.gr.weak (fun g hg=>.inl hg),h.lr,?_,h.pr,?_,?_,?_,⟨?_,?_⟩,h.Bz⟩
 ·intro hd;apply hd.2.1;exact z42a
 ·intro g hg;refine⟨fun hd=>hd.2.2 ?_,(hv.Cp g hg).2⟩;show(if X g then 0 else ρ g)=4;rw[if_neg (fun hx=>(hX g hx).2.2 hg)];exact h4 g hg
 ·intro g hg;have:=h.lro g hg;show(if X g then 0 else ρ g)=2;rw[hρ _ z4sa];exact this
 ·intro g hg;have:=h.pro g hg;show(if X g then 0 else ρ g)=3;rw[hρ _ z4sa];exact this
 ·exact h.lps.keep bl.length (fun g _ h5 _=>⟨rfl,by show(if X g then 0 else ρ g)=ρ g;by_cases h4':ρ g=4 <;> first|omega|exact hρ g h4'⟩) (Nat.le_refl _)
 ·intro g hg;show _/\(if X g then 0 else ρ g)=0;rcases hg with hg|hg
  ·have:=h.prot g hg;refine⟨this.1,?_⟩;rw[hρ _ z4sa];exact this.2
  ·exact⟨(hX g hg).1,if_pos hg⟩
 ·exact z42a
 ·intro g hg;have hg:(if X g then 0 else ρ g)=1:=hg;split at hg
  ·cases hg
  ·exact h.one.2 g hg
theorem EC.St.alloc{lbs:List Nat}(h:K.St lbs D w e)(o:Obj):K.St lbs D (w.alloc o) e:=by
 obtain⟨ρ,la,ln,lc,pa,pn,pc,bl,h,hlb⟩:=h;exact⟨_,_,_,_,_,_,_,_,h.alloc o 5 (Nat.le_refl _),hlb⟩
theorem Uf(w:World)(a:Addr)(v:Value):(w.setCell a v).os=w.os:=rfl
theorem A7b(w:World)(o:Obj):(w.alloc o).os=w.os:=rfl
theorem Ab1(w:World):w.drew.os=w.os:=rfl
theorem Uh(w:World)(a:Addr)(v:Value):(w.setCell a v).tape=w.tape:=rfl
theorem A7d(w:World)(o:Obj):(w.alloc o).tape=w.tape:=rfl
theorem Ab3(w:World):w.drew.tape=w.tape:=rfl
theorem Ug(w:World)(a:Addr)(v:Value):(w.setCell a v).output=w.output:=rfl
theorem A7c(w:World)(o:Obj):(w.alloc o).output=w.output:=rfl
theorem Ab2(w:World):w.drew.output=w.output:=rfl
theorem Wa(w:World):w.drew.heap=w.heap:=rfl
theorem z5za {P:Prop} (h:P:=by exact fun e=>hrbw e.symm):P:=h
theorem Ang{D2:Nat->Prop}(h:K.Sv D2 w e ρ la ln lc pa pn pc []){sb:Option Addr}{sm sd:Nat}(hv:Hq (dX w.heap.size ρ) K.wb K.te w (.slice K.fa K.fn K.fc) (.slice K.ga K.gn K.gc) (.slice la ln lc) (.slice pa pn pc) e.slots e.st sb sm sd)(rb:Nat){slots:Nat}{st:List Af}{sa:Option Addr}{sn sc:Nat}
  (hrow:w.ownsRow 0 251 8 (.slice sa sn sc) st.length (Ez st)) (hS2:∀g,(Value.slice sa sn sc).ownBlock=some g->D2 g) (hSD:∀g,(Value.slice sa sn sc).ownBlock=some g->¬D g) (Jc:∀g,D g->D2 g) (hrb:D2 rb) (hrbD:¬D rb) (hrbS:(Value.slice sa sn sc).ownBlock≠some rb)
  (hfr:Ik D w K.fns K.fa K.fn K.fc) (hgr:Cr D w 9 1 (.slice K.ga K.gn K.gc) K.gl.length (Cz K.gl)) (v0 v1 v2 v3:Value) (o:Obj) (W:World)
  (hW:W=(((((((w.setCell ⟨K.wb,4,none⟩ (.int .i64 (slots:Nat))).setCell ⟨K.wb,5,none⟩ (.slice sa sn sc)).setCell ⟨rb,0,none⟩ v0).setCell ⟨rb,1,none⟩ v1).setCell ⟨rb,2,none⟩ v2).setCell ⟨rb,3,none⟩ v3).alloc o).drew) :
  W.ownsRow 0 251 8 (.slice sb sm sd) e.st.length (Ez e.st)/\K.St [] (fun g=>D g\/(Value.slice sb sm sd).ownBlock=some g) W ⟨e.loc,slots,st,e.lps⟩/\A2 D w W:=by
 have hwb:=A6 hv.cell;have hrbw:rb≠K.wb:=fun e=>by have:=(h.prot rb hrb).2;rw[e,h.one.1]at this;cases this
 have hrl:=(h.prot rb hrb).1;have hsz:W.heap.size=w.heap.size+1:=by rw[hW,Wa];simp[World.setCell]
 have hk:∀g,g<w.heap.size->g≠K.wb->g≠rb->W.heap[g]?=w.heap[g]?:=by
  intro g hg h1 h2;rw[hW,Wa,Below.heap_alloc _ _ _ (by simp[World.setCell];exact hg),Below.heap_setCell _ _ _ _ (by exact h2),Below.heap_setCell _ _ _ _ (by exact h2),Below.heap_setCell _ _ _ _ (by exact h2),Below.heap_setCell _ _ _ _ (by exact h2),Below.heap_setCell _ _ _ _ (by exact h1),Below.heap_setCell _ _ _ _ (by exact h1)]
 have hcell:W.heap[K.wb]?=some (.cells #[.slice K.fa K.fn K.fc,.slice K.ga K.gn K.gc,.slice la ln lc,.slice pa pn pc,.int .i64 (slots:Nat),.slice sa sn sc] K.te (0,0)):=by
  rw[hW,Wa,Below.heap_alloc _ _ _ (by simp[World.setCell];exact hwb),Below.heap_setCell _ _ _ _ z5za,Below.heap_setCell _ _ _ _ z5za,Below.heap_setCell _ _ _ _ z5za,Below.heap_setCell _ _ _ _ z5za];have:=heap_set (j:=5) (heap_set (j:=4) hv.cell (.int .i64 (slots:Nat))) (.slice sa sn sc);rw[this];simp
 obtain⟨⟨ρ9,h9,_⟩,Dl⟩:=h.swap hv D hrow (fun g hg=>(h.prot g (hS2 g hg)).2) (fun g hg=>⟨Jc g hg,fun e=>hSD g e hg⟩) hfr hgr hcell rb (.inl ⟨(h.prot rb hrb).2,hrbD,hrbS⟩) hk z4sa (by simp only[hW,Ab1,A7b,Uf]) (by simp only[hW,Ab3,A7d,Uh]) (by simp only[hW,Ab2,A7c,Ug]);have h4:=hv.Qm h.one.2;refine⟨B2 hv.own (fun g hg hl=>hk g hl (hv.Cp g hg).2 (fun e=>?_)),⟨_,_,_,_,_,_,_,_,h9,rfl⟩,Dl⟩;have h1:=h4 g hg;rw[e,(h.prot rb hrb).2]at h1;cases h1
end
section
set_option maxRecDepth 100000
open Go.RowKit
open Go.Deep (BT)
theorem Anh(K:EC)(l:A3)(c:BT A3)(hwf:Wf 1 c)(hlp:Lp c 0)(D:Nat->Prop)(w:World)(slots:Nat)(st:List Af)(b:Nat)(pa:Option Addr)(pn pc:Nat)(va:Option Addr)(vn vc:Nat)(ks:List Value)
  (hst:K.St [] D w ⟨[],slots,st,[]⟩) (hD:D b) (hblk:w.heap[b]?=some (.cells #[.int .i64 (l.line:Nat),.string ⟨l.s.toArray⟩,.slice pa pn pc,.slice va vn vc] 218 (0,0)))
  (hprm:Cr D w 148 2 (.slice pa pn pc) l.ps.length (Kq l.ps)) (hown:Cr D w 142 1 (.slice va vn vc) ks.length ks) (hrep:Al D w c ks) (A1:l.ps.length+bsize c<=80000) :
  Calls Tryz.prog 53 #[.pointer (some ⟨K.wb,0,none⟩),.pointer (some ⟨b,0,none⟩)] w fun r w'=>∃sa sn sc,r=.returned (.agg #[.string ⟨l.s.toArray⟩,.int .i64 (l.ps.length:Nat),.int .i64 ((K4 K.fns K.gl l c).slots:Nat),.slice sa sn sc])/\
   w'.ownsRow 0 251 8 (.slice sa sn sc) (K4 K.fns K.gl l c).steps.length (Ez (K4 K.fns K.gl l c).steps)/\(∀g,(Value.slice sa sn sc).ownBlock=some g->¬D g)/\K.St [] (fun g=>D g\/(Value.slice sa sn sc).ownBlock=some g) w' ⟨[],slots,st,[]⟩/\A2 D w w':=by
 obtain⟨hlw,lcb,hncb⟩:=hst.lo;have hpn:pn=l.ps.length:=(Cf hprm.1).1;subst hpn;obtain⟨ρ,la,ln,lc,qa,qn,qc,bl,h,hlb⟩:=hst;obtain⟨sa,sn,sc,hv⟩:=h.ew;obtain⟨c0,c1,c2,c3,c4,c5,fz,lb⟩:=T7 hv.cell;obtain⟨d0,d1,d2,d3,fd,ld⟩:=Dt hblk;have hwbb:K.wb≠b:=fun e=>hncb (by rw[e];exact hD);obtain⟨w0,Dz⟩:∃w0,w0=(((w.setCell ⟨K.wb,4,none⟩ (.int .i64 0)).setCell ⟨K.wb,5,none⟩ (.slice none 0 0)).alloc (.cells #[.string ⟨#[]⟩,.int .i64 0,.int .i64 0,.slice none 0 0] 103)).alloc (.cells #[.int .i64 (slots:Nat),.slice sa sn sc] 98):=⟨_,rfl⟩;have J2:∀g,g<w.heap.size->g≠K.wb->w0.heap[g]?=w.heap[g]?:=by
  intro g hg hne;rw[Dz,Below.heap_alloc _ _ _ (by simp[World.setCell];omega),Below.heap_alloc _ _ _ (by simp[World.setCell];omega),Below.heap_setCell _ _ _ _ z5ha,Below.heap_setCell _ _ _ _ z5ha]
 have hc0:w0.heap[K.wb]?=some (.cells #[.slice K.fa K.fn K.fc,.slice K.ga K.gn K.gc,.slice la ln lc,.slice qa qn qc,.int .i64 ((0:Nat):Int),.slice none 0 0] K.te (0,0)):=by
  rw[Dz,Below.heap_alloc _ _ _ (by simp[World.setCell];omega),Below.heap_alloc _ _ _ (by simp[World.setCell];omega)];have:=heap_set (j:=5) (heap_set (j:=4) hv.cell (.int .i64 0)) (.slice none 0 0);rw[this];simp
 have J4:w0.heap.size=w.heap.size+2:=by rw[Dz];simp[World.setCell]
 have hR0:w0.heap[w.heap.size]?=some (.cells #[.string ⟨#[]⟩,.int .i64 0,.int .i64 0,.slice none 0 0] 103 (0,0)):=by
  rw[Dz,Below.heap_alloc _ _ _ z57a];have:=heap_alloc_new ((w.setCell ⟨K.wb,4,none⟩ (.int .i64 0)).setCell ⟨K.wb,5,none⟩ (.slice none 0 0)) (.cells #[.string ⟨#[]⟩,.int .i64 0,.int .i64 0,.slice none 0 0] 103);simpa [World.setCell]using this
 have hO0:w0.heap[w.heap.size+1]?=some (.cells #[.int .i64 (slots:Nat),.slice sa sn sc] 98 (0,0)):=by
  rw[Dz];have:=heap_alloc_new (((w.setCell ⟨K.wb,4,none⟩ (.int .i64 0)).setCell ⟨K.wb,5,none⟩ (.slice none 0 0)).alloc (.cells #[.string ⟨#[]⟩,.int .i64 0,.int .i64 0,.slice none 0 0] 103)) (.cells #[.int .i64 (slots:Nat),.slice sa sn sc] 98);simpa [World.setCell]using this
 obtain⟨⟨ρ1,h1,B9⟩,hbd0⟩:=h.swap hv D (World.ownsRow_nil w 0 251 8) (st':=[]) (slots':=0) (fun g hg=>by simp[Value.ownBlock]at hg) (fun g hg=>⟨hg,by simp[Value.ownBlock]⟩) h.fr h.gr hc0 w.heap.size (.inr (Nat.le_refl _)) (fun g h1 h2 _=>J2 g h1 h2) z4sa (by rw[Dz];rfl) (by rw[Dz];rfl) (by rw[Dz];rfl);obtain⟨sa1,sn1,sc1,G3⟩:=h1.ew;have hc0':=G3.cell.symm.trans hc0;simp only[Option.some.injEq,Obj.cells.injEq,Array.mk.injEq,List.cons.injEq,Value.slice.injEq]at hc0';obtain⟨⟨_,_,_,_,_,⟨rfl,rfl,rfl⟩,_⟩,_⟩:=hc0';obtain⟨ρ2,h2⟩:=h1.more G3 (fun g=>g=w.heap.size\/g=w.heap.size+1) (fun g hg=>⟨by omega,B9 g z4sa,by simp[Value.ownBlock]⟩);have hblE:bl=[]:=by cases bl with
  | nil=>rfl
  | cons x y=>simp at hlb
 subst hblE;have Aq:Hid (K.St [] (fun g=>(D g\/(Value.slice sa sn sc).ownBlock=some g)\/(g=w.heap.size\/g=w.heap.size+1)) w0 ⟨[],0,[],[]⟩):=⟨_,_,_,_,_,_,_,_,h2,rfl⟩;have Ae:=A0 hbd0;have hSD:∀g,(Value.slice sa sn sc).ownBlock=some g->¬D g:=fun g hg hd=>(hv.Cp g hg).1 (h.dx g hd);have HSD:=A0 hSD;have HOwnS:Hid (w0.ownsRow 0 251 8 (.slice sa sn sc) st.length (Ez st)):=B2 hv.own (fun g hg hl=>J2 g hl (hv.Cp g hg).2);have HOwnS0:=A0 hv.own;have HFr:=A0 h.fr;have HGr:=A0 h.gr;have HR0:=A0 hR0;have HO0:=A0 hO0;have HBlk:=A0 hblk;have HPrm:=A0 hprm;have HRun:=A0 (fun(W:World) (e2:Em) (hx:K.St [] (fun g=>(D g\/(Value.slice sa sn sc).ownBlock=some g)\/(g=w.heap.size\/g=w.heap.size+1)) W e2) (hbd:A2 D w W) (h1:e2.lps=[]) (h2:e2.st=[]) (h3:e2.loc.length<=l.ps.length)=>A5b K c ((A5a K c).1 hwf) [] _ W e2 va vn vc ks hx ((hown.Bf hbd).weak (fun g hg=>.inl (.inl hg))) (Al.keep (fun g hg _=>⟨rfl,.inl (.inl hg)⟩) _ _ (hrep.Bf hbd)) (by rw[h1];exact hlp) (fun x hx=>by rw[h1]at hx;cases hx) (by rw[h2];simp;omega) z4sa (by rw[h1];simp;omega));have Ap:=A0 Dz;have hsw0:=J4;have HD3:=A0 d3;clear hblk hprm hown hrep h hv h1 G3 h2 B9 J2 hc0 hR0 hO0 J4 Dz hSD hbd0 hlb;go_enter Tryz.func53,Tryz.ntmps53;go_wp2;rw[←Ap.o];clear Ap c0 c1 c2 c3 c4 c5 fz lb d0 d1 d2 d3 fd ld;go_loopg [22] l.ps.length (fun k v wr=>∃(i:Nat),v=.int .i64 i/\i+k=l.ps.length/\K.St [] (fun g=>(D g\/(Value.slice sa sn sc).ownBlock=some g)\/(g=w.heap.size\/g=w.heap.size+1)) wr ⟨(l.ps.take i).map Prod.snd,i,[],[]⟩/\A2 (fun g=>(D g\/(Value.slice sa sn sc).ownBlock=some g)\/(g=w.heap.size\/g=w.heap.size+1)) w0 wr)
 case atStart=>exact⟨0,rfl,by omega,Aq.o,A2.refl _ _⟩
 case round=>
  clear Aq;obtain⟨i,rfl,hik,hst,hbel⟩:=hrel;have HSt:=A0 hst;have HBel:=A0 hbel;have HBD:Hid (A2 D w wr):=Ae.o.trans (hbel.weak (fun g hg=>.inl (.inl hg)));clear hst hbel;by_cases hlt:i<l.ps.length
  ·obtain⟨g,rfl,hvn9,hcap,lg,hcell⟩:=Hg (HPrm.o.Bf HBD.o).1 z4sa;clear hvn9;have p0:=hcell (i*2) _ (U9 l.ps i hlt).1;have p1:=hcell (i*2+1) _ (U9 l.ps i hlt).2;have hnm:(⟨(l.ps.take i).map Prod.snd,i,[],[]⟩:Em).local' l.ps[i].2=⟨(l.ps.take (i+1)).map Prod.snd,i+1,[],[]⟩:=by
    unfold Em.local';simp only[List.take_succ_eq_append_getElem hlt,List.map_append,List.map_cons,List.map_nil,List.length_map,List.length_take];congr 1
    omega
   have HNm:=A0 hnm;have HLoc:=A0 (fun(o:Obj)=>A56 (HSt.o.alloc o) z4za l.ps[i].2);have hlo9:=HSt.o.lo.1;clear hcell hnm;have HLo9:=A0 hlo9;clear hlo9;generalize l.ps[i]=prm at *;go_wp2_with fail
   refine(HLoc.o _).mono ?_;rintro r w7 ⟨rfl,G2,He⟩;rw[HNm.o]at G2;have HS7:=A0 G2;have HB7:=A0 (HBel.o.trans (((A2.refl _ wr).alloc HLo9.o _).trans He));clear G2 He;go_wp2;go_roundg (gk-1)
   case measure=>omega
   case rel=>exact⟨i+1,rfl,by omega,HS7.o,HB7.o⟩
  ·obtain rfl:i=l.ps.length:=by omega
   rw[List.take_length]at HSt;have hbk9:=(HBD.o.block b hD).trans HBlk.o;have d3:=A7 hbk9 3 _ rfl;have ld:=A6 hbk9;clear hbk9;go_wp2_with fail
   refine(HRun.o _ _ HSt.o HBD.o rfl rfl z4wa).mono ?_;rintro r w1 ⟨rfl,Ai,A1⟩;have A8:=A0 Ai;have A4:=A0 (HBel.o.trans A1);have hln1:=(Mb K.fns K.gl c).1 ⟨l.ps.map Prod.snd,l.ps.length,[],[]⟩;simp only[List.length_nil,Nat.zero_add]at hln1;clear Ai A1 d3 ld;generalize I0:em K.fns K.gl c 0 ⟨l.ps.map Prod.snd,l.ps.length,[],[]⟩=Bu at *;go_wp2_with fail
   refine(A8.o.step z4sa 43 0 0).mono ?_;rintro r w2 ⟨rfl,Az,A9⟩;have Aa:=A0 (A4.o.trans A9);have hlb2:=Az.lo.2.1;obtain⟨ρ3,la3,ln3,lc3,pa3,pn3,pc3,bl3,h3,hlb3⟩:=Az;obtain⟨sa3,sn3,sc3,hv3⟩:=h3.ew;have HCut:=A0 (Z0 (h3.Lj hv3) 0 (Nat.zero_le _) z4wa);have HTo:=A0 (fun(w9:World) hp=>h3.A02 0 hv3 (w':=w9) hp);rw[hlb3]at HTo;clear h3 hv3 A9;go_wp2_with fail
   refine HCut.o.mono ?_;rintro r w3 ⟨rfl,hp⟩;obtain⟨k1,k2⟩:=HTo.o w3 hp;have Ay:=A0 (Aa.o.trans k2);obtain⟨ρ4,la4,ln4,lc4,pa4,pn4,pc4,bl4,h4,hlb4⟩:=k1;obtain⟨sa4,sn4,sc4,hv4⟩:=h4.ew;have hbl4:bl4=[]:=by cases bl4 with
    | nil=>rfl
    | cons x y=>simp at hlb4
   subst hbl4;obtain⟨c0,c1,c2,c3,c4,c5,fz,lb⟩:=T7 hv4.cell;have HBD3:Hid (A2 D w w3):=Ae.o.trans (Ay.o.weak (fun g hg=>.inl (.inl hg)));have Eh:=(HBD3.o.block b hD).trans HBlk.o;obtain⟨d0,d1,d2,d3,fd,ld⟩:=Dt Eh;have hO3:=(Ay.o.block (w.heap.size+1) (.inr (.inr rfl))).trans HO0.o;have o0:=A7 hO3 0 _ rfl;have o1:=A7 hO3 1 _ rfl;have lo:=A6 hO3;have Ie:=(Ay.o.block w.heap.size (.inr (.inl rfl))).trans HR0.o;obtain⟨r0,r1,r2,r3,fr,lr⟩:=Dt Ie;have hle4:((Bu.step 43 0 0).cut 0).lps=[]:=by have:=h4.lps.len;exact List.length_eq_zero_iff.1 this.symm
   have hend:=fun v0 v1 v2 v3 o W=>Ang (D:=D) (slots:=slots) h4 hv4 w.heap.size (B2 HOwnS.o (fun g hg _=>Ay.o.block g (.inl (.inr hg)))) (fun g hg=>.inl (.inr hg)) HSD.o (fun g hg=>.inl (.inl hg)) (.inr (.inl rfl)) (fun hd=>by have:=hlw _ hd;omega) (fun e=>by have:=Bg HOwnS0.o _ e;omega) (HFr.o.keep HBD3.o) (HGr.o.Bf HBD3.o) v0 v1 v2 v3 o W;have hemF:K4 K.fns K.gl l c=⟨l.s,l.ps.length,((Bu.step 43 0 0).cut 0).slots,((Bu.step 43 0 0).cut 0).st⟩:=by unfold K4;rw[I0];rfl
   rw[hle4,show((Bu.step 43 0 0).cut 0).loc=[] from rfl]at hend;have HEnd:=A0 hend;have HSn:Hid (∀g,(Value.slice sa4 sn4 sc4).ownBlock=some g->¬D g):=fun g hg hd=>(hv4.Cp g hg).1 (h4.dx g (.inl (.inl hd)));have HEmF:=A0 hemF;clear hp k2 hend hle4 hemF HCut HTo Eh hO3 Ie h4 hv4 hlb4;go_wp2;go_region
   all_goals go_wp2
   all_goals
    refine bodyPost_ret (v:=.agg #[.string ⟨l.s.toArray⟩,.int .i64 (l.ps.length:Nat),.int .i64 (((Bu.step 43 0 0).cut 0).slots:Nat),.slice sa4 sn4 sc4]) (by simp[results,Tryz.results53,go_sem,lr,r0,r1,r2,r3]) rfl ?_;rw[HEmF.o];obtain⟨q1,q2,q3⟩:=HEnd.o _ _ _ _ _ _ rfl;exact⟨sa4,sn4,sc4,rfl,q1,HSn.o,q2,HBD3.o.trans q3⟩
end
section
open Go.RowKit
open Go.Deep (BT)
variable {K:EC} {D:Nat->Prop} {w w':World} {e:Em} {ρ:Nat->Nat} {la:Option Addr} {ln lc:Nat} {pa:Option Addr} {pn pc:Nat} {bl:List LB}
theorem Adj:(Tryz.prog.info? 103).map (fun i=>(i.zero,i.size,i.bytes))=some (some (.agg #[.string ⟨#[]⟩,.int .i64 0,.int .i64 0,.slice none 0 0]),4,56):=by kernel_rfl
def Lv(D:Nat->Prop)(w:World):List Fn->List Value->Prop
 | [],cs=>cs=[]
 | f::r,cs=>∃sa sn sc rest,cs=L9 f.name::.int .i64 (f.params:Nat)::.int .i64 (f.slots:Nat)::.slice sa sn sc::rest/\Cr D w 251 8 (.slice sa sn sc) f.steps.length (Ez f.steps)/\Lv D w r rest
theorem Lv.keep{D':Nat->Prop}(hk:∀g,D g->g<w.heap.size->w'.heap[g]?=w.heap[g]?/\D' g):∀{fs:List Fn} {cs:List Value},Lv D w fs cs->Lv D' w' fs cs:=by
 intro fs;induction fs with
 | nil=>intro cs h;exact h
 | cons f r ih=>
  intro cs h;obtain⟨sa,sn,sc,rest,e1,h1,h2⟩:=h;exact⟨sa,sn,sc,rest,e1,h1.keep hk,ih h2⟩
theorem Lv.app:∀{fs:List Fn} {cs:List Value},Lv D w fs cs->∀{f:Fn} {sa:Option Addr} {sn sc:Nat},Cr D w 251 8 (.slice sa sn sc) f.steps.length (Ez f.steps)->Lv D w (fs++[f]) (cs++[L9 f.name,.int .i64 (f.params:Nat),.int .i64 (f.slots:Nat),.slice sa sn sc]):=by
 intro fs;induction fs with
 | nil=>intro cs h f sa sn sc ho;rw[Lv]at h;subst h;exact⟨sa,sn,sc,[],rfl,ho,rfl⟩
 | cons g r ih=>
  intro cs h f sa sn sc ho;obtain⟨ta,tn,tc,rest,rfl,h1,h2⟩:=h;exact⟨ta,tn,tc,rest++_,rfl,h1,ih h2 ho⟩
theorem z2na {P:Prop} (h:P:=by
  intro g hg;rcases hD' g hg with h1|h1
  ·have:=h.prot g h1;exact⟨Nat.lt_of_lt_of_le this.1 hs,by rw[Bb this.1];exact this.2⟩
  ·exact⟨h1.2,Ho h1.1⟩):P:=h
theorem EC.Sv.zero(h:K.Sv D w e ρ la ln lc pa pn pc bl)(D':Nat->Prop)(hD':∀g,D' g->D g\/(w.heap.size<=g/\g<w'.heap.size))(hk:∀g,g<w.heap.size->¬D g->w'.heap[g]?=w.heap[g]?)(hs:w.heap.size<=w'.heap.size)
  (hfr:Ik D' w' K.fns K.fa K.fn K.fc) (hgr:Cr D' w' 9 1 (.slice K.ga K.gn K.gc) K.gl.length (Cz K.gl)):K.Sv D' w' e (Et ρ w.heap.size 0) la ln lc pa pn pc bl:=by
 obtain⟨sa,sn,sc,hv⟩:=h.ew;have hwb:=A6 hv.cell;have h4:=hv.Qm h.one.2;have hz:∀g,g<w.heap.size->ρ g≠0->w'.heap[g]?=w.heap[g]?:=fun g hg h0=>hk g hg (fun hd=>h0 (h.prot g hd).2);refine⟨⟨sa,sn,sc,(hz _ hwb z5fa).trans hv.cell,B2 hv.own (fun g hg hl=>hz g hl z5ea),fun hd=>hd.2.1 (by rw[Bb hwb];exact h.one.1),fun g hg=>⟨fun hd=>hd.2.2 (by rw[Bb (Bg hv.own g hg)];exact h4 g hg),(hv.Cp g hg).2⟩,fun g hg=>hg.1⟩,hfr,hgr,B2 h.lr (fun g hg hl=>hz g hl z6aa),fun g hg=>by rw[Bb (Bg h.lr g hg)];exact h.lro g hg,
  B2 h.pr (fun g hg hl=>hz g hl z68a),fun g hg=>by rw[Bb (Bg h.pr g hg)];exact h.pro g hg,h.lps.keep bl.length (fun g hl h5 _=>⟨hz g hl z4sa,Bb hl⟩) (Nat.le_refl _),?_,Ok h.one hwb z4sa,h.Bz⟩
 exact z2na
theorem Nf.drop:∀(i:Nat) (c:BT A3),Nf c->Nf (C2 i c):=by
 intro i;induction i with
 | zero=>intro c h;rw[show C2 0 c=c from by cases c <;> rfl];exact h
 | succ i ih=>
  intro c h;cases c with
  | nil=>exact h
  | node x y l c r=>exact ih r h.2
def EC.A18(K:EC)(s:Nm)(ga:Option Addr)(gn gc:Nat):EC:=⟨K.wb,K.te,K.fns,K.fa,K.fn,K.fc,K.gl++[s],ga,gn,gc⟩
theorem EC.Sv.Z2(h:K.Sv D w e ρ la ln lc pa pn pc bl)(D':Nat->Prop)(s:Nm)(ga:Option Addr)(gn gc:Nat)(hD':∀g,D' g->D g\/(w.heap.size<=g/\g<w'.heap.size)){sa:Option Addr}{sn sc:Nat}(hv:Hq (dX w.heap.size ρ) K.wb K.te w (.slice K.fa K.fn K.fc) (.slice K.ga K.gn K.gc) (.slice la ln lc) (.slice pa pn pc) e.slots e.st sa sn sc)
  (hcell:w'.heap[K.wb]?=some (.cells #[.slice K.fa K.fn K.fc,.slice ga gn gc,.slice la ln lc,.slice pa pn pc,.int .i64 (e.slots:Nat),.slice sa sn sc] K.te (0,0))) (hk:∀g,g<w.heap.size->g≠K.wb->¬D g->w'.heap[g]?=w.heap[g]?) (hs:w.heap.size<=w'.heap.size)
  (hfr:Ik D' w' K.fns K.fa K.fn K.fc) (hgr:Cr D' w' 9 1 (.slice ga gn gc) (K.gl++[s]).length (Cz (K.gl++[s]))) (hn:K.gl.length+1<=100000):(K.A18 s ga gn gc).Sv D' w' e (Et ρ w.heap.size 0) la ln lc pa pn pc bl:=by
 have hwb:=A6 hv.cell;have h4:=hv.Qm h.one.2;have hz:∀g,g<w.heap.size->ρ g≠0->ρ g≠1->w'.heap[g]?=w.heap[g]?:=fun g hg h0 h1=>hk g hg (fun e=>h1 (by rw[e];exact h.one.1)) (fun hd=>h0 (h.prot g hd).2);refine⟨⟨sa,sn,sc,hcell,B2 hv.own (fun g hg hl=>hz g hl z5ea z5ea),fun hd=>hd.2.1 (by show Et ρ w.heap.size 0 K.wb=1;rw[Bb hwb];exact h.one.1),fun g hg=>⟨fun hd=>hd.2.2 (by rw[Bb (Bg hv.own g hg)];exact h4 g hg),(hv.Cp g hg).2⟩,fun g hg=>hg.1⟩,hfr,hgr,B2 h.lr (fun g hg hl=>hz g hl z6aa z6aa),fun g hg=>by rw[Bb (Bg h.lr g hg)];exact h.lro g hg,
  B2 h.pr (fun g hg hl=>hz g hl z68a z68a),fun g hg=>by rw[Bb (Bg h.pr g hg)];exact h.pro g hg,h.lps.keep bl.length (fun g hl h5 _=>⟨hz g hl z4sa z4sa,Bb hl⟩) (Nat.le_refl _),?_,Ok (K:=K) h.one hwb z4sa,⟨h.Bz.1,by show(K.gl++[s]).length<=_;simp;omega⟩⟩
 exact z2na
theorem EC.Sv.start(hfr:Ik D w K.fns K.fa K.fn K.fc)(hg:K.gl=[]/\K.ga=none/\K.gn=0/\K.gc=0)(hc:w.heap[K.wb]?=some (.cells #[.slice K.fa K.fn K.fc,.slice none 0 0,.slice none 0 0,.slice none 0 0,.int .i64 ((0:Nat):Int),.slice none 0 0] K.te (0,0)))(hD:∀g,D g->g<w.heap.size/\g≠K.wb) :
  K.St [] D w ⟨[],0,[],[]⟩:=by
 refine⟨fun g=>if g=K.wb then 1 else 0,none,0,0,none,0,0,[],⟨⟨none,0,0,?_,World.ownsRow_nil _ _ _ _,fun hd=>hd.2.1 (if_pos rfl),fun g hg=>by simp[Value.ownBlock]at hg,fun g hg=>hg.1⟩,hfr,?_,World.ownsRow_nil _ _ _ _,fun g hg=>by simp[Value.ownBlock]at hg,World.ownsRow_nil _ _ _ _,fun g hg=>by simp[Value.ownBlock]at hg,trivial,fun g hg=>⟨(hD g hg).1,if_neg (hD g hg).2⟩,⟨if_pos rfl,fun g hg=>?_⟩,?_⟩,rfl⟩
 ·rw[hc,hg.2.1,hg.2.2.1,hg.2.2.2]
 ·rw[hg.1,hg.2.1,hg.2.2.1,hg.2.2.2];exact Om _ _ _ _
 ·have hg':(if g=K.wb then 1 else 0)=1:=hg;split at hg'
  ·assumption
  ·cases hg'
 ·rw[hg.1];exact⟨Nat.zero_le _,Nat.zero_le _⟩
end
section
open Go.RowKit
open Go.Deep (BT)
def eK(n:Nat)(σ:Nat->Nat):Nat->Prop:=fun g=>g<n/\σ g<5
theorem Ab6{σ:Nat->Nat}{n n':Nat}(h:n<=n'):eK n' (Et σ n 9)=eK n σ:=by
 funext g
 apply propext;unfold eK;by_cases hg:g<n
 ·rw[Bb hg];exact⟨fun⟨_,h1⟩=>⟨hg,h1⟩,fun⟨_,h1⟩=>⟨by omega,h1⟩⟩
 ·rw[Ho z4sa];exact⟨fun⟨_,h1⟩=>by omega,fun⟨h1,_⟩=>absurd h1 hg⟩
structure Ly (D : Nat -> Prop) (pb : Nat) (K : EC) (w : World) (e : Em) (σ : Nat -> Nat) (fs : List Fn) (ms : List Value) (ha : Option Addr) (hn hc : Nat) : Prop where
 st:K.St [] (eK w.heap.size σ) w e
 fr:Ik D w K.fns K.fa K.fn K.fc
 dz:∀g,D g->g<w.heap.size/\σ g=0
 gr:w.ownsRow 0 9 1 (.slice K.ga K.gn K.gc) K.gl.length (Cz K.gl)
 gro:∀g,(Value.slice K.ga K.gn K.gc).ownBlock=some g->σ g=3
 pbc:w.heap[pb]?=some (.cells #[.int .i64 0,.int .i64 0,.slice none 0 0,.slice ha hn hc] 101 (0,0))
 pbo:σ pb=1
 hr:w.ownsRow 0 103 4 (.slice ha hn hc) fs.length ms
 hro:∀g,(Value.slice ha hn hc).ownBlock=some g->σ g=2
 fns:Lv (fun g=>σ g=4) w fs ms
variable {D:Nat->Prop} {pb:Nat} {K:EC} {w w':World} {e e':Em} {σ:Nat->Nat} {fs:List Fn} {ms:List Value} {ha:Option Addr} {hn hc:Nat}
theorem z5la {P:Prop} (h:P:=by rw[h.pbo];omega):P:=h
theorem Ly.next(h:Ly D pb K w e σ fs ms ha hn hc)(hs:K.St [] (eK w.heap.size σ) w' e')(hb:A2 (eK w.heap.size σ) w w'):Ly D pb K w' e' (Et σ w.heap.size 9) fs ms ha hn hc:=by
 have hbd:A2 D w w':=hb.weak (fun g hg=>⟨(h.dz g hg).1,by rw[(h.dz g hg).2];omega⟩);have hk:∀g,g<w.heap.size->σ g<5->w'.heap[g]?=w.heap[g]?:=fun g h1 h2=>hb.block g ⟨h1,h2⟩;have lp:=A6 h.pbc;refine⟨by rw[Ab6 hb.size];exact hs,h.fr.keep hbd,fun g hg=>⟨Nat.lt_of_lt_of_le (h.dz g hg).1 hb.size,by rw[Bb (h.dz g hg).1];exact(h.dz g hg).2⟩,B2 h.gr (fun g hg hl=>hk g hl (by rw[h.gro g hg];omega)),fun g hg=>by rw[Bb (Bg h.gr g hg)];exact h.gro g hg,(hk pb lp z5la).trans h.pbc,by rw[Bb lp];exact h.pbo,B2 h.hr (fun g hg hl=>hk g hl (by rw[h.hro g hg];omega)),fun g hg=>by rw[Bb (Bg h.hr g hg)];exact h.hro g hg,h.fns.keep (fun g hg hl=>⟨hk g hl (by rw[hg];omega),?_⟩)⟩;show Et σ w.heap.size 9 g=4;rw[Bb hl];exact hg
theorem z5ba {P:Prop} (h:P:=by rw[(h.dz k hk).2];omega):P:=h
theorem z5ra {P:Prop} (h:P:=by rw[hk];omega):P:=h
theorem z5sa {P:Prop} (h:P:=by rw[h.gro k hk];omega):P:=h
theorem Ly.func(h:Ly D pb K w e σ fs ms ha hn hc){w1 w2:World}{f:Fn}{sa:Option Addr}{sn sc:Nat}(hs:K.St [] (fun g=>eK w.heap.size σ g\/(Value.slice sa sn sc).ownBlock=some g) w1 e)(hb:A2 (eK w.heap.size σ) w w1)
  (hrow:w1.ownsRow 0 251 8 (.slice sa sn sc) f.steps.length (Ez f.steps)) (hne:∀g,(Value.slice sa sn sc).ownBlock=some g->¬eK w.heap.size σ g) {g cap:Nat}
  (hown:w2.ownsRow 0 103 4 (.slice (some ⟨g,0,none⟩) (fs.length+1) cap) (fs.length+1) (ms++[L9 f.name,.int .i64 (f.params:Nat),.int .i64 (f.slots:Nat),.slice sa sn sc])) (hgr:w1.grownBy w2 (Value.slice ha hn hc).ownBlock) (hat:(Value.slice ha hn hc).ownBlock=some g\/w1.heap.size<=g) :
  (∃σ',Ly D pb K (w2.setCell ⟨pb,3,none⟩ (.slice (some ⟨g,0,none⟩) (fs.length+1) cap)) e σ' (fs++[f]) (ms++[L9 f.name,.int .i64 (f.params:Nat),.int .i64 (f.slots:Nat),.slice sa sn sc]) (some ⟨g,0,none⟩) (fs.length+1) cap)/\A2 D w (w2.setCell ⟨pb,3,none⟩ (.slice (some ⟨g,0,none⟩) (fs.length+1) cap)):=by
 classical
 have lp:=A6 h.pbc;have lp1:pb<w1.heap.size:=Nat.lt_of_lt_of_le lp hb.size;have hk1:∀k,k<w.heap.size->σ k<5->w1.heap[k]?=w.heap[k]?:=fun k h1 h2=>hb.block k ⟨h1,h2⟩;have hgl:g<w2.heap.size:=Bg hown g rfl;have hgpb:g≠pb:=by
  rcases hat with h1|h1
  ·intro e1;have:=h.hro g h1;rw[e1,h.pbo]at this;omega
  ·omega
 have hS:∀k,(Value.slice sa sn sc).ownBlock=some k->k<w1.heap.size:=fun k hk=>Bg hrow k hk;have hk3:∀k,k<w1.heap.size->k≠pb->(Value.slice ha hn hc).ownBlock≠some k->(w2.setCell ⟨pb,3,none⟩ (.slice (some ⟨g,0,none⟩) (fs.length+1) cap)).heap[k]?=w1.heap[k]?:=fun k h1 h2 h3=>(Below.heap_setCell _ _ _ _ (by exact h2)).trans (hgr.block k h1 (fun e=>h3 e.symm));obtain⟨σ',hσ⟩:∃σ':Nat->Nat,σ'=fun k=>if k=g then 2 else if(Value.slice sa sn sc).ownBlock=some k then 4 else if k<w.heap.size then σ k else 9:=⟨_,rfl⟩;have hgE:∀k,k<w.heap.size->σ k<5->σ k≠2->σ' k=σ k:=by
  intro k hk h5 h2;rw[hσ];show(if k=g then 2 else _)=σ k;rw[if_neg (fun e=>by rcases hat with h1|h1;exact h2 (by rw[e];exact h.hro g h1);have:=hb.size;omega),if_neg (fun e=>hne k e ⟨hk,h5⟩),if_pos hk]
 have Io:σ' g=2:=by rw[hσ];exact if_pos rfl
 have hgS:∀k,(Value.slice sa sn sc).ownBlock=some k->k≠g:=by
  intro k hk e1;subst e1;rcases hat with h1|h1
  ·exact hne k hk ⟨Bg h.hr k h1,by rw[h.hro k h1];omega⟩
  ·have:=hS k hk;omega
 have hS4:∀k,(Value.slice sa sn sc).ownBlock=some k->σ' k=4:=by
  intro k hk;rw[hσ];show(if k=g then 2 else _)=4;rw[if_neg (hgS k hk),if_pos hk]
 have hpb1:σ' pb=1:=(hgE pb lp z5la z5la).trans h.pbo;have hsz:=hgr.size;have hW:(w2.setCell ⟨pb,3,none⟩ (.slice (some ⟨g,0,none⟩) (fs.length+1) cap)).heap.size=w2.heap.size:=by simp[World.setCell]
 have hkeep:∀k,k<w.heap.size->σ k<5->σ k≠1->σ k≠2->(w2.setCell ⟨pb,3,none⟩ (.slice (some ⟨g,0,none⟩) (fs.length+1) cap)).heap[k]?=w.heap[k]?:=fun k h1 h5 h2 h3=>(hk3 k (Nat.lt_of_lt_of_le h1 hb.size) (fun e=>h2 (by rw[e];exact h.pbo)) (fun e=>h3 (h.hro k e))).trans (hk1 k h1 h5);have hbd:A2 D w (w2.setCell ⟨pb,3,none⟩ (.slice (some ⟨g,0,none⟩) (fs.length+1) cap)):=⟨hgr.os.trans hb.os,hgr.tape.trans hb.tape,hgr.output.trans hb.output,by rw[hW];have:=hb.size;omega,fun k hk=>hkeep k (h.dz k hk).1 z5ba z5ba z5ba⟩;have hdz:∀k,D k->k<(w2.setCell ⟨pb,3,none⟩ (.slice (some ⟨g,0,none⟩) (fs.length+1) cap)).heap.size/\σ' k=0:=fun k hk=>⟨by rw[hW];have:=(h.dz k hk).1;have:=hb.size;omega,(hgE k (h.dz k hk).1 z5ba z5ba).trans (h.dz k hk).2⟩;have hgr3:(w2.setCell ⟨pb,3,none⟩ (.slice (some ⟨g,0,none⟩) (fs.length+1) cap)).ownsRow 0 9 1 (.slice K.ga K.gn K.gc) K.gl.length (Cz K.gl):=B2 h.gr (fun k hk hl=>hkeep k hl z5sa z5sa z5sa);have hgro:∀k,(Value.slice K.ga K.gn K.gc).ownBlock=some k->σ' k=3:=fun k hk=>(hgE k (Bg h.gr k hk) z5sa z5sa).trans (h.gro k hk);refine⟨⟨σ',?_,h.fr.keep hbd,hdz,hgr3,hgro,?_,hpb1,?_,?_,?_⟩,hbd⟩
 ·obtain⟨ρ,la,ln,lc,pa,pn,pc,bl,hv,hlb⟩:=hs;refine⟨_,_,_,_,_,_,_,_,hv.zero _ ?_ ?_ (by rw[hW];exact hsz) ((h.fr.keep hbd).weak (fun k hk=>⟨(hdz k hk).1,by rw[(hdz k hk).2];omega⟩)) ⟨hgr3,fun k hk=>⟨Bg hgr3 k hk,by rw[hgro k hk];omega⟩⟩,hlb⟩
  ·intro k hk;obtain⟨k1,k2⟩:=hk;by_cases hl:k<w1.heap.size
   ·left;rw[hσ]at k2;replace k2:(if k=g then 2 else if(Value.slice sa sn sc).ownBlock=some k then 4 else if k<w.heap.size then σ k else 9)<5:=k2;split at k2
    ·rename_i e1;rcases hat with h1|h1
     ·exact .inl ⟨by rw[e1];exact Bg h.hr g h1,by rw[e1,h.hro g h1];omega⟩
     ·omega
    ·split at k2
     ·exact .inr (by assumption)
     ·split at k2
      ·exact .inl ⟨by assumption,k2⟩
      ·omega
   ·exact .inr ⟨by omega,k1⟩
  ·intro k hk hn;refine hk3 k hk (fun e1=>hn (.inl ⟨by rw[e1];exact lp,by rw[e1,h.pbo];omega⟩)) (fun e1=>hn (.inl ⟨Bg h.hr k e1,by rw[h.hro k e1];omega⟩))
 ·have h1:w2.heap[pb]?=w1.heap[pb]?:=hgr.block pb lp1 (fun e=>by have:=h.hro pb e.symm;rw[h.pbo]at this;omega);rw[heap_set ((h1.trans (hk1 pb lp z5la)).trans h.pbc)];simp
 ·rw[List.length_append];exact U3 hown _ _ (by simp only[Value.ownBlock,ne_eq,Option.some.injEq];exact hgpb)
 ·intro k hk;simp only[Value.ownBlock,Option.some.injEq]at hk;rw[←hk];exact Io
 ·refine Lv.app (h.fns.keep (fun k hk hl=>⟨hkeep k hl z5ra z5ra z5ra,?_⟩)) ⟨?_,fun k hk=>hS4 k hk⟩
  ·exact(hgE k hl z5ra z5ra).trans hk
  ·exact B2 hrow (fun k hk hl=>hk3 k hl (fun e1=>hne k hk ⟨by rw[e1];exact lp,by rw[e1,h.pbo];omega⟩) (fun e1=>hne k hk ⟨Bg h.hr k e1,by rw[h.hro k e1];omega⟩))
theorem Ly.Ad9(h:Ly D pb K w e σ fs ms ha hn hc){w2:World}(s:Nm){g cap:Nat}(D7:K.gl.length+1<=100000)
  (hown:w2.ownsRow 0 9 1 (.slice (some ⟨g,0,none⟩) (K.gl.length+1) cap) (K.gl.length+1) (Cz K.gl++[Ns s])) (hgr:w.grownBy w2 (Value.slice K.ga K.gn K.gc).ownBlock) (hat:(Value.slice K.ga K.gn K.gc).ownBlock=some g\/w.heap.size<=g) :
  (∃σ',Ly D pb (K.A18 s (some ⟨g,0,none⟩) (K.gl.length+1) cap) (w2.setCell ⟨K.wb,1,none⟩ (.slice (some ⟨g,0,none⟩) (K.gl.length+1) cap)) e σ' fs ms ha hn hc)/\A2 D w (w2.setCell ⟨K.wb,1,none⟩ (.slice (some ⟨g,0,none⟩) (K.gl.length+1) cap)):=by
 have lp:=A6 h.pbc;have hlo:=h.st.lo;have hwbE:¬eK w.heap.size σ K.wb:=hlo.2.2;have hgl:g<w2.heap.size:=Bg hown g rfl;have hgw:g≠K.wb:=by
  rcases hat with h1|h1
  ·intro e1;exact hwbE ⟨hlo.2.1,by rw[←e1,h.gro g h1];omega⟩
  ·have:=hlo.2.1;omega
 obtain⟨σ',hσ⟩:∃σ':Nat->Nat,σ'=fun k=>if k=g then 3 else if k<w.heap.size then σ k else 9:=⟨_,rfl⟩;have hgE:∀k,k<w.heap.size->σ k≠3->σ' k=σ k:=by
  intro k hk h2;rw[hσ];show(if k=g then 3 else _)=σ k;rw[if_neg (fun e=>by rcases hat with h1|h1;exact h2 (by rw[e];exact h.gro g h1);omega),if_pos hk]
 have hg3:σ' g=3:=by rw[hσ];exact if_pos rfl
 have hsz:=hgr.size;have hW:(w2.setCell ⟨K.wb,1,none⟩ (.slice (some ⟨g,0,none⟩) (K.gl.length+1) cap)).heap.size=w2.heap.size:=by simp[World.setCell]
 have hk3:∀k,k<w.heap.size->k≠K.wb->(Value.slice K.ga K.gn K.gc).ownBlock≠some k->(w2.setCell ⟨K.wb,1,none⟩ (.slice (some ⟨g,0,none⟩) (K.gl.length+1) cap)).heap[k]?=w.heap[k]?:=fun k h1 h2 h3=>(Below.heap_setCell _ _ _ _ (by exact h2)).trans (hgr.block k h1 (fun e=>h3 e.symm));have hkeep:∀k,k<w.heap.size->σ k<5->σ k≠3->(w2.setCell ⟨K.wb,1,none⟩ (.slice (some ⟨g,0,none⟩) (K.gl.length+1) cap)).heap[k]?=w.heap[k]?:=fun k h1 h5 h2=>hk3 k h1 (fun e=>hwbE ⟨hlo.2.1,by rw[←e];exact h5⟩) (fun e=>h2 (h.gro k e));have hbd:A2 D w (w2.setCell ⟨K.wb,1,none⟩ (.slice (some ⟨g,0,none⟩) (K.gl.length+1) cap)):=⟨hgr.os,hgr.tape,hgr.output,by rw[hW];exact hsz,fun k hk=>hkeep k (h.dz k hk).1 z5ba z5ba⟩;have hdz:∀k,D k->k<(w2.setCell ⟨K.wb,1,none⟩ (.slice (some ⟨g,0,none⟩) (K.gl.length+1) cap)).heap.size/\σ' k=0:=fun k hk=>⟨by rw[hW];have:=(h.dz k hk).1;omega,(hgE k (h.dz k hk).1 z5ba).trans (h.dz k hk).2⟩;have hnm:Cz (K.gl++[s])=Cz K.gl++[Ns s]:=by simp[Cz]
 have hgr3:(w2.setCell ⟨K.wb,1,none⟩ (.slice (some ⟨g,0,none⟩) (K.gl.length+1) cap)).ownsRow 0 9 1 (.slice (some ⟨g,0,none⟩) (K.gl.length+1) cap) (K.gl++[s]).length (Cz (K.gl++[s])):=by
  rw[hnm,List.length_append];exact U3 hown _ _ z6ca
 have hgro:∀k,(Value.slice (some ⟨g,0,none⟩) (K.gl.length+1) cap).ownBlock=some k->σ' k=3:=by
  intro k hk;simp only[Value.ownBlock,Option.some.injEq]at hk;rw[←hk];exact hg3
 refine⟨⟨σ',?_,h.fr.keep hbd,hdz,hgr3,hgro,?_,?_,?_,?_,?_⟩,hbd⟩
 ·obtain⟨ρ,la,ln,lc,pa,pn,pc,bl,hv,hlb⟩:=h.st;obtain⟨sa,sn,sc,hvv⟩:=hv.ew;refine⟨_,_,_,_,_,_,_,_,hv.Z2 _ s _ _ _ ?_ hvv ?_ ?_ (by rw[hW];exact hsz) ((h.fr.keep hbd).weak (fun k hk=>⟨(hdz k hk).1,by rw[(hdz k hk).2];omega⟩)) ⟨hgr3,fun k hk=>⟨Bg hgr3 k hk,by rw[hgro k hk];omega⟩⟩ D7,hlb⟩
  ·intro k hk;obtain⟨k1,k2⟩:=hk;by_cases hl:k<w.heap.size
   ·left;rw[hσ]at k2;replace k2:(if k=g then 3 else if k<w.heap.size then σ k else 9)<5:=k2;split at k2
    ·rename_i e1;rcases hat with h1|h1
     ·exact⟨hl,by rw[e1,h.gro g h1];omega⟩
     ·omega
    ·exact⟨hl,by simpa [hl]using k2⟩
   ·exact .inr ⟨by omega,k1⟩
  ·have h1:w2.heap[K.wb]?=w.heap[K.wb]?:=hgr.block K.wb hlo.2.1 (fun e=>hwbE ⟨hlo.2.1,by rw[h.gro K.wb e.symm];omega⟩);rw[heap_set (h1.trans hvv.cell)];simp
  ·intro k hk hne hnE;exact hk3 k hk hne (fun e1=>hnE ⟨hk,by rw[h.gro k e1];omega⟩)
 ·exact(hkeep pb lp z5la z5la).trans h.pbc
 ·exact(hgE pb lp z5la).trans h.pbo
 ·exact B2 h.hr (fun k hk hl=>hkeep k hl (by rw[h.hro k hk];omega) (by rw[h.hro k hk];omega))
 ·intro k hk;exact(hgE k (Bg h.hr k hk) (by rw[h.hro k hk];omega)).trans (h.hro k hk)
 ·refine h.fns.keep (fun k hk hl=>⟨hkeep k hl z5ra z5ra,?_⟩);exact(hgE k hl z5ra).trans hk
end
end Go.Proofs.YtjdlndhfaaolaaaGreatDoor
