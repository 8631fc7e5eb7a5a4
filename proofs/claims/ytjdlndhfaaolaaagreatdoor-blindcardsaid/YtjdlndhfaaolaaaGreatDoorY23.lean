import Derived.Test.YtjdlndhfaaolaaaGreatDoorY22
set_option maxHeartbeats 20000000
set_option linter.all false
namespace Go.Proofs.YtjdlndhfaaolaaaGreatDoor
section
set_option maxRecDepth 100000
open Go.RowKit
open Go.Deep (BT)
def Yl(ps:List (Nat×List UInt8)):∀(i:Nat) (h:i<ps.length),(My ps)[i*2]?=some (.n (ps[i].1))/\(My ps)[i*2+1]?=some (.string ⟨ps[i].2.toArray⟩):=by
 induction ps with
 | nil=>intro i h;simp at h
 | cons p r ih=>
  intro i h;have e:My (p::r)=Hw p.1::Ml p.2::My r:=by simp[My]
  rw[e];cases i with
  | zero=>exact⟨rfl,rfl⟩
  | succ i=>
   rw[show(i+1)*2=i*2+2 by omega,show i*2+2+1=i*2+1+2 by omega];exact ih i z5qa
def Fw.A8i{D:Nat->Prop}{cb te:Nat}{w:World}{ns:List Nm}{bk:List Nat}{wh:Nat}{inn:Bool}{f:Da}{rc:Nat}{fa:Option Addr}{fn fc:Nat}(h:Fw D cb te w ns bk wh inn f rc fa fn fc)(o:Obj):Fw (fun g=>D g\/g=w.heap.size) cb te (w.alloc o) ns bk wh inn f rc fa fn fc:=by
 obtain⟨na,nn,nc,ba,bn,bc,la,ln,lc,ls,h⟩:=h;have hk:∀g,g<w.heap.size->(w.alloc o).heap[g]?=w.heap[g]?:=fun g hg=>Ck _ _ _ hg;have hc:=A6 h.cell;refine⟨na,nn,nc,ba,bn,bc,la,ln,lc,ls,(hk cb hc).trans h.cell,Bc h.names (fun g _ hl=>hk g hl),Bc h.blocks (fun g _ hl=>hk g hl),Bc h.loops (fun g _ hl=>hk g hl),h.lsl,?_,?_,?_,?_,h.C1,?_⟩
 ·rintro(e|e)
  ·exact h.Ig e
  ·omega
 ·intro g hg;have:=Bs h.names g hg;exact⟨fun e=>by rcases e with e|e;exact(h.Dn g hg).1 e;omega,(h.Dn g hg).2⟩
 ·intro g hg;have:=Bs h.blocks g hg;exact⟨fun e=>by rcases e with e|e;exact(h.Hh g hg).1 e;omega,(h.Hh g hg).2⟩
 ·intro g hg;have:=Bs h.loops g hg;exact⟨fun e=>by rcases e with e|e;exact(h.Ko g hg).1 e;omega,(h.Ko g hg).2⟩
 ·rintro g (e|e)
  ·have:=h.lo g e;simp;omega
  ·simp;omega
def Fw.weak{D E:Nat->Prop}{cb te:Nat}{w:World}{ns:List Nm}{bk:List Nat}{wh:Nat}{inn:Bool}{f:Da}{rc:Nat}{fa:Option Addr}{fn fc:Nat}(h:Fw D cb te w ns bk wh inn f rc fa fn fc)(he:∀g,E g->D g):Fw E cb te w ns bk wh inn f rc fa fn fc:=by
 obtain⟨na,nn,nc,ba,bn,bc,la,ln,lc,ls,h⟩:=h;exact⟨na,nn,nc,ba,bn,bc,la,ln,lc,ls,h.cell,h.names,h.blocks,h.loops,h.lsl,fun e=>h.Ig (he _ e),fun g hg=>⟨fun e=>(h.Dn g hg).1 (he g e),(h.Dn g hg).2⟩,fun g hg=>⟨fun e=>(h.Hh g hg).1 (he g e),(h.Hh g hg).2⟩,fun g hg=>⟨fun e=>(h.Ko g hg).1 (he g e),(h.Ko g hg).2⟩,h.C1,fun g hg=>h.lo g (he g hg)⟩
def Amo{w:World}{fns:List (Nm×Nat)}{fa:Option Addr}{k:Nat}{s:Nm}{p:Option Addr}(h:Pa w fns fa k s p):(p=none/\decide (s∈(fns.take k).map (·.1))=false)\/((∃pb,p=some ⟨pb,0,none⟩)/\decide (s∈(fns.take k).map (·.1))=true):=by
 rcases h with⟨e,hn⟩|⟨i,hi,pb,pa,pc,hik,e,_,es,_⟩
 ·left;refine⟨e,O2 (fun hm=>?_)⟩;obtain⟨j,hj,hjk,e2⟩:=A7i.1 hm;exact hn j hjk hj e2
 ·right;exact⟨⟨pb,e⟩,Sa (A7i.2 ⟨i,hi,hik,es⟩)⟩
def z00a {P:Prop} (h:P:=by
  have HF1:=A0 hf1;obtain⟨na2,nn2,nc2,ba2,bn2,bc2,la2,Hv,lc2,ls2,Iv⟩:=Au.o.st;obtain⟨c0,c1,c2,c3,c4,c5,c6,c7,fz,lb⟩:=Qc Iv.cell;have HV2:=A0 Iv;have Ep:=(Ab.o.block b hD).trans hblk;obtain⟨d0,d1,d2,d3,fd,ld⟩:=Eo Ep;go_wp2_with fail
  have hs2c:Fw D K.cb K.te ((w2.setCell ⟨K.cb,1,none⟩ (.i ((rc:Int)+1))).setCell ⟨K.cb,5,none⟩ (.bool true)) cur [0] 0 true f1 (rc+1) K.fa K.fn K.fc:=by
   refine⟨na2,nn2,nc2,ba2,bn2,bc2,la2,Hv,lc2,ls2,HV2.o.put true f1 (rc+1) z4ma ?_ (fun g _ hne=>by rw[Bh _ _ _ _ z5ca,Bh _ _ _ _ z5ca]) z4za⟩;have:=heap_set (j:=5) (heap_set (j:=1) HV2.o.cell (.i ((rc:Int)+1))) (.bool true);simpa[Value.n,Value.i]using this
  have hb2c:A3 D w2 ((w2.setCell ⟨K.cb,1,none⟩ (.i ((rc:Int)+1))).setCell ⟨K.cb,5,none⟩ (.bool true)):=A3.set (p:=⟨K.cb,5,none⟩) (A3.set (p:=⟨K.cb,1,none⟩) (A3.refl _ _) hncb _) hncb _;refine(Xv hs2c z4ra).mono ?_;rintro e w3 ⟨rfl,Dc,Ay⟩;have Ba:Hid (A3 D w w3):=Ab.o.trans (hb2c.trans Ay);have Bu:Hid (K.St D w3 cur ([0]++[cur.length]) 0 true f1 (rc+1)):=⟨Dc,HSt.o.fr.keep Ba.o⟩;have Gc:=(Ba.o.block b hD).trans hblk;obtain⟨d0,d1,d2,d3,fd,ld⟩:=Eo Gc;go_wp2;go_loopg [46] l.ps.length (fun k v wr=>∃(i:Nat) (pcur:List Nm) (fl:Da),v=.i i/\i+k=l.ps.length/\pcur.length=i/\K.St D wr (cur++pcur) ([0]++[cur.length]) 0 true fl (rc+1)/\Jl (l.ps.drop i) pcur fl=Jl l.ps [] f1/\A3 D w wr)
  case atStart=>exact⟨0,[],f1,rfl,by omega,rfl,by rw[Lx];exact Bu.o,rfl,Ba.o⟩
  case round=>
   obtain⟨i,pcur,fl,rfl,hik,hpc,hst,hpf,hbel⟩:=hrel;have HStR:=A0 hst;have HPf:=A0 hpf;have HBelR:=A0 hbel;obtain⟨hloR,lcbR,_⟩:=hst.lo;by_cases hlt:i<l.ps.length
   ·obtain⟨g,rfl,_,hcapP,lg,hcell⟩:=G1 (hprm.Bv HBelR.o).1 z4ma;obtain⟨q0,q1⟩:=Yl l.ps i hlt;have y0:=hcell _ _ q0;have y1:=hcell _ _ q1;have HStep:=A0 (A8f l.ps i hlt pcur fl);generalize l.ps[i]=pp at *;have HPr:=A0 (HStR.o.st.A8i (.cells #[.n pp.1,.s pp.2] 148));have HCell:=A0 (Bp wr (.cells #[.n pp.1,.s pp.2] 148));go_wp2_with fail
    refine(z8 HPr.o pp.1 pp.2).mono ?_;rintro e w5 ⟨rfl,Df,Cz⟩;have hc5:=(Cz.block wr.heap.size (.inr rfl)).trans HCell.o;obtain⟨z0,z1,fz5,lz⟩:=K9 hc5;have Ez:Hid (A3 D wr w5):=A3.trans ((A3.refl D wr).alloc hloR _) (Cz.weak (fun g hg=>.inl hg));obtain⟨na5,nn5,nc5,ba5,bn5,bc5,la5,ln5,lc5,ls5,Kk⟩:=Df;have lcb5:=A6 Kk.cell;have HV5:=A0 (Kk.keep (w':=w5.drew) (fun _ _=>rfl) (Af _));have Kf:=A0 (Yw HV5.o.Nx (by rw[Rm,Ds];omega) ⟨pp.2.toArray⟩ z4ra);generalize wr.heap.size=tb5 at *;go_wp2;go_region_law (refine F9 rfl 137 _ _ rfl #[.pointer (some ⟨K.cb,2,none⟩),.s pp.2] (by kernel_rfl) Kf.o ?_;rintro e w6 ⟨rfl,hp6⟩;refine⟨_,rfl,?_⟩)
    all_goals
     obtain⟨k1,k2⟩:=HV5.o.A1z pp.2 (by rw[Ds];omega) hp6;have HS6:=A0 (k1.weak (E:=D) (fun g hg=>.inl hg));have HB6:Hid (A3 D w w6):=HBelR.o.trans (Ez.o.trans (A3.weak (D:=fun g=>D g\/g=tb5) ⟨k2.os,k2.tape,k2.output,k2.size,k2.block⟩ (fun g hg=>.inl hg)));go_wp2;go_roundg (gk-1)
     case measure=>omega
     case rel=>
      refine⟨i+1,pcur++[pp.2],_,rfl,by omega,by simp;omega,⟨by rw[←Gv];exact HS6.o,HSt.o.fr.keep HB6.o⟩,?_,HB6.o⟩;rw[←HPf.o,HStep.o]
   ·have hend:(pcur,fl)=Jl l.ps [] f1:=by rw[←HPf.o,A8e l.ps i z4ma]
    have HEnd:=A0 hend;have hbkR:=(HBelR.o.block b hD).trans hblk;obtain⟨d0,d1,d2,d3,fd,ld⟩:=Eo hbkR;go_wp2_with fail
    refine(HRun wr pcur fl HStR.o HBelR.o z4ma).mono ?_;rintro e w7 ⟨rfl,J9,Jv⟩;have HS7:=A0 J9;have HB7:Hid (A3 D w w7):=HBelR.o.trans Jv;go_wp2_with fail
    refine(Xt HS7.o.st z4ra).mono ?_;rintro e w8 ⟨rfl,hs8,hb8⟩;rw[Tj]at hs8;have HB8:Hid (A3 D w w8):=HB7.o.trans hb8;obtain⟨na8,nn8,nc8,ba8,bn8,bc8,la8,ln8,lc8,ls8,hv8⟩:=hs8;obtain⟨e0,e1,e2,e3,e4,e5,e6,e7,fe,le⟩:=Qc hv8.cell;have HV8:=A0 hv8;go_wp2;go_end0;have Dm:A3 D w8 (w8.setCell ⟨K.cb,5,none⟩ (.bool false)):=A3.set (p:=⟨K.cb,5,none⟩) (A3.refl _ _) hncb _;rw[HF1.o,←HEnd.o];refine⟨rfl,⟨⟨na8,nn8,nc8,ba8,bn8,bc8,la8,ln8,lc8,ls8,HV8.o.put false _ (rc+1) HV8.o.C1.2.2.2 ?_ (fun g _ hne=>Bh _ _ _ _ z5ca) z4za⟩,HSt.o.fr.keep (HB8.o.trans Dm)⟩,HB8.o.trans Dm⟩;have:=heap_set (j:=5) HV8.o.cell (.bool false);simpa using this):P:=h
def Age(K:CC)(l:A5)(c:BT A5)(hok:Dp (Me K) c)(D:Nat->Prop)(w:World)(cur:List Nm)(f:Da)(rc:Nat)(b:Nat)(pa:Option Addr)(pn pc:Nat)(va:Option Addr)(vn vc:Nat)(ks:List Value)
  (hst:K.St D w cur [0] 0 false f rc) (hrc:rc<K.fns.length) (hD:D b) (hblk:w.heap[b]?=some (.cells #[.n l.line,.s l.s,.slice pa pn pc,.slice va vn vc] 218 (0,0)))
  (hprm:Dj D w 148 2 (.slice pa pn pc) l.ps.length (My l.ps)) (hown:Dj D w 142 1 (.slice va vn vc) ks.length ks) (hrep:Ar D w c ks) (A2:cur.length+l.ps.length+bsize c<=600000) :
  Calls Tryz.prog 234 #[.p K.cb,.p b] w fun e w'=>e=.returned (.tuple #[])/\K.St D w' cur [0] 0 false (Bt K.fns c cur (Jl l.ps [] (F0 (decide (l.s∈(K.fns.take rc).map (·.1))) 3 l.line f)).1 0 true (Jl l.ps [] (F0 (decide (l.s∈(K.fns.take rc).map (·.1))) 3 l.line f)).2).2 (rc+1)/\A3 D w w':=by
 obtain⟨hlo,lcb,hncb⟩:=hst.lo;have hpn:pn=l.ps.length:=(Cm hprm.1).1;subst hpn;have hcb:K.cb≠b:=fun e=>hncb (by rw[e];exact hD);obtain⟨p,hp⟩:=hst.fr.find l.s rc z4ma;have HNm:=fun(n:Nat)=>A53 (hst.drewN n).fr rc z4ma l.s p hp;have hseen:=Amo hp;have hcap:=hst.fr.cap;have hlen:=hst.fr.len;have hfew:=hst.fr.C1;have HSt:=A0 hst;have HRun:=fun(W:World) (pcur:List Nm) (g:Da) (hs:K.St D W (cur++pcur) ([0]++[cur.length]) 0 true g (rc+1)) (hbd:A3 D w W) (hpl:pcur.length<=l.ps.length)=>A59 K c hok D W cur pcur [0] 0 true g (rc+1) va vn vc ks hs (hown.Bv hbd) (hrep.Bv hbd) (by rw[Ds];omega) z4qa z4ma;obtain⟨na,nn,nc,ba,bn,bc,la,ln,lc,ls,hv⟩:=hst.st;obtain⟨c0,c1,c2,c3,c4,c5,c6,c7,fz,lb⟩:=Qc hv.cell;obtain⟨d0,d1,d2,d3,fd,ld⟩:=Eo hblk;have hcap2:rc<=K.fc:=by omega
 rw[hlen]at c0;have hrl:rc<=K.fns.length:=by omega
 generalize hsq:decide (l.s∈(K.fns.take rc).map (·.1))=sq at *;go_in;go_wp2;go_quiet ((go_at_call 263;exact Calls.quiet_of_same (HNm _)))
 rcases hseen with⟨rfl,hsv⟩|⟨⟨pb,rfl⟩,hsv⟩
 ·have Au:Hid (K.St D (w.drewN nq) cur [0] 0 false (F0 sq 3 l.line f) rc):=by rw[hsv,Td];exact HSt.o.drewN nq
  have Ab:=A0 (Eb D w nq);generalize w.drewN nq=w2 at *;generalize hf1:F0 sq 3 l.line f=f1 at *;exact z00a
 ·have B5:=A0 (HSt.o.drewN nq);have A9:=Eb D w nq;have HBlk1:(w.drewN nq).heap[b]?=_:=hblk;generalize w.drewN nq=w1 at *;obtain⟨d0,d1,d2,d3,fd,ld⟩:=Eo HBlk1;subst hsv;go_wp2_with fail
  refine(R9 B5.o.st 3 l.line).mono ?_;rintro e w2 ⟨rfl,Bj,Ad⟩;have Au:=A0 (B5.o.next Bj Ad);have Ab:Hid (A3 D w w2):=A9.trans Ad;generalize hf1:F0 true 3 l.line f=f1 at *;exact z00a
def Wf.top{x y:Nat}{l:A5}{c r:BT A5}(h:Wf 4 (.node x y l c r)):(l.kd=20->Wf 1 c)/\(l.kd≠20->Wf 1 (nd l c)/\((22<=l.kd/\l.kd<=30)\/l.kd=21)):=by
 rcases h.2 with⟨h0,_⟩|⟨h0,_⟩|⟨h0,_⟩|⟨_,h1,h2⟩|⟨_,h1,h2⟩|⟨_,h1,h2⟩|⟨_,h1,h2⟩
 ·omega
 ·omega
 ·omega
 ·exact⟨fun e=>by omega,fun _=>⟨⟨trivial,.inr (.inr (.inr (.inl ⟨.inl rfl,h1,h2⟩)))⟩,by omega⟩⟩
 ·exact⟨fun e=>by omega,fun _=>⟨⟨trivial,.inr (.inr (.inr (.inr (.inl ⟨.inl rfl,h1,h2⟩))))⟩,by omega⟩⟩
 ·refine⟨fun e=>(by rw[e]at h1;cases h1),fun _=>⟨⟨trivial,.inr (.inr (.inr (.inr (.inr (.inl ⟨.inl rfl,h1,h2⟩)))))⟩,?_⟩⟩;unfold No at h1;simp only[Gz,F3,Jg,Fh]at h1;omega
 ·exact⟨fun _=>h2,fun e=>absurd h1 e⟩
def Ah1(K:CC)(l:A5)(c:BT A5)(hk:l.kd=20)(hok:Dp (Me K) c)(D:Nat->Prop)(w:World)(cur:List Nm)(f:Da)(rc:Nat)(v:Value)(ks:List Value)(hst:K.St D w cur [0] 0 false f rc)(hrc:rc<K.fns.length)(hn:Bx D w l v ks)(hr:Ar D w c ks)(A2:cur.length+l.ps.length+bsize c<=600000) :
  Calls Tryz.prog 192 #[.p K.cb,v] w fun e w'=>e=.returned (.tuple #[])/\K.St D w' cur [0] 0 false (Bt K.fns c cur (Jl l.ps [] (F0 (decide (l.s∈(K.fns.take rc).map (·.1))) 3 l.line f)).1 0 true (Jl l.ps [] (F0 (decide (l.s∈(K.fns.take rc).map (·.1))) 3 l.line f)).2).2 (rc+1)/\A3 D w w':=by
 obtain⟨hlo,lcb,hncb⟩:=hst.lo;unfold Bx at hn;rw[Ai]at hn;obtain⟨b,cs,rfl,hD,hb,hl⟩:=hn;have e1:Cw l.kd=143:=by rw[hk];rfl
 have e2:E4 l.kd=218:=by rw[hk];rfl
 rw[e1];rw[e2]at hb;unfold Di at hl;simp only[hk]at hl;obtain⟨ps,sl,rfl,ho,hpo⟩:=hl;obtain⟨va,vn,vc,rfl⟩:∃va vn vc,sl=.slice va vn vc:=Qn ho.1;obtain⟨pa,pn,pc,rfl⟩:∃va vn vc,ps=.slice va vn vc:=Qn hpo.1;have HC:=Age K l c hok D w cur f rc b pa pn pc va vn vc ks hst hrc hD hb hpo ho hr A2;have ld:=A6 hb;have Dy:=fun(v:Value) (w:World)=>Ek (P:=Tryz.prog) (xT:=142) Tryz.underlying143 v w;exact z17a
def Ahc(K:CC)(c:BT A5)(hwf:Wf 4 c)(hfns:K.fns=Cr c)(D:Nat->Prop)(w:World)(f:Da)(va:Option Addr)(vn vc:Nat)(ks:List Value)
  (hst:K.St D w [] [0] 0 false f 0) (hown:Dj D w 142 1 (.slice va vn vc) ks.length ks) (hrep:Ar D w c ks) (A2:bsize c<=400000) :
  Calls Tryz.prog 134 #[.p K.cb,.slice va vn vc] w fun e w'=>e=.returned (.tuple #[])/\(∃cn rc,K.St D w' cn [0] 0 false (G2 K.fns c [] [] f) rc)/\A3 D w w':=by
 have hvn:vn=ks.length:=(Cm hown.1).1;subst hvn;have HSt0:=A0 hst;have HOwn:=A0 hown;have HRep:=A0 hrep;have hlen:=hrep.len;have HLen:=A0 hlen;have hls:=Qb c;have hkl:ks.length<=700000:=by omega
 have HFns:=A0 hfns;have HWf:=A0 hwf;clear hst hown hrep hlen hfns hwf;go_in;go_wp2;go_loopg [8] ks.length (fun k v wr=>∃(i n:Nat) (cn:List Nm) (fl:Da),v=.i i/\i+k=ks.length/\cn.length+bsize (Cp i c)<=bsize c/\K.St D wr cn [0] 0 false fl n/\K.fns.drop n=Cr (Cp i c)/\G2 K.fns (Cp i c) ((K.fns.take n).map (·.1)) cn fl=G2 K.fns c [] [] f/\A3 D w wr)
 case atStart=>exact⟨0,0,[],f,rfl,by omega,by rw[show Cp 0 c=c from by cases c <;> rfl];simp,HSt0.o,HFns.o,rfl,A3.refl _ _⟩
 case round=>
  clear HSt0;obtain⟨i,n,cn,fl,rfl,hik,hcn,hst,hdr,hse,hbel⟩:=hrel;have HSt:=A0 hst;have HSe:=A0 hse;have HBel:=A0 hbel;have HDr:=A0 hdr;clear hst hse hbel hdr;by_cases hlt:i<ks.length
  ·have hr:=HRep.o.Bv HBel.o;obtain⟨x,y,l,cc,r,hd,v,ks',hv,hn,hrk⟩:=Ar.at' i c ks hr z58a;obtain⟨g,rfl,_,hcap,lg,hcell⟩:=G1 (HOwn.o.Bv HBel.o).1 z4ma;have d0:=hcell i v hv;have hdn:=A03 i c;have hsz:bsize (Cp i c)=bsize (nd l cc)+bsize r:=by rw[hd,Cf,bsize]
   have hnds:=Cf l cc;have hds:=Ra i c x y l cc r hd;have HDs:=A0 hds;have hw4:Wf 4 (.node x y l cc r):=by have:=Wf.drop 4 i c HWf.o;rw[hd]at this;exact this
   by_cases h20:l.kd=20
   ·obtain⟨hnl,hnf,hdr',htk⟩:=Ajm (HDr.o.trans ((N3 Cr hd).trans (A6a x y l cc r h20)));have HDr':=A0 hdr';have HC:=A0 (Ah1 K l cc h20 ((A9f K cc z4ma).1 (hw4.top.1 h20)) D wr cn fl n v ks' HSt.o hnl hn hrk z4ma);have HNx:=(N3 (fun q=>G2 K.fns q ((K.fns.take n).map (·.1)) cn fl) hd).symm.trans HSe.o;have HFn:=Ar5 K.fns x y l cc r ((K.fns.take n).map (·.1)) cn fl h20;have HTk:=A0 htk;clear hr hd hv hn hrk hcell hds hw4 hnf hdr' htk;go_wp2_with fail
    refine HC.o.mono ?_;rintro e w1 ⟨rfl,Ax,A2⟩;have B5:=A0 Ax;have A9:Hid (A3 D w w1):=HBel.o.trans A2;clear Ax A2;go_wp2;go_roundg (gk-1)
    case measure=>omega
    case rel=>exact⟨i+1,n+1,cn,_,rfl,by omega,by rw[HDs.o];omega,B5.o,by rw[HDs.o];exact HDr'.o,by rw[HDs.o,HTk.o,←HNx,HFn],A9.o⟩
   ·have Fe:=(hw4.top.2 h20).1;have HC:=A0 (((A9f K (nd l cc) z4ma).1 Fe).1 D wr [] cn [] 0 false fl n v ks' HSt.o hn hrk (by simp only[Se];omega) (by simp only[Jo];omega) z4ma);have hnil:Bt K.fns (.node x y l cc .nil) [] cn 0 false fl=Bt K.fns (nd l cc) [] cn 0 false fl:=Lr K.fns x y l cc [] cn 0 false fl;have hsx:=((N3 (fun q=>G2 K.fns q ((K.fns.take n).map (·.1)) cn fl) hd).symm.trans HSe.o);rw[Ar7 K.fns x y l cc r _ cn fl h20,hnil]at hsx;have HSx:=A0 hsx;have HF2:=(HDr.o.trans (N3 Cr hd)).trans (A6b x y l cc r h20);have hcl:=A8x K.fns (nd l cc) [] cn 0 false fl;clear hr hd hv hn hrk hcell hds hw4 Fe hnil hsx;go_wp2_with fail
    refine HC.o.mono ?_;rintro e w1 ⟨rfl,Ax,A2⟩;have B5:=A0 Ax;have A9:Hid (A3 D w w1):=HBel.o.trans A2;clear Ax A2;go_wp2;go_roundg (gk-1)
    case measure=>omega
    case rel=>exact⟨i+1,n,(Bt K.fns (nd l cc) [] cn 0 false fl).1,_,rfl,by omega,by rw[HDs.o];omega,B5.o,by rw[HDs.o];exact HF2,by rw[HDs.o];exact HSx.o,A9.o⟩
  ·have HE:Hid (fl=G2 K.fns c [] [] f):=by
    exact z0pa
   go_wp2;go_end0;rw[←HE.o];exact⟨rfl,⟨cn,n,HSt.o⟩,HBel.o⟩
def Afy(K:CC)(c:BT A5)(hwf:Wf 4 c)(hfns:K.fns=Cr c)(D:Nat->Prop)(w:World)(f:Da)(va:Option Addr)(vn vc:Nat)(ks:List Value)
  (hst:K.St D w [] [] 0 false f 0) (hown:Dj D w 142 1 (.slice va vn vc) ks.length ks) (hrep:Ar D w c ks) (A2:bsize c<=400000) :
  Calls Tryz.prog 80 #[.p K.cb,.slice va vn vc] w fun e w'=>e=.returned (.tuple #[])/\(∃cn bk rc,K.St D w' cn bk 0 false (G2 K.fns c [] [] f) rc)/\A3 D w w':=by
 have HO:=Xv hst.st z4ra;have HRun:=fun(W:World) (hs:K.St D W [] [0] 0 false f 0) (hbd:A3 D w W)=>Ahc K c hwf hfns D W f va vn vc ks hs (hown.Bv hbd) (hrep.Bv hbd) A2;go_in;go_wp2_with fail
 refine HO.mono ?_;rintro e w1 ⟨rfl,Ax,A2⟩;have B5:=hst.next Ax A2;go_wp2_with fail
 refine(HRun _ B5 A2).mono ?_;rintro e w2 ⟨rfl,⟨cn,rc,Bj⟩,Ad⟩;have Ab:A3 D w w2:=A2.trans Ad;go_wp2_with fail
 refine(Xt (bk:=[]) (p:=0) Bj.st (De _)).mono ?_;rintro e w3 ⟨rfl,Dc,Ay⟩;have Bu:=Bj.next Dc Ay;have Ba:A3 D w w3:=Ab.trans Ay;go_wp2;go_end0;exact⟨rfl,⟨_,_,_,Bu⟩,Ba⟩
def Aki:(Tryz.prog.info? 143).map (fun i=>(i.zero,i.size,i.bytes))=some (some (.pointer none),1,8):=by kernel_rfl
def A3y(D:Nat->Prop)(w:World)(p:Nm×Nat)(v:Value):Prop:=∃pb pa pc,v=.p pb/\D pb/\pb<w.heap.size/\w.cell? ⟨pb,1,none⟩=some (.s p.1)/\w.cell? ⟨pb,2,none⟩=some (.slice pa p.2 pc)
def Ab3(D:Nat->Prop)(c:BT A5)(nk:Nat)(w:World)(k:Nat)(v3 v13:Value)(wr:World):Prop:=
 ∃(i:Nat) (fs:List (Nm×Nat)) (fa:Option Addr) (fn fc:Nat) (ps:List Value),v3=.slice fa fn fc/\v13=.i i/\i+k=nk/\Cr c=fs++Cr (Cp i c)/\fs.length<=i/\wr.ownsRow 0 143 1 (.slice fa fn fc) ps.length ps/\ps.length=fs.length/\
  (∀j (h:j<fs.length),∃v,ps[j]?=some v/\A3y D w fs[j] v)/\(∀g,(Value.slice fa fn fc).ownBlock=some g->w.heap.size<=g)/\Bw w wr
def Ab2(D:Nat->Prop)(c:BT A5)(w:World)(e:Ending)(w':World):Prop:=
 ∃fa fn fc,e=.returned (.slice fa fn fc)/\Bw w w'/\Jq (fun g=>D g\/(Value.slice fa fn fc).ownBlock=some g) w' (Cr c) fa fn fc/\(∀g,(Value.slice fa fn fc).ownBlock=some g->w.heap.size<=g/\g<w'.heap.size)
def A8j{kd:Nat}(h:(22<=kd/\kd<=30)\/kd=21):Cw kd≠143:=by
 have h9:kd=21\/kd=22\/kd=23\/kd=24\/kd=25\/kd=26\/kd=27\/kd=28\/kd=29\/kd=30:=by omega
 rcases h9 with e|e|e|e|e|e|e|e|e|e <;> (subst e;decide)
def A6f(c:BT A5)(hwf:Wf 4 c)(D:Nat->Prop)(w:World)(pb:Nat)(va:Option Addr)(vn vc:Nat)(ks:List Value)(hpb:w.heap[pb]?=some (.cells #[.slice va vn vc] 140 (0,0)))
  (hown:Dj D w 142 1 (.slice va vn vc) ks.length ks) (hrep:Ar D w c ks) (A2:bsize c<=90000) :
  Calls Tryz.prog 52 #[.p pb] w (Ab2 D c w):=by
 have hvn:vn=ks.length:=(Cm hown.1).1;subst hvn;have c0:=A4 hpb 0 _ rfl;have lp:=A6 hpb;have HOwn:=A0 hown;have HRep:=A0 hrep;have hlen:=hrep.len;have HLen:=A0 hlen;have hls:=Qb c;have hkl:ks.length<=90000:=by omega
 have HWf:=A0 hwf;clear hown hrep hlen hwf hpb;go_in;go_wp2;go_loopg [3,13] ks.length (fun k v3 v13 wr=>Ab3 D c ks.length w k v3 v13 wr)
 case atStart=>exact⟨0,[],none,0,0,[],rfl,rfl,by omega,rfl,Af _,M9 _ _ _ _,rfl,fun j h=>by simp at h,by simp[Value.ownBlock],Al _ _⟩
 case round=>
  obtain⟨i,fs,fa,fn,fc,ps,rfl,rfl,hik,hfs,hfl,hro,hpl,hat,hlo,hbel⟩:=hrel;have HFs:=A0 hfs;have HRo:=A0 hro;have HAt:=A0 hat;have HLo:=A0 hlo;have HBel:=A0 hbel;have HPl:=A0 hpl;clear hfs hro hat hlo hbel;by_cases hlt:i<ks.length
  ·obtain⟨x,y,l,cc,r,hd,v,ks',hv,hn,hrk⟩:=Ar.at' i c ks HRep.o z58a;obtain⟨g,rfl,_,hcap,lg,hcell⟩:=G1 HOwn.o.1 z4ma;have d0:=(D9 (HBel.o.block g lg)).trans (hcell i v hv);have lg2:g<wr.heap.size:=Cb lg HBel.o.size;have hds:=Ra i c x y l cc r hd;have HDs:=A0 hds;have hw4:Wf 4 (.node x y l cc r):=by have:=Wf.drop 4 i c HWf.o;rw[hd]at this;exact this
   by_cases h20:l.kd=20
   ·unfold Bx at hn;rw[Ai]at hn;obtain⟨b,cs,rfl,hD,hb,hl⟩:=hn;have e1:Cw l.kd=143:=by rw[h20];rfl
    rw[e1]at d0;unfold Di at hl;simp only[h20]at hl;obtain⟨pp,sl,rfl,_,hpo⟩:=hl;obtain⟨pa,pn,pc,rfl⟩:∃va vn vc,pp=.slice va vn vc:=Qn hpo.1;have hpn:pn=l.ps.length:=(Cm hpo.1).1;have HFnA:A3y D w (l.s,l.ps.length) (.p b):=by
     refine⟨b,pa,pc,rfl,hD,A6 hb,A4 hb 1 _ rfl,?_⟩;have:=A4 hb 2 _ rfl;rw[hpn]at this;exact this
    have HFx:Hid (Cr c=(fs++[(l.s,l.ps.length)])++Cr (Cp (i+1) c)):=by
     show _=_;rw[HFs.o,hd,A6a x y l cc r h20,hds];simp
    have ta:=fun(v:Value) (w:World)=>Ek (P:=Tryz.prog) (xT:=142) Tryz.underlying143 v w;have hrow:=HRo.o;have hpl2:ps.length<=90000:=by omega
    clear hcell hd hv hrk hds hw4 e1 h20 hb hpo hpn hpl;unfold Cs at d0;go_wp2_with (at_builtin;refine Lh wr #[.p b] 143 rfl (.tmp 23) (.tmp 25) 129 rfl 0 1 8 (.pointer none) Tryz.underlying129 Aki rfl z4ma (.slice fa fn fc) ps.length ps rfl rfl hrow rfl (fun u hu=>by simp at hu;rw[hu];rfl) z4ma z4ma (De _) ?_;intro g2 cap2 w2 hown2 hgrow2 hat2 Jw)
    have hsz:=HBel.o.size;go_roundg (gk-1)
    case measure=>omega
    case rel=>
     refine⟨i+1,fs++[(l.s,l.ps.length)],some ⟨g2,0,none⟩,ps.length+1,cap2,ps++[.p b],rfl,rfl,by omega,HFx.o,by simp;omega,by simpa using hown2,by simp[HPl.o],?_,?_,?_⟩
     ·intro j hj;by_cases hjl:j<fs.length
      ·obtain⟨v,k1,k2⟩:=HAt.o j hjl;refine⟨v,?_,by rw[A3b hjl];exact k2⟩;rw[Ou (by rw[HPl.o];exact hjl)];exact k1
      ·have hje:j=fs.length:=by simp at hj;omega
       subst hje;refine⟨_,?_,by rw[A3c (Af _)];simpa using HFnA⟩;rw[Th (by rw[HPl.o];exact Af _),HPl.o];simp
     ·intro k hk;simp only[Value.ownBlock,Cg]at hk;rw[←hk];rcases hat2 with h|h
      ·exact HLo.o g2 h
      ·omega
     ·exact⟨hgrow2.os.trans HBel.o.os,hgrow2.tape.trans HBel.o.tape,hgrow2.output.trans HBel.o.output,Fu hsz hgrow2.size,fun k hk=>(hgrow2.block k z4ma (fun e=>by have:=HLo.o k e.symm;omega)).trans (HBel.o.block k hk)⟩
   ·have hk:=(hw4.top.2 h20).2;unfold Bx at hn;rw[Ai]at hn;obtain⟨b,cs,rfl,hD,hb,hl⟩:=hn;have HFx:Hid (Cr c=fs++Cr (Cp (i+1) c)):=by
     show _=_;rw[HFs.o,hd,A6b x y l cc r h20,hds]
    have hpt:=A8j hk;have ta:=fun(v:Value) (w:World)=>Bl (P:=Tryz.prog) (t:=Cw l.kd) (T:=143) (xT:=142) (z:=.pointer none) Tryz.underlying143 (by kernel_rfl) hpt v w;clear hcell hd hv hrk hds hw4 h20 hb hl hk hpt hpl;generalize Cw l.kd=tt at *;go_wp2;go_roundg (gk-1)
    case measure=>omega
    case rel=>exact⟨i+1,fs,fa,fn,fc,ps,rfl,rfl,by omega,HFx.o,by omega,HRo.o,HPl.o,HAt.o,HLo.o,HBel.o⟩
  ·have hfn:fn=ps.length:=(Cm HRo.o).1;have hcp:=Amz HRo.o;have HE:Cr c=fs:=by
    show _=_;have h0:Cp i c=.nil:=by
     exact z1na
    have:=HFs.o;rw[h0]at this;simpa [Cr]using this
   go_wp2;go_ret;refine⟨fa,fn,fc,rfl,HBel.o,?_,fun g hg=>⟨HLo.o g hg,Bs HRo.o g hg⟩⟩;rw[HE];refine⟨by rw[hfn,HPl.o],by omega,by omega,fun j hj=>?_⟩;obtain⟨v,k1,pb',pa,pc,rfl,k2,k3,k4,k5⟩:=HAt.o j hj;obtain⟨g,hfa,_,_,lg,hcell⟩:=G1 HRo.o z4ma;have hsz:=HBel.o.size;refine⟨g,pb',pa,pc,hfa,.inr (by rw[hfa];rfl),lg,hcell j _ k1,.inl k2,by omega,(D9 (HBel.o.block pb' k3)).trans k4,(D9 (HBel.o.block pb' k3)).trans k5⟩
def Agj{w:World}{fa:Option Addr}{fn fc:Nat}:Fw (fun g=>g<w.heap.size) w.heap.size 213 (w.alloc (.cells #[.slice fa fn fc,.i 0,.slice none 0 0,.slice none 0 0,.slice none 0 0,.bool false,.i 0,.i 0] 213)) [] [] 0 false (0,0) 0 fa fn fc:=by
 refine⟨none,0,0,none,0,0,none,0,0,[],Bp _ _,M9 _ _ _ _,M9 _ _ _ _,M9 _ _ _ _,rfl,by omega,?_,?_,?_,by simp,fun g hg=>by simp;omega⟩;all_goals intro g hg;simp[Value.ownBlock]at hg
def Afv(c:BT A5)(hwf:Wf 4 c)(D:Nat->Prop)(w:World)(pb:Nat)(va:Option Addr)(vn vc:Nat)(ks:List Value)(hpb:w.heap[pb]?=some (.cells #[.slice va vn vc] 140 (0,0)))
  (hown:Dj D w 142 1 (.slice va vn vc) ks.length ks) (hrep:Ar D w c ks) (A2:bsize c<=90000) :
  Calls Tryz.prog 51 #[.p pb] w fun e w'=>e=.returned (.agg #[.n ((G2 (Cr c) c [] [] (0,0)).1),.n ((G2 (Cr c) c [] [] (0,0)).2)])/\Bw w w':=by
 have lp:=A6 hpb;have hk1:∀g,D g->g<w.heap.size->(w.alloc (.cells #[.i 0,.i 0] 50)).heap[g]?=w.heap[g]?/\(D g/\g<w.heap.size):=fun g hg hl=>⟨Ck _ _ _ hl,hg,hl⟩;have HC:=A6f c hwf (fun g=>D g/\g<w.heap.size) (w.alloc (.cells #[.i 0,.i 0] 50)) pb va vn vc ks (alloc_old hpb) (hown.keep hk1) (Ar.keep hk1 _ _ hrep) A2;go_in;go_wp2_with fail
 refine HC.mono ?_;rintro e w2 ⟨fa,fn,fc,rfl,Ad,hfn,hrow⟩;have G7:=Gn Ad (Bp w (.cells #[.i 0,.i 0] 50));have hP2:=Gn Ad (alloc_old (o':=.cells #[.i 0,.i 0] 50) hpb);have Ab:Bw w w2:=Ib (Ah (Al _ _) (Af _) _) (Ad.mono z4ra);have ls2:=Ad.size;rw[K3]at ls2;have c0:=A4 hP2 0 _ rfl;have lp2:=A6 hP2;have HK:(⟨w2.heap.size,213,Cr c,fa,fn,fc⟩:CC).St (fun g=>g<w2.heap.size) (w2.alloc (.cells #[.slice fa fn fc,.i 0,.slice none 0 0,.slice none 0 0,.slice none 0 0,.bool false,.i 0,.i 0] 213)) [] [] 0 false (0,0) 0:=by
  refine⟨Agj,?_⟩;have h1:Jq (fun g=>g<w2.heap.size) w2 (Cr c) fa fn fc:=by
   refine⟨hfn.len,hfn.C1,hfn.cap,fun i hi=>?_⟩;obtain⟨g,pb',pa,pc,e1,_,e3,e4,_,e6,e7,e8⟩:=hfn.at' i hi;exact⟨g,pb',pa,pc,e1,e3,e3,e4,e6,e6,e7,e8⟩
  exact h1.keep ⟨rfl,rfl,rfl,by simp,fun k hk=>Ck _ _ _ hk⟩
 have D4:∀g,D g->g<w.heap.size->(w2.alloc (.cells #[.slice fa fn fc,.i 0,.slice none 0 0,.slice none 0 0,.slice none 0 0,.bool false,.i 0,.i 0] 213)).heap[g]?=w.heap[g]?/\g<w2.heap.size:=fun g hg hl=>⟨(Ck _ _ _ z4ma).trans (Ab.block g hl),by omega⟩;have HRun:=Afy ⟨w2.heap.size,213,Cr c,fa,fn,fc⟩ c hwf rfl _ _ (0,0) va vn vc ks HK (hown.keep D4) (Ar.keep D4 _ _ hrep) z4ma;go_wp2_with fail
 refine HRun.mono ?_;rintro e w3 ⟨rfl,⟨cn,bk,rc,Dc⟩,Ay⟩;obtain⟨na,nn,nc,ba,bn,bc,la,ln,lc,ls,hv⟩:=Dc.st;obtain⟨y0,y1,y2,y3,y4,y5,y6,y7,fy,ly⟩:=Qc hv.cell;have Ki:=(Ay.block w.heap.size z4ma).trans (alloc_old (o':=.cells #[.slice fa fn fc,.i 0,.slice none 0 0,.slice none 0 0,.slice none 0 0,.bool false,.i 0,.i 0] 213) G7);obtain⟨z0,z1,fz,lz⟩:=K9 Ki;have ls3:=Ay.size;rw[K3]at ls3;have Ba:Bw w w3:=⟨Ay.os.trans Ab.os,Ay.tape.trans Ab.tape,Ay.output.trans Ab.output,by omega,fun k hk=>(Ay.block k z4ma).trans ((Ck _ _ _ z4ma).trans (Ab.block k hk))⟩;generalize hfl:G2 (Cr c) c [] [] (0,0)=fl at *;go_wp2;refine B9 (v:=.agg #[.n fl.1,.n fl.2]) (by simp[results,Tryz.results51,go_sem,z0,z1]) rfl ⟨by rw[hfl],?_⟩;repeat (first|exact Ba|refine Ah ?_ z4qa _|refine B0 ?_ z4ra _|refine B8 ?_)
