import Derived.Test.YtjdlndhfaaolaaaGreatDoorT20
set_option maxHeartbeats 20000000
namespace Go.Proofs.YtjdlndhfaaolaaaGreatDoor
section
set_option maxRecDepth 100000
open Go.RowKit
open Go.Deep (BT)
theorem Ad0{w:World}{fns:List (Nm×Nat)}{fa:Option Addr}{s:Nm}{p:Option Addr}(h:Mo w fns fa fns.length s p)(n:Nat) :
  (p=none/\O8 fns s n=true)\/(∃pb pa m pc,p=some ⟨pb,0,none⟩/\O8 fns s n=(m !=n)/\pb<w.heap.size/\w.cell? ⟨pb,2,none⟩=some (.slice pa m pc)):=by
 rcases h with⟨e,hn⟩|⟨i,hi,pb,pa,pc,_,e,_,es,hn,lp,c2⟩
 ·left;refine⟨e,?_⟩;unfold O8;rw[Acz fns s (fun j hj=>hn j hj hj)]
 ·right;refine⟨pb,pa,fns[i].2,pc,e,?_,lp,c2⟩;unfold O8;rw[Acy fns s i hi es hn]
theorem z14a {P:Prop} (h:P:=by
  generalize w1.drewN nq=w2 at *;have d0:=A2 HBlk2.o 0 _ rfl;have d2:=A2 HBlk2.o 2 _ rfl;have ld:=A5 HBlk2.o;go_wp2_with fail
  refine(Oa Aj.o.st 3 line).mono ?_;rintro e w3 ⟨rfl,Ca,Ak⟩;have Bg:=A0 (Aj.o.next Ca Ak);have Ay:Hid (A3 D w w3):=Aa.o.trans Ak;have HBlk3:=A0 ((Ak.block b hD).trans HBlk2.o);clear Ca Ak d0 d2 ld;have d2:=A2 HBlk3.o 2 _ rfl;have ld:=A5 HBlk3.o;go_wp2_with fail
  refine(HRun.o _ _ Bg.o Ay.o).mono ?_;rintro e w4 ⟨rfl,Fi,Ba⟩;have Er:=A0 Fi;have Cn:Hid (A3 D w w4):=Ay.o.trans Ba;clear Fi Ba;go_wp2;go_end0;exact⟨rfl,Er.o,Cn.o⟩):P:=h
theorem z3ca {P:Prop} (h:P:=by
  go_wp2;go_end0;exact⟨rfl,Er.o,Cn.o⟩):P:=h
theorem A9q(K:CC)(c:BT A6)(hok:D8 (Fz K) c)(hwf:Wf 0 c)(line:Nat)(s:Nm)(D:Nat->Prop)(w:World)(outer cur:List Nm)(bk:List Nat)(wh:Nat)(inn:Bool)(f:Cw)(rc:Nat)(b:Nat)(va:Option Addr)(vn vc:Nat)(ks:List Value)
  (hst:K.St D w (outer++cur) bk wh inn f rc) (hD:D b) (hblk:w.heap[b]?=some (.cells #[.int .i64 (line:Nat),.string ⟨s.toArray⟩,.slice va vn vc] 303 (0,0))) (hown:Cz D w 150 1 (.slice va vn vc) ks.length ks) (hrep:Ao D w c ks) (hb:ks.length<=500000) :
  Calls Tryz.prog 266 #[.pointer (some ⟨K.cb,0,none⟩),.pointer (some ⟨b,0,none⟩)] w fun e w'=>e=.returned (.tuple #[])/\K.St D w' (outer++cur) bk wh inn (By K.fns c outer cur wh inn (Ed (O8 K.fns s (Az c)) 3 line f)).2 rc/\A3 D w w':=by
 obtain⟨hlo,lcb,hncb⟩:=hst.lo;have hvn:vn=ks.length:=(Cg hown.1).1;have hlen:=hrep.len;rw[<-hlen];subst hvn;obtain⟨p,hp⟩:=hst.fr.find s K.fns.length (Nat.le_refl _);have hfl:=hst.fr.len;have HNm:=A0 (fun(n:Nat)=>Zq (hst.drewN n).fr K.fns.length (Nat.le_refl _) s p hp);have hfn:=Ad0 hp ks.length;have HSt:=A0 hst;have HOwn:=A0 hown;have HRep:=A0 hrep;have HBlk:=A0 hblk;obtain⟨na,nn,nc,ba,bn,bc,la,ln,lc,ls,hv⟩:=hst.st;obtain⟨c0,c1,c2,c3,c4,c5,c6,c7,fz,lb⟩:=Nl hv.cell;rw[hfl]at c0;have d0:=A2 hblk 0 _ rfl;have d1:=A2 hblk 1 _ rfl;have d2:=A2 hblk 2 _ rfl;have ld:=A5 hblk;clear hst hown hrep hblk hp hv hlen;have HRun:=A0 (fun(W:World) (g:Cw) (hs:K.St D W (outer++cur) bk wh inn g rc) (hbd:A3 D w W)=>Zn K c hok hwf D W outer cur bk wh inn g rc va ks.length vc ks hs (HOwn.o.Bv hbd) (HRep.o.Bv hbd) hb);rcases hfn with⟨rfl,hcb⟩|⟨pb,pa,m,pc,rfl,hcb,lpb,cp⟩
 ·rw[hcb];clear hcb hfl;go_enter Tryz.func266,Tryz.ntmps266;go_wp2;go_quiet ((go_at_call 263;exact Calls.quiet_of_same (HNm.o _)))
  have A7:=A0 (HSt.o.drewN nq);have A4:=A0 (Dv D w nq);have J7:Hid ((w.drewN nq).heap[b]?=_):=HBlk.o;clear c0 c1 c2 c3 c4 c5 c6 c7 fz lb d0 d1 d2 ld;generalize w.drewN nq=w1 at *;have d0:=A2 J7.o 0 _ rfl;have d1:=A2 J7.o 1 _ rfl;have d2:=A2 J7.o 2 _ rfl;have ld:=A5 J7.o;go_wp2;go_quiet (fail)
  have Aj:=A0 (A7.o.drewN nq);have Aa:Hid (A3 D w (w1.drewN nq)):=A4.o.trans (Dv D w1 nq);have HBlk2:Hid ((w1.drewN nq).heap[b]?=_):=J7.o;clear d0 d1 d2 ld;exact z14a
 ·rw[hcb];clear hfl;cases hm:(m !=ks.length)
  ·have tm:((m:Int) !=(ks.length:Int))=false:=by simp at hm ⊢;omega
   rw[Pu];clear hcb hm;go_enter Tryz.func266,Tryz.ntmps266;go_wp2;go_quiet ((go_at_call 263;exact Calls.quiet_of_same (HNm.o _)))
   have A7:=A0 (HSt.o.drewN nq);have A4:=A0 (Dv D w nq);have J7:Hid ((w.drewN nq).heap[b]?=_):=HBlk.o;have HCp:Hid ((w.drewN nq).cell? ⟨pb,2,none⟩=_):=cp;have lpb1:pb<(w.drewN nq).heap.size:=lpb;clear cp lpb;clear c0 c1 c2 c3 c4 c5 c6 c7 fz lb d0 d1 d2 ld;generalize w.drewN nq=w1 at *;have d0:=A2 J7.o 0 _ rfl;have d1:=A2 J7.o 1 _ rfl;have d2:=A2 J7.o 2 _ rfl;have ld:=A5 J7.o;have cp:=HCp.o;go_wp2;go_quiet (fail)
   have Aj:=A0 (A7.o.drewN nq);have Aa:Hid (A3 D w (w1.drewN nq)):=A4.o.trans (Dv D w1 nq);have HBlk2:Hid ((w1.drewN nq).heap[b]?=_):=J7.o;clear d0 d1 d2 ld cp lpb1 HCp;generalize w1.drewN nq=w2 at *;have d0:=A2 HBlk2.o 0 _ rfl;have d2:=A2 HBlk2.o 2 _ rfl;have ld:=A5 HBlk2.o;go_wp2_with fail
   refine(HRun.o _ _ Aj.o Aa.o).mono ?_;rintro e w4 ⟨rfl,Fi,Ba⟩;have Er:=A0 Fi;have Cn:Hid (A3 D w w4):=Aa.o.trans Ba;clear Fi Ba;exact z3ca
  ·have tm:((m:Int) !=(ks.length:Int))=true:=by simp at hm ⊢;omega
   clear hcb hm;go_enter Tryz.func266,Tryz.ntmps266;go_wp2;go_quiet ((go_at_call 263;exact Calls.quiet_of_same (HNm.o _)))
   have A7:=A0 (HSt.o.drewN nq);have A4:=A0 (Dv D w nq);have J7:Hid ((w.drewN nq).heap[b]?=_):=HBlk.o;have HCp:Hid ((w.drewN nq).cell? ⟨pb,2,none⟩=_):=cp;have lpb1:pb<(w.drewN nq).heap.size:=lpb;clear cp lpb;clear c0 c1 c2 c3 c4 c5 c6 c7 fz lb d0 d1 d2 ld;generalize w.drewN nq=w1 at *;have d0:=A2 J7.o 0 _ rfl;have d1:=A2 J7.o 1 _ rfl;have d2:=A2 J7.o 2 _ rfl;have ld:=A5 J7.o;have cp:=HCp.o;go_wp2;go_quiet (fail)
   have Aj:=A0 (A7.o.drewN nq);have Aa:Hid (A3 D w (w1.drewN nq)):=A4.o.trans (Dv D w1 nq);have HBlk2:Hid ((w1.drewN nq).heap[b]?=_):=J7.o;clear d0 d1 d2 ld cp lpb1 HCp;exact z14a
def Kg(fns:List (Nm×Nat))(l:A6)(n:Nat)(outer cur:List Nm)(wh:Nat)(inn:Bool)(f:Cw):Cw:=
 if l.kd=6\/l.kd=28 then Ed (!decide (l.s∈outer++cur)) 3 l.line f
 else if l.kd=7 then Ed (O8 fns l.s n) 3 l.line f
 else if l.kd=25\/l.kd=26 then Ed (wh==0) 4 l.line f
 else if l.kd=24 then Ed (!inn) 4 l.line f
 else f
theorem Iw(fns:List (Nm×Nat))(l:A6)(c:BT A6)(h1:l.kd≠31)(h2:l.kd≠32)(h3:l.kd≠21)(outer cur:List Nm)(wh:Nat)(inn:Bool)(f:Cw):By fns (nd l c) outer cur wh inn f=By fns c outer cur wh inn (Kg fns l (Az c) outer cur wh inn f):=by
 rw[nd,By,if_neg h1,if_neg h2,if_neg h3,By];rfl
theorem Kh{fns:List (Nm×Nat)}{l:A6}{n:Nat}{outer cur:List Nm}{wh:Nat}{inn:Bool}{f:Cw}(h:l.kd≠6/\l.kd≠28/\l.kd≠7/\l.kd≠25/\l.kd≠26/\l.kd≠24):Kg fns l n outer cur wh inn f=f:=by
 unfold Kg;rw[if_neg z51a,if_neg z51a,if_neg z51a,if_neg z51a]
theorem Ao.nil'{D:Nat->Prop}{w:World}{c:BT A6}(h:Ao D w c []):c=.nil:=by
 cases c with
 | nil=>rfl
 | node x y l c r=>obtain⟨v,ks,rest,e,_⟩:=h;cases e
theorem Ao.cons'{D:Nat->Prop}{w:World}{c:BT A6}{a:Value}{vs:List Value}(h:Ao D w c (a::vs)):∃x y l c1 r ks,c=.node x y l c1 r/\Bx D w l a ks/\Ao D w c1 ks/\Ao D w r vs:=by
 cases c with
 | nil=>rw[Ao]at h;cases h
 | node x y l c1 r=>
  obtain⟨v,ks,rest,e,h1,h2,h3⟩:=h;injection e with e1 e2;subst e1 e2;exact⟨x,y,l,c1,r,ks,rfl,h1,h2,h3⟩
theorem Jt(fns:List (Nm×Nat))(x y:Nat)(l:A6)(c:BT A6)(outer cur:List Nm)(wh:Nat)(inn:Bool)(f:Cw):By fns (.node x y l c .nil) outer cur wh inn f=By fns (nd l c) outer cur wh inn f:=by
 rw[sens_xy',By]
theorem z4ka {P:Prop} (h:P:=by
  go_wp2;go_end0;exact⟨rfl,HSt.o,A3.refl _ _⟩):P:=h
theorem z59a {P:Prop} (h:P:=by rcases hp with h|h|h|h <;> rw[h] <;> decide):P:=h
theorem A9v(K:CC)(l:A6)(c:BT A6)(hk:l.kd=1\/l.kd=2\/l.kd=3\/l.kd=4\/l.kd=5):Fz K l c:=by
 intro D w outer cur bk wh inn f rc v ks hst hn hr;unfold Bx at hn;rw[if_neg z51a]at hn;obtain⟨b,cs,rfl,hD,hb,hl⟩:=hn;rw[Iw K.fns l c z51a z51a z51a,Kh z51a];have hks:ks=[]:=by
  unfold Cy at hl;rcases hk with h|h|h|h|h <;> (simp only[h]at hl;exact hl.2)
 subst hks;rw[hr.nil',By];have HSt:=A0 hst;have hp:Ck l.kd=220\/Ck l.kd=229\/Ck l.kd=233\/Ck l.kd=237:=by
  rcases hk with h|h|h|h|h <;> (rw[h];decide)
 have hm:∀T e,Tryz.prog.underlying T=some (.pointer e)->(Tryz.prog.info? T).map (·.zero)=some (some (.pointer none))->Ck l.kd≠T->∀(v:Value) (w:World),(Instr.typeAssert (.iface (Ck l.kd) v) 150 T true).run Tryz.prog w=.ok (.tuple #[.pointer none,.bool false]) w:=fun T e h1 h2 h3 v w=>Bl h1 h2 h3 v w;have Dh:=hm 238 _ Tryz.underlying238 (by kernel_rfl) z59a;have Dz:=hm 301 _ Tryz.underlying301 (by kernel_rfl) z59a;have Ep:=hm 241 _ Tryz.underlying241 (by kernel_rfl) z59a;have Fk:=hm 296 _ Tryz.underlying296 (by kernel_rfl) z59a;have G9:=hm 304 _ Tryz.underlying304 (by kernel_rfl) z59a;have Hx:=hm 307 _ Tryz.underlying307 (by kernel_rfl) z59a;have J6:=hm 310 _ Tryz.underlying310 (by kernel_rfl) z59a;have ta7:=hm 244 _ Tryz.underlying244 (by kernel_rfl) z59a;have ta8:=hm 248 _ Tryz.underlying248 (by kernel_rfl) z59a;clear hm hp hst hl hb hk;generalize Ck l.kd=t at *;go_enter Tryz.func236,Tryz.ntmps236;exact z4ka
theorem Zm(K:CC)(l:A6)(c:BT A6)(hk:l.kd=6):Fz K l c:=by
 intro D w outer cur bk wh inn f rc v ks hst hn hr;obtain⟨hlo,lcb,hncb⟩:=hst.lo;unfold Bx at hn;rw[if_neg z51a]at hn;obtain⟨b,cs,rfl,hD,hb,hl⟩:=hn;have e1:Ck l.kd=238:=by rw[hk];rfl
 have e2:Dn l.kd=240:=by rw[hk];rfl
 rw[e1];rw[e2]at hb;rw[Iw K.fns l c z51a z51a z51a];unfold Cy at hl;simp only[hk]at hl;obtain⟨rfl,rfl⟩:=hl;rw[hr.nil',By];have hp:Kg K.fns l (Az BT.nil) outer cur wh inn f=Ed (!decide (l.s∈outer++cur)) 3 l.line f:=by unfold Kg;rw[if_pos (.inl hk)]
 rw[hp];have HSt:=A0 hst;have hsn:=Zt hst.st l.s 0 (Nat.zero_le _);rw[List.drop_zero]at hsn;have HSn:=A0 hsn;have d0:w.cell? ⟨b,0,none⟩=some (.int .i64 (l.line:Nat)):=A2 hb 0 _ rfl;have d1:w.cell? ⟨b,1,none⟩=some (.string ⟨l.s.toArray⟩):=A2 hb 1 _ rfl;have ld:=A5 hb;have Dh:=fun(v:Value) (w:World)=>E3 (P:=Tryz.prog) (xT:=150) Tryz.underlying238 v w;clear hst hsn hb hp e1 e2 hk hr;unfold Ch;cases hq:decide (l.s∈outer++cur)
 ·rw[hq]at HSn;go_enter Tryz.func236,Tryz.ntmps236;go_wp2_with fail
  refine HSn.o.mono ?_;rintro e w' ⟨rfl,rfl⟩;go_wp2_with fail
  refine(Oa HSt.o.st 3 l.line).mono ?_;rintro e w3 ⟨rfl,Ca,Ak⟩;have Bg:=A0 (HSt.o.next Ca Ak);have Ay:=A0 Ak;clear Ca Ak;exact z27a
 ·rw[hq]at HSn;rw[show(!true)=false from rfl,Pu];go_enter Tryz.func236,Tryz.ntmps236;go_wp2_with fail
  refine HSn.o.mono ?_;rintro e w' ⟨rfl,rfl⟩;exact z4ka
theorem z15a {P:Prop} (h:P:=by
  unfold Ch;go_enter Tryz.func236,Tryz.ntmps236;go_wp2_with fail
  refine HC.o.mono ?_;rintro e w1 ⟨rfl,Al,A1⟩;have A7:=A0 Al;have A4:=A0 A1;clear Al A1;go_wp2;go_end0;exact⟨rfl,A7.o,A4.o⟩):P:=h
theorem A9u(K:CC)(l:A6)(c:BT A6)(hk:l.kd=8)(ih:D8 (Fz K) c):Fz K l c:=by
 intro D w outer cur bk wh inn f rc v ks hst hn hr;obtain⟨hlo,lcb,hncb⟩:=hst.lo;unfold Bx at hn;rw[if_neg z51a]at hn;obtain⟨b,cs,rfl,hD,hb,hl⟩:=hn;have e1:Ck l.kd=241:=by rw[hk];rfl
 have e2:Dn l.kd=243:=by rw[hk];rfl
 rw[e1];rw[e2]at hb;rw[Iw K.fns l c z51a z51a z51a];unfold Cy at hl;simp only[hk]at hl;obtain⟨a,rfl,rfl⟩:=hl;obtain⟨x1,y1,l1,c1,r1,De,rfl,Bk,Au,hz⟩:=hr.cons';obtain rfl:=hz.nil';rw[Kh z51a,Jt];have HC:=A0 (ih.1 D w outer cur bk wh inn f rc a De hst Bk Au);have d0:=A2 hb 0 a rfl;have ld:=A5 hb;have Dh:=fun(v:Value) (w:World)=>Bl (P:=Tryz.prog) (t:=241) (T:=238) (xT:=150) (z:=.pointer none) Tryz.underlying238 (by kernel_rfl) z52a v w;have Dz:=fun(v:Value) (w:World)=>Bl (P:=Tryz.prog) (t:=241) (T:=301) (xT:=150) (z:=.pointer none) Tryz.underlying301 (by kernel_rfl) z52a v w;have Ep:=fun(v:Value) (w:World)=>E3 (P:=Tryz.prog) (xT:=150) Tryz.underlying241 v w;clear hst hb e1 e2 hk hr Bk Au hz ih;exact z15a
theorem A9w(K:CC)(l:A6)(c:BT A6)(hk:l.kd=10)(ih:D8 (Fz K) c):Fz K l c:=by
 intro D w outer cur bk wh inn f rc v ks hst hn hr;obtain⟨hlo,lcb,hncb⟩:=hst.lo;unfold Bx at hn;rw[if_neg z51a]at hn;obtain⟨b,cs,rfl,hD,hb,hl⟩:=hn;have e1:Ck l.kd=304:=by rw[hk];rfl
 have e2:Dn l.kd=306:=by rw[hk];rfl
 rw[e1];rw[e2]at hb;rw[Iw K.fns l c z51a z51a z51a];unfold Cy at hl;simp only[hk]at hl;obtain⟨a,rfl,rfl⟩:=hl;obtain⟨x1,y1,l1,c1,r1,De,rfl,Bk,Au,hz⟩:=hr.cons';obtain rfl:=hz.nil';rw[Kh z51a,Jt];have HC:=A0 (ih.1 D w outer cur bk wh inn f rc a De hst Bk Au);have d0:=A2 hb 1 a rfl;have ld:=A5 hb;have Dh:=fun(v:Value) (w:World)=>Bl (P:=Tryz.prog) (t:=304) (T:=238) (xT:=150) (z:=.pointer none) Tryz.underlying238 (by kernel_rfl) z52a v w;have Dz:=fun(v:Value) (w:World)=>Bl (P:=Tryz.prog) (t:=304) (T:=301) (xT:=150) (z:=.pointer none) Tryz.underlying301 (by kernel_rfl) z52a v w;have Ep:=fun(v:Value) (w:World)=>Bl (P:=Tryz.prog) (t:=304) (T:=241) (xT:=150) (z:=.pointer none) Tryz.underlying241 (by kernel_rfl) z52a v w;have Fk:=fun(v:Value) (w:World)=>Bl (P:=Tryz.prog) (t:=304) (T:=296) (xT:=150) (z:=.pointer none) Tryz.underlying296 (by kernel_rfl) z52a v w;have G9:=fun(v:Value) (w:World)=>E3 (P:=Tryz.prog) (xT:=150) Tryz.underlying304 v w;clear hst hb e1 e2 hk hr Bk Au hz ih;exact z15a
theorem z09a {P:Prop} (h:P:=by
  intro D w outer cur bk wh inn f rc v ks hst hn hr;obtain⟨hlo,lcb,hncb⟩:=hst.lo;unfold Bx at hn;rw[if_neg z51a]at hn;obtain⟨b,cs,rfl,hD,hb,hl⟩:=hn;have e1:Ck l.kd=244:=by rw[hk];rfl
  have e2:Dn l.kd=246:=by rw[hk];rfl
  rw[e1];rw[e2]at hb;rw[Iw K.fns l c z51a z51a z51a];unfold Cy at hl;simp only[hk]at hl;obtain⟨a,rfl,rfl⟩:=hl;obtain⟨x1,y1,l1,c1,r1,De,rfl,Bk,Au,hz⟩:=hr.cons';obtain rfl:=hz.nil';rw[Kh z51a,Jt];have HC:=A0 (ih.1 D w outer cur bk wh inn f rc a De hst Bk Au);have d0:=A2 hb 2 a rfl;have ld:=A5 hb;have Dh:=fun(v:Value) (w:World)=>Bl (P:=Tryz.prog) (t:=244) (T:=238) (xT:=150) (z:=.pointer none) Tryz.underlying238 (by kernel_rfl) z52a v w;have Dz:=fun(v:Value) (w:World)=>Bl (P:=Tryz.prog) (t:=244) (T:=301) (xT:=150) (z:=.pointer none) Tryz.underlying301 (by kernel_rfl) z52a v w;have Ep:=fun(v:Value) (w:World)=>Bl (P:=Tryz.prog) (t:=244) (T:=241) (xT:=150) (z:=.pointer none) Tryz.underlying241 (by kernel_rfl) z52a v w;have Fk:=fun(v:Value) (w:World)=>Bl (P:=Tryz.prog) (t:=244) (T:=296) (xT:=150) (z:=.pointer none) Tryz.underlying296 (by kernel_rfl) z52a v w;have G9:=fun(v:Value) (w:World)=>Bl (P:=Tryz.prog) (t:=244) (T:=304) (xT:=150) (z:=.pointer none) Tryz.underlying304 (by kernel_rfl) z52a v w;have Hx:=fun(v:Value) (w:World)=>Bl (P:=Tryz.prog) (t:=244) (T:=307) (xT:=150) (z:=.pointer none) Tryz.underlying307 (by kernel_rfl) z52a v w;have J6:=fun(v:Value) (w:World)=>Bl (P:=Tryz.prog) (t:=244) (T:=310) (xT:=150) (z:=.pointer none) Tryz.underlying310 (by kernel_rfl) z52a v w;have ta7:=fun(v:Value) (w:World)=>E3 (P:=Tryz.prog) (xT:=150) Tryz.underlying244 v w;clear hst hb e1 e2 hk hr Bk Au hz ih;unfold Ch;go_enter Tryz.func236,Tryz.ntmps236;go_wp2_with fail
  refine HC.o.mono ?_;rintro e w1 ⟨rfl,Al,A1⟩;have A7:=A0 Al;have A4:=A0 A1;clear Al A1;go_wp2;go_end0;exact⟨rfl,A7.o,A4.o⟩):P:=h
theorem A9z(K:CC)(l:A6)(c:BT A6)(hk:l.kd=13)(ih:D8 (Fz K) c):Fz K l c:=by
 exact z09a
theorem A9y(K:CC)(l:A6)(c:BT A6)(hk:l.kd=14)(ih:D8 (Fz K) c):Fz K l c:=by
 exact z09a
theorem z13a {P:Prop} (h:P:=by
  have Aa:Hid (A3 D w w2):=A4.o.trans A8;clear B5 A8;go_wp2;go_end0;exact⟨rfl,Aj.o,Aa.o⟩):P:=h
theorem z35a {P:Prop} (h:P:=by
  clear hst hb e1 e2 hk hr Bk Au hz ih hwf hc0 Dm B7 C9;unfold Ch;go_enter Tryz.func236,Tryz.ntmps236;go_wp2_with fail
  refine HC.o.mono ?_;rintro e w1 ⟨rfl,Al,A1⟩;have A7:=A0 Al;have A4:=A0 A1;have Bu:=(A1.block b hD).trans HBk.o;have d1:=A2 Bu 2 a2 rfl;have ld1:=A5 Bu;clear Al A1 d0 ld Bu;go_wp2_with fail
  refine(Fb.o _ _ A7.o A4.o).mono ?_;rintro e w2 ⟨rfl,B5,A8⟩;have Aj:=A0 B5;exact z13a):P:=h
theorem Aa0(K:CC)(l:A6)(c:BT A6)(hk:l.kd=11)(ih:D8 (Fz K) c)(hwf:Wf 0 c):Fz K l c:=by
 intro D w outer cur bk wh inn f rc v ks hst hn hr;obtain⟨hlo,lcb,hncb⟩:=hst.lo;unfold Bx at hn;rw[if_neg z51a]at hn;obtain⟨b,cs,rfl,hD,hb,hl⟩:=hn;have e1:Ck l.kd=307:=by rw[hk];rfl
 have e2:Dn l.kd=309:=by rw[hk];rfl
 rw[e1];rw[e2]at hb;rw[Iw K.fns l c z51a z51a z51a];unfold Cy at hl;simp only[hk]at hl;obtain⟨a1,a2,rfl,rfl⟩:=hl;obtain⟨x1,y1,l1,c1,r1,De,rfl,Bk,Au,hz⟩:=hr.cons';obtain⟨x2,y2,l2,c2,r2,Gm,rfl,Dm,B7,C9⟩:=hz.cons';obtain rfl:=C9.nil';have hc0:=Kj K.fns _ hwf.Qh outer cur wh inn f;rw[Kh z51a,sens_xy',hc0,Jt];have HC:=A0 (ih.1 D w outer cur bk wh inn f rc a1 De hst Bk Au);have Fb:=A0 (fun W g (hs:K.St D W (outer++cur) bk wh inn g rc) (hbd:A3 D w W)=>ih.2.1 D W outer cur bk wh inn g rc a2 Gm hs (Dm.Bv hbd) (B7.Bv hbd));have d0:=A2 hb 1 a1 rfl;have ld:=A5 hb;have HBk:=A0 hb;have Dh:=fun(v:Value) (w:World)=>Bl (P:=Tryz.prog) (t:=307) (T:=238) (xT:=150) (z:=.pointer none) Tryz.underlying238 (by kernel_rfl) z52a v w;have Dz:=fun(v:Value) (w:World)=>Bl (P:=Tryz.prog) (t:=307) (T:=301) (xT:=150) (z:=.pointer none) Tryz.underlying301 (by kernel_rfl) z52a v w;have Ep:=fun(v:Value) (w:World)=>Bl (P:=Tryz.prog) (t:=307) (T:=241) (xT:=150) (z:=.pointer none) Tryz.underlying241 (by kernel_rfl) z52a v w;have Fk:=fun(v:Value) (w:World)=>Bl (P:=Tryz.prog) (t:=307) (T:=296) (xT:=150) (z:=.pointer none) Tryz.underlying296 (by kernel_rfl) z52a v w;have G9:=fun(v:Value) (w:World)=>Bl (P:=Tryz.prog) (t:=307) (T:=304) (xT:=150) (z:=.pointer none) Tryz.underlying304 (by kernel_rfl) z52a v w;have Hx:=fun(v:Value) (w:World)=>E3 (P:=Tryz.prog) (xT:=150) Tryz.underlying307 v w;exact z35a
theorem Zl(K:CC)(l:A6)(c:BT A6)(hk:l.kd=12)(ih:D8 (Fz K) c)(hwf:Wf 0 c):Fz K l c:=by
 intro D w outer cur bk wh inn f rc v ks hst hn hr;obtain⟨hlo,lcb,hncb⟩:=hst.lo;unfold Bx at hn;rw[if_neg z51a]at hn;obtain⟨b,cs,rfl,hD,hb,hl⟩:=hn;have e1:Ck l.kd=310:=by rw[hk];rfl
 have e2:Dn l.kd=312:=by rw[hk];rfl
 rw[e1];rw[e2]at hb;rw[Iw K.fns l c z51a z51a z51a];unfold Cy at hl;simp only[hk]at hl;obtain⟨a1,a2,rfl,rfl⟩:=hl;obtain⟨x1,y1,l1,c1,r1,De,rfl,Bk,Au,hz⟩:=hr.cons';obtain⟨x2,y2,l2,c2,r2,Gm,rfl,Dm,B7,C9⟩:=hz.cons';obtain rfl:=C9.nil';have hc0:=Kj K.fns _ hwf.Qh outer cur wh inn f;rw[Kh z51a,sens_xy',hc0,Jt];have HC:=A0 (ih.1 D w outer cur bk wh inn f rc a1 De hst Bk Au);have Fb:=A0 (fun W g (hs:K.St D W (outer++cur) bk wh inn g rc) (hbd:A3 D w W)=>ih.2.1 D W outer cur bk wh inn g rc a2 Gm hs (Dm.Bv hbd) (B7.Bv hbd));have d0:=A2 hb 1 a1 rfl;have ld:=A5 hb;have HBk:=A0 hb;have Dh:=fun(v:Value) (w:World)=>Bl (P:=Tryz.prog) (t:=310) (T:=238) (xT:=150) (z:=.pointer none) Tryz.underlying238 (by kernel_rfl) z52a v w;have Dz:=fun(v:Value) (w:World)=>Bl (P:=Tryz.prog) (t:=310) (T:=301) (xT:=150) (z:=.pointer none) Tryz.underlying301 (by kernel_rfl) z52a v w;have Ep:=fun(v:Value) (w:World)=>Bl (P:=Tryz.prog) (t:=310) (T:=241) (xT:=150) (z:=.pointer none) Tryz.underlying241 (by kernel_rfl) z52a v w;have Fk:=fun(v:Value) (w:World)=>Bl (P:=Tryz.prog) (t:=310) (T:=296) (xT:=150) (z:=.pointer none) Tryz.underlying296 (by kernel_rfl) z52a v w;have G9:=fun(v:Value) (w:World)=>Bl (P:=Tryz.prog) (t:=310) (T:=304) (xT:=150) (z:=.pointer none) Tryz.underlying304 (by kernel_rfl) z52a v w;have Hx:=fun(v:Value) (w:World)=>Bl (P:=Tryz.prog) (t:=310) (T:=307) (xT:=150) (z:=.pointer none) Tryz.underlying307 (by kernel_rfl) z52a v w;have J6:=fun(v:Value) (w:World)=>E3 (P:=Tryz.prog) (xT:=150) Tryz.underlying310 v w;exact z35a
theorem Nw{w:World}{base:Nat}{e:TypeId}{size:Nat}{v:Value}{n:Nat}{xs:List Value}(h:w.ownsRow base e size v n xs):∃a n c,v=.slice a n c:=by
 rcases h.2 with⟨rfl,_⟩|⟨g,cap,cur,rfl,_⟩
 ·exact⟨_,_,_,rfl⟩
 ·exact⟨_,_,_,rfl⟩
theorem A9x(K:CC)(l:A6)(c:BT A6)(hk:l.kd=9)(ih:D8 (Fz K) c)(hwf:Wf 0 c)(hsz:Az c<=500000):Fz K l c:=by
 intro D w outer cur bk wh inn f rc v ks hst hn hr;obtain⟨hlo,lcb,hncb⟩:=hst.lo;unfold Bx at hn;rw[if_neg z51a]at hn;obtain⟨b,cs,rfl,hD,hb,hl⟩:=hn;have e1:Ck l.kd=296:=by rw[hk];rfl
 have e2:Dn l.kd=300:=by rw[hk];rfl
 rw[e1];rw[e2]at hb;rw[Iw K.fns l c z51a z51a z51a];unfold Cy at hl;simp only[hk]at hl;obtain⟨sl,rfl,ho⟩:=hl;rw[Kh z51a];obtain⟨va,vn,vc,rfl⟩:∃va vn vc,sl=.slice va vn vc:=Nw ho.1;have HC:=A0 (Zn K c ih hwf D w outer cur bk wh inn f rc va vn vc ks hst ho hr (by rw[hr.len];exact hsz));have d0:=A2 hb 1 _ rfl;have ld:=A5 hb;have Dh:=fun(v:Value) (w:World)=>Bl (P:=Tryz.prog) (t:=296) (T:=238) (xT:=150) (z:=.pointer none) Tryz.underlying238 (by kernel_rfl) z52a v w;have Dz:=fun(v:Value) (w:World)=>Bl (P:=Tryz.prog) (t:=296) (T:=301) (xT:=150) (z:=.pointer none) Tryz.underlying301 (by kernel_rfl) z52a v w;have Ep:=fun(v:Value) (w:World)=>Bl (P:=Tryz.prog) (t:=296) (T:=241) (xT:=150) (z:=.pointer none) Tryz.underlying241 (by kernel_rfl) z52a v w;have Fk:=fun(v:Value) (w:World)=>E3 (P:=Tryz.prog) (xT:=150) Tryz.underlying296 v w;clear hst hb e1 e2 hk hr ih hwf ho;exact z15a
theorem A9t(K:CC)(l:A6)(c:BT A6)(hk:l.kd=7)(ih:D8 (Fz K) c)(hwf:Wf 0 c)(hsz:Az c<=500000):Fz K l c:=by
 intro D w outer cur bk wh inn f rc v ks hst hn hr;obtain⟨hlo,lcb,hncb⟩:=hst.lo;unfold Bx at hn;rw[if_neg z51a]at hn;obtain⟨b,cs,rfl,hD,hb,hl⟩:=hn;have e1:Ck l.kd=301:=by rw[hk];rfl
 have e2:Dn l.kd=303:=by rw[hk];rfl
 rw[e1];rw[e2]at hb;rw[Iw K.fns l c z51a z51a z51a];unfold Cy at hl;simp only[hk]at hl;obtain⟨sl,rfl,ho⟩:=hl;have hp:Kg K.fns l (Az c) outer cur wh inn f=Ed (O8 K.fns l.s (Az c)) 3 l.line f:=by unfold Kg;rw[if_neg z51a,if_pos hk]
 rw[hp];obtain⟨va,vn,vc,rfl⟩:∃va vn vc,sl=.slice va vn vc:=Nw ho.1;have HC:=A0 (A9q K c ih hwf l.line l.s D w outer cur bk wh inn f rc b va vn vc ks hst hD hb ho hr (by rw[hr.len];exact hsz));have ld:=A5 hb;have Dh:=fun(v:Value) (w:World)=>Bl (P:=Tryz.prog) (t:=301) (T:=238) (xT:=150) (z:=.pointer none) Tryz.underlying238 (by kernel_rfl) z52a v w;have Dz:=fun(v:Value) (w:World)=>E3 (P:=Tryz.prog) (xT:=150) Tryz.underlying301 v w;clear hst hb e1 e2 hk hr ih hwf ho hp;exact z15a
theorem bin_lay'{D:Nat->Prop}{w:World}{l:A6}{cs:Array Value}{ks:List Value}(hk:127<=l.kd/\l.kd<=140)(h:Cy D w l cs ks):∃a b,cs=#[Ge l.line,.int .i64 ((l.kd-100:Nat):Nat),a,b]/\ks=[a,b]:=by
 have h14:l.kd=127\/l.kd=128\/l.kd=129\/l.kd=130\/l.kd=131\/l.kd=132\/l.kd=133\/l.kd=134\/l.kd=135\/l.kd=136\/l.kd=137\/l.kd=138\/l.kd=139\/l.kd=140:=by omega
 unfold Cy at h;rcases h14 with e|e|e|e|e|e|e|e|e|e|e|e|e|e <;> (simp only[e]at h ⊢;exact h)
theorem bin_ty'{kd:Nat}(hk:127<=kd/\kd<=140):Ck kd=248/\Dn kd=295:=by
 have h14:kd=127\/kd=128\/kd=129\/kd=130\/kd=131\/kd=132\/kd=133\/kd=134\/kd=135\/kd=136\/kd=137\/kd=138\/kd=139\/kd=140:=by omega
 rcases h14 with e|e|e|e|e|e|e|e|e|e|e|e|e|e <;> (subst e;exact⟨rfl,rfl⟩)
theorem A9s(K:CC)(l:A6)(c:BT A6)(hk:127<=l.kd/\l.kd<=140)(ih:D8 (Fz K) c)(hwf:Wf 0 c):Fz K l c:=by
 intro D w outer cur bk wh inn f rc v ks hst hn hr;obtain⟨hlo,lcb,hncb⟩:=hst.lo;unfold Bx at hn;rw[if_neg z51a]at hn;obtain⟨b,cs,rfl,hD,hb,hl⟩:=hn;obtain⟨e1,e2⟩:=bin_ty' hk;rw[e1];rw[e2]at hb;rw[Iw K.fns l c z51a z51a z51a];replace hl:=bin_lay' hk hl;obtain⟨a1,a2,rfl,rfl⟩:=hl;obtain⟨x1,y1,l1,c1,r1,De,rfl,Bk,Au,hz⟩:=hr.cons';obtain⟨x2,y2,l2,c2,r2,Gm,rfl,Dm,B7,C9⟩:=hz.cons';obtain rfl:=C9.nil';have hc0:=Kj K.fns _ hwf.Qh outer cur wh inn f;rw[Kh z51a,sens_xy',hc0,Jt];have HC:=A0 (ih.1 D w outer cur bk wh inn f rc a1 De hst Bk Au);have Fb:=A0 (fun W g (hs:K.St D W (outer++cur) bk wh inn g rc) (hbd:A3 D w W)=>ih.2.1 D W outer cur bk wh inn g rc a2 Gm hs (Dm.Bv hbd) (B7.Bv hbd));have d0:=A2 hb 2 a1 rfl;have ld:=A5 hb;have HBk:=A0 hb;have Dh:=fun(v:Value) (w:World)=>Bl (P:=Tryz.prog) (t:=248) (T:=238) (xT:=150) (z:=.pointer none) Tryz.underlying238 (by kernel_rfl) z52a v w;have Dz:=fun(v:Value) (w:World)=>Bl (P:=Tryz.prog) (t:=248) (T:=301) (xT:=150) (z:=.pointer none) Tryz.underlying301 (by kernel_rfl) z52a v w;have Ep:=fun(v:Value) (w:World)=>Bl (P:=Tryz.prog) (t:=248) (T:=241) (xT:=150) (z:=.pointer none) Tryz.underlying241 (by kernel_rfl) z52a v w;have Fk:=fun(v:Value) (w:World)=>Bl (P:=Tryz.prog) (t:=248) (T:=296) (xT:=150) (z:=.pointer none) Tryz.underlying296 (by kernel_rfl) z52a v w;have G9:=fun(v:Value) (w:World)=>Bl (P:=Tryz.prog) (t:=248) (T:=304) (xT:=150) (z:=.pointer none) Tryz.underlying304 (by kernel_rfl) z52a v w;have Hx:=fun(v:Value) (w:World)=>Bl (P:=Tryz.prog) (t:=248) (T:=307) (xT:=150) (z:=.pointer none) Tryz.underlying307 (by kernel_rfl) z52a v w;have J6:=fun(v:Value) (w:World)=>Bl (P:=Tryz.prog) (t:=248) (T:=310) (xT:=150) (z:=.pointer none) Tryz.underlying310 (by kernel_rfl) z52a v w;have ta7:=fun(v:Value) (w:World)=>Bl (P:=Tryz.prog) (t:=248) (T:=244) (xT:=150) (z:=.pointer none) Tryz.underlying244 (by kernel_rfl) z52a v w;have ta8:=fun(v:Value) (w:World)=>E3 (P:=Tryz.prog) (xT:=150) Tryz.underlying248 v w;clear hst hb e1 e2 hk hr Bk Au hz ih hwf hc0 Dm B7 C9;unfold Ch;go_enter Tryz.func236,Tryz.ntmps236;go_wp2_with fail
 refine HC.o.mono ?_;rintro e w1 ⟨rfl,Al,A1⟩;have A7:=A0 Al;have A4:=A0 A1;have Bu:=(A1.block b hD).trans HBk.o;have d1:=A2 Bu 3 a2 rfl;have ld1:=A5 Bu;clear Al A1 d0 ld Bu;go_wp2_with fail
 refine(Fb.o _ _ A7.o A4.o).mono ?_;rintro e w2 ⟨rfl,B5,A8⟩;have Aj:=A0 B5;exact z13a
theorem z4da {P:Prop} (h:P:=by
  unfold It at h;simp only[Bool.or_eq_true,Bool.and_eq_true,decide_eq_true_eq]at h;omega):P:=h
theorem Acm{kd:Nat}(h:It kd=true):(kd=1\/kd=2\/kd=3\/kd=4\/kd=5)\/kd=6\/kd=7\/kd=8\/kd=9\/kd=10\/kd=11\/kd=12\/kd=13\/kd=14\/(127<=kd/\kd<=140):=by
 exact z4da
theorem Wf.exs{x y:Nat}{l:A6}{c r:BT A6}(h:Wf 0 (.node x y l c r)):It l.kd=true/\Wf 0 c/\Wf 0 r:=by
 rcases h.2 with⟨_,h1,h2⟩|⟨h1,_⟩|⟨h1,_⟩|⟨h1,_⟩|⟨h1,_⟩|⟨h1,_⟩|⟨h1,_⟩
 ·exact⟨h1,h2,h.1⟩
 all_goals omega
theorem Wj(K:CC):∀f:BT A6,Wf 0 f->bsize f<=500000->D8 (Fz K) f:=by
 intro f;induction f with
 | nil=>intro _ _;trivial
 | node x y l c r Ds D9=>
  intro h hs;obtain⟨h1,h2,h3⟩:=h.exs;rw[bsize]at hs;have ih:=Ds h2 z51a;have hl:=Nk c;refine⟨?_,D9 h3 z51a⟩;rcases Acm h1 with e|e|e|e|e|e|e|e|e|e|e
  ·exact A9v K l c e
  ·exact Zm K l c e
  ·exact A9t K l c e ih h2 z51a
  ·exact A9u K l c e ih
  ·exact A9x K l c e ih h2 z51a
  ·exact A9w K l c e ih
  ·exact Aa0 K l c e ih h2
  ·exact Zl K l c e ih h2
  ·exact A9z K l c e ih
  ·exact A9y K l c e ih
  ·exact A9s K l c e ih h2
theorem Bx.isIface{D:Nat->Prop}{w:World}{l:A6}{v:Value}{ks:List Value}(h:Bx D w l v ks)(h1:l.kd≠31)(h2:l.kd≠32):∃t x,v=.iface t x:=by
 unfold Bx at h;rw[if_neg z51a]at h;obtain⟨b,cs,e,_⟩:=h;exact⟨_,_,e⟩
theorem Of{kd:Nat}(h:It kd=true):kd≠31/\kd≠32/\kd≠21:=by
 exact z4da
def K4(K:CC)(l:A6)(c:BT A6):Prop:=∀(D:Nat->Prop) (w:World) (outer cur:List Nm) (bl:List Nat) (wh:Nat) (inn:Bool) (f:Cw) (rc:Nat) (v:Value) (ks:List Value),
 K.St D w (outer++cur) (bl++[outer.length]) wh inn f rc->Bx D w l v ks->Ao D w c ks->(outer++cur).length+bsize (nd l c)<=700000->bl.length+bsize (nd l c)<=700000->wh+bsize (nd l c)<=700000->
 Calls Tryz.prog 192 #[.pointer (some ⟨K.cb,0,none⟩),v] w fun e w'=>e=.returned (.tuple #[])/\K.St D w' (outer++(By K.fns (nd l c) outer cur wh inn f).1) (bl++[outer.length]) wh inn (By K.fns (nd l c) outer cur wh inn f).2 rc/\A3 D w w'
theorem z6ya {P:Prop} (h:P:=by rw[List.length_append];omega):P:=h
theorem Zu(K:CC)(c:BT A6)(hok:D8 (K4 K) c)(D:Nat->Prop)(w:World)(outer cur:List Nm)(bl:List Nat)(wh:Nat)(inn:Bool)(f:Cw)(rc:Nat)(va:Option Addr)(vn vc:Nat)(ks:List Value)
  (hst:K.St D w (outer++cur) (bl++[outer.length]) wh inn f rc) (hown:Cz D w 142 1 (.slice va vn vc) ks.length ks) (hrep:Ao D w c ks) (A1:(outer++cur).length+bsize c<=700000) (A8:bl.length+bsize c<=700000) (Ak:wh+bsize c<=700000) :
  Calls Tryz.prog 134 #[.pointer (some ⟨K.cb,0,none⟩),.slice va vn vc] w fun e w'=>e=.returned (.tuple #[])/\K.St D w' (outer++(By K.fns c outer cur wh inn f).1) (bl++[outer.length]) wh inn (By K.fns c outer cur wh inn f).2 rc/\A3 D w w':=by
 have hvn:vn=ks.length:=(Cg hown.1).1;subst hvn;have HSt0:=A0 hst;have HOwn:=A0 hown;have HRep:=A0 hrep;have hlen:=hrep.len;have HLen:=A0 hlen;have hls:=Nk c;have hkl:ks.length<=700000:=by omega
 rw[List.length_append]at A1;clear hst hown hrep hlen;go_enter Tryz.func134,Tryz.ntmps134;go_wp2;go_loopg [8] ks.length (fun k v wr=>∃(i:Nat) (cn:List Nm) (fl:Cw),v=.int .i64 i/\i+k=ks.length/\cn.length+bsize (Cd i c)<=cur.length+bsize c/\K.St D wr (outer++cn) (bl++[outer.length]) wh inn fl rc/\By K.fns (Cd i c) outer cn wh inn fl=By K.fns c outer cur wh inn f/\A3 D w wr)
 case atStart=>exact⟨0,cur,f,rfl,by omega,by rw[show Cd 0 c=c from by cases c <;> rfl];exact Nat.le_refl _,HSt0.o,rfl,A3.refl _ _⟩
 case round=>
  clear HSt0;obtain⟨i,cn,fl,rfl,hik,hcn,hst,hse,hbel⟩:=hrel;have HSt:=A0 hst;have HSe:=A0 hse;have HBel:=A0 hbel;clear hst hse hbel;by_cases hlt:i<ks.length
  ·have hr:=HRep.o.Bv HBel.o;obtain⟨x,y,l,cc,r,hd,v,ks',hv,hn,hrk⟩:=Ao.at' i c ks hr z5na;obtain⟨g,rfl,_,hcap,lg,hcell⟩:=G2 (HOwn.o.Bv HBel.o).1 z51a;have d0:=hcell i v hv;have hE:=A0 (hok.at' i c x y l cc r hd);have Al:=sens_xy' K.fns x y l cc r outer cn wh inn fl;have hdn:=W8 i c;have hsz:bsize (Cd i c)=bsize (nd l cc)+bsize r:=by rw[hd,Co,bsize]
   have hcl:=A3k K.fns (nd l cc) outer cn wh inn fl;have hds:=Oc i c x y l cc r hd;have HNx:Hid (By K.fns (Cd (i+1) c) outer (By K.fns (nd l cc) outer cn wh inn fl).1 wh inn (By K.fns (nd l cc) outer cn wh inn fl).2=By K.fns c outer cur wh inn f):=by
    show _=_;rw[hds,<-HSe.o,hd,Al]
   have HDs:=A0 hds;have HC:=A0 (hE.out D wr outer cn bl wh inn fl rc v ks' HSt.o hn hrk z6ya z51a z51a);clear hr hd hv hn hrk hcell Al hds;go_wp2_with fail
   refine HC.o.mono ?_;rintro e w1 ⟨rfl,Al,A1⟩;have A7:=A0 Al;have A4:Hid (A3 D w w1):=HBel.o.trans A1;clear Al A1;go_wp2;go_roundg (gk-1)
   case measure=>omega
   case rel=>exact⟨i+1,_,_,rfl,by omega,by rw[HDs.o];omega,A7.o,HNx.o,A4.o⟩
  ·have HE:Hid ((cn,fl)=By K.fns c outer cur wh inn f):=by
    exact z0sa
   exact z2wa
theorem Rb(K:CC)(c:BT A6)(hok:D8 (K4 K) c)(D:Nat->Prop)(w:World)(ns:List Nm)(bk:List Nat)(wh:Nat)(inn:Bool)(f:Cw)(rc:Nat)(va:Option Addr)(vn vc:Nat)(ks:List Value)
  (hst:K.St D w ns bk wh inn f rc) (hown:Cz D w 142 1 (.slice va vn vc) ks.length ks) (hrep:Ao D w c ks) (A1:ns.length+bsize c<=700000) (A8:bk.length+bsize c<=700000) (Ak:wh+bsize c<=700000) :
  Calls Tryz.prog 80 #[.pointer (some ⟨K.cb,0,none⟩),.slice va vn vc] w fun e w'=>e=.returned (.tuple #[])/\K.St D w' ns bk wh inn (By K.fns c ns [] wh inn f).2 rc/\A3 D w w':=by
 have HO:=A0 (Tl hst.st z51a);have HSt:=A0 hst;have HRun:=A0 (fun(W:World) (hs:K.St D W (ns++[]) (bk++[ns.length]) wh inn f rc) (hbd:A3 D w W)=>Zu K c hok D W ns [] bk wh inn f rc va vn vc ks hs (hown.Bv hbd) (hrep.Bv hbd) (by simpa using A1) A8 Ak);clear hst hown hrep;go_enter Tryz.func80,Tryz.ntmps80;go_wp2_with fail
 refine HO.o.mono ?_;rintro e w1 ⟨rfl,Al,A1⟩;have A7:=A0 (HSt.o.next Al A1);have A4:=A0 A1;clear Al A1;go_wp2_with fail
 refine(HRun.o _ (by rw[List.append_nil];exact A7.o) A4.o).mono ?_;rintro e w2 ⟨rfl,B5,A8⟩;have Aj:=A0 B5;have Aa:Hid (A3 D w w2):=A4.o.trans A8;clear B5 A8;go_wp2_with fail
 refine(Th Aj.o.st z56a).mono ?_;rintro e w3 ⟨rfl,Ca,Ak⟩;rw[List.take_left]at Ca;have Bg:=A0 (Aj.o.next Ca Ak);have Ay:Hid (A3 D w w3):=Aa.o.trans Ak;clear Ca Ak;exact z27a
theorem z4za {P:Prop} (h:P:=by
  have Er:=A0 Fi;have Cn:Hid (A3 D w w4):=Ay.o.trans Ba;clear Fi Ba;exact z3ca):P:=h
theorem Aa9(K:CC)(l:A6)(c:BT A6)(ih:D8 (Fz K) c)(hwf:Wf 0 c)(D:Nat->Prop)(w:World)(outer cur:List Nm)(bk:List Nat)(wh:Nat)(inn:Bool)(f:Cw)(rc:Nat)(b:Nat)(a:Value)(ks:List Value)
  (hst:K.St D w (outer++cur) bk wh inn f rc) (hD:D b) (hblk:w.heap[b]?=some (.cells #[.int .i64 (l.line:Nat),a] 318 (0,0))) (hks:(ks=[]/\a=.nilIface)\/ks=[a]) (hrep:Ao D w c ks) :
  Calls Tryz.prog 239 #[.pointer (some ⟨K.cb,0,none⟩),.pointer (some ⟨b,0,none⟩)] w fun e w'=>e=.returned (.tuple #[])/\K.St D w' (outer++cur) bk wh inn (By K.fns c outer cur wh inn (Ed (!inn) 4 l.line f)).2 rc/\A3 D w w':=by
 obtain⟨hlo,lcb,hncb⟩:=hst.lo;have HSt:=A0 hst;have HBlk:=A0 hblk;obtain⟨na,nn,nc,ba,bn,bc,la,ln,lc,ls,hv⟩:=hst.st;obtain⟨c0,c1,c2,c3,c4,c5,c6,c7,fz,lb⟩:=Nl hv.cell;have d0:=A2 hblk 0 _ rfl;have d1:=A2 hblk 1 _ rfl;have ld:=A5 hblk;clear hst hblk hv c0 c1 c2 c3 c4 c6 c7 fz;rcases hks with⟨rfl,rfl⟩|rfl
 ·rw[hrep.nil',By];clear hrep;cases inn
  ·go_enter Tryz.func239,Tryz.ntmps239;go_wp2_with fail
   refine(Oa HSt.o.st 4 l.line).mono ?_;rintro e w3 ⟨rfl,Ca,Ak⟩;have Bg:=A0 (HSt.o.next Ca Ak);have Ay:=A0 Ak;have Ek:=(Ak.block b hD).trans HBlk.o;clear Ca Ak d0 d1 ld c5;have d1:=A2 Ek 1 _ rfl;have ld:=A5 Ek;clear Ek;exact z27a
  ·rw[show(!true)=false from rfl,Pu];go_enter Tryz.func239,Tryz.ntmps239;exact z4ka
 ·obtain⟨x1,y1,l1,c1,r1,De,rfl,Bk,Au,hz⟩:=hrep.cons';obtain rfl:=hz.nil';rw[Jt];have hif:∃t x,a=.iface t x:=Bk.isIface (Of hwf.exs.1).1 (Of hwf.exs.1).2.1;obtain⟨t,x,rfl⟩:=hif;have HC:=A0 (fun W g (hs:K.St D W (outer++cur) bk wh inn g rc) (hbd:A3 D w W)=>ih.1 D W outer cur bk wh inn g rc (.iface t x) De hs (Bk.Bv hbd) (Au.Bv hbd));clear hrep Bk Au hz ih hwf;cases inn
  ·go_enter Tryz.func239,Tryz.ntmps239;go_wp2_with fail
   refine(Oa HSt.o.st 4 l.line).mono ?_;rintro e w3 ⟨rfl,Ca,Ak⟩;have Bg:=A0 (HSt.o.next Ca Ak);have Ay:=A0 Ak;have Ek:=(Ak.block b hD).trans HBlk.o;clear Ca Ak d0 d1 ld c5;have d1:=A2 Ek 1 _ rfl;have ld:=A5 Ek;clear Ek;go_wp2_with fail
   refine(HC.o _ _ Bg.o Ay.o).mono ?_;rintro e w4 ⟨rfl,Fi,Ba⟩;exact z4za
  ·rw[show(!true)=false from rfl,Pu];go_enter Tryz.func239,Tryz.ntmps239;go_wp2_with fail
   refine(HC.o _ _ HSt.o (A3.refl _ _)).mono ?_;rintro e w4 ⟨rfl,Fi,Ba⟩;have Er:=A0 Fi;have Cn:=A0 Ba;clear Fi Ba;exact z3ca
theorem z1ia {P:Prop} (h:P:=by
  unfold Ch;go_enter Tryz.func192,Tryz.ntmps192;go_wp2_with fail
  refine(HC.o).mono ?_;rintro e w1 ⟨rfl,Al,A1⟩;have A7:=A0 Al;have A4:Hid (A3 D w w1):=A1;clear Al A1 ;go_wp2;go_end0;exact⟨rfl,A7.o,A4.o⟩):P:=h
theorem Aat(K:CC)(l:A6)(c:BT A6)(hk:l.kd=27)(ih:D8 (Fz K) c)(hwf:Wf 0 c):K4 K l c:=by
 intro D w outer cur bl wh inn f rc v ks hst hn hr C1 C9 G1;obtain⟨hlo,lcb,hncb⟩:=hst.lo;unfold Bx at hn;rw[if_neg z51a]at hn;obtain⟨b,cs,rfl,hD,hb,hl⟩:=hn;have e1:Ck l.kd=265:=by rw[hk];rfl
 have e2:Dn l.kd=267:=by rw[hk];rfl
 rw[e1];rw[e2]at hb;unfold Cy at hl;simp only[hk]at hl;obtain⟨a,rfl,rfl⟩:=hl;have hnd:=Iw K.fns l c z51a z51a z51a outer cur wh inn f;rw[Kh z51a]at hnd;rw[hnd,Kj K.fns c hwf];obtain⟨x1,y1,l1,c1,r1,De,rfl,Bk,Au,hz⟩:=hr.cons';obtain rfl:=hz.nil';rw[Jt];have HC:=A0 (ih.1 D w outer cur _ wh inn f rc a De hst Bk Au);have d0:=A2 hb 1 a rfl;have ld:=A5 hb;have Dh:=fun(v:Value) (w:World)=>Bl (P:=Tryz.prog) (t:=265) (T:=143) (xT:=142) (z:=.pointer none) Tryz.underlying143 (by kernel_rfl) z52a v w;have Dz:=fun(v:Value) (w:World)=>Bl (P:=Tryz.prog) (t:=265) (T:=145) (xT:=142) (z:=.pointer none) Tryz.underlying145 (by kernel_rfl) z52a v w;have Ep:=fun(v:Value) (w:World)=>Bl (P:=Tryz.prog) (t:=265) (T:=253) (xT:=142) (z:=.pointer none) Tryz.underlying253 (by kernel_rfl) z52a v w;have Fk:=fun(v:Value) (w:World)=>Bl (P:=Tryz.prog) (t:=265) (T:=255) (xT:=142) (z:=.pointer none) Tryz.underlying255 (by kernel_rfl) z52a v w;have G9:=fun(v:Value) (w:World)=>Bl (P:=Tryz.prog) (t:=265) (T:=257) (xT:=142) (z:=.pointer none) Tryz.underlying257 (by kernel_rfl) z52a v w;have Hx:=fun(v:Value) (w:World)=>Bl (P:=Tryz.prog) (t:=265) (T:=259) (xT:=142) (z:=.pointer none) Tryz.underlying259 (by kernel_rfl) z52a v w;have J6:=fun(v:Value) (w:World)=>Bl (P:=Tryz.prog) (t:=265) (T:=264) (xT:=142) (z:=.pointer none) Tryz.underlying264 (by kernel_rfl) z52a v w;have ta7:=fun(v:Value) (w:World)=>E3 (P:=Tryz.prog) (xT:=142) Tryz.underlying265 v w;clear hst hb e1 e2 hk hr Bk Au hz ih hwf hnd C1 C9 G1;exact z1ia
theorem Aap(K:CC)(l:A6)(c:BT A6)(hk:l.kd=30)(ih:D8 (Fz K) c)(hwf:Wf 0 c):K4 K l c:=by
 intro D w outer cur bl wh inn f rc v ks hst hn hr C1 C9 G1;obtain⟨hlo,lcb,hncb⟩:=hst.lo;unfold Bx at hn;rw[if_neg z51a]at hn;obtain⟨b,cs,rfl,hD,hb,hl⟩:=hn;have e1:Ck l.kd=270:=by rw[hk];rfl
 have e2:Dn l.kd=272:=by rw[hk];rfl
 rw[e1];rw[e2]at hb;unfold Cy at hl;simp only[hk]at hl;obtain⟨a,rfl,rfl⟩:=hl;have hnd:=Iw K.fns l c z51a z51a z51a outer cur wh inn f;rw[Kh z51a]at hnd;rw[hnd,Kj K.fns c hwf];obtain⟨x1,y1,l1,c1,r1,De,rfl,Bk,Au,hz⟩:=hr.cons';obtain rfl:=hz.nil';rw[Jt];have HC:=A0 (ih.1 D w outer cur _ wh inn f rc a De hst Bk Au);have d0:=A2 hb 0 a rfl;have ld:=A5 hb;have Dh:=fun(v:Value) (w:World)=>Bl (P:=Tryz.prog) (t:=270) (T:=143) (xT:=142) (z:=.pointer none) Tryz.underlying143 (by kernel_rfl) z52a v w;have Dz:=fun(v:Value) (w:World)=>Bl (P:=Tryz.prog) (t:=270) (T:=145) (xT:=142) (z:=.pointer none) Tryz.underlying145 (by kernel_rfl) z52a v w;have Ep:=fun(v:Value) (w:World)=>Bl (P:=Tryz.prog) (t:=270) (T:=253) (xT:=142) (z:=.pointer none) Tryz.underlying253 (by kernel_rfl) z52a v w;have Fk:=fun(v:Value) (w:World)=>Bl (P:=Tryz.prog) (t:=270) (T:=255) (xT:=142) (z:=.pointer none) Tryz.underlying255 (by kernel_rfl) z52a v w;have G9:=fun(v:Value) (w:World)=>Bl (P:=Tryz.prog) (t:=270) (T:=257) (xT:=142) (z:=.pointer none) Tryz.underlying257 (by kernel_rfl) z52a v w;have Hx:=fun(v:Value) (w:World)=>Bl (P:=Tryz.prog) (t:=270) (T:=259) (xT:=142) (z:=.pointer none) Tryz.underlying259 (by kernel_rfl) z52a v w;have J6:=fun(v:Value) (w:World)=>Bl (P:=Tryz.prog) (t:=270) (T:=264) (xT:=142) (z:=.pointer none) Tryz.underlying264 (by kernel_rfl) z52a v w;have ta7:=fun(v:Value) (w:World)=>Bl (P:=Tryz.prog) (t:=270) (T:=265) (xT:=142) (z:=.pointer none) Tryz.underlying265 (by kernel_rfl) z52a v w;have ta8:=fun(v:Value) (w:World)=>Bl (P:=Tryz.prog) (t:=270) (T:=268) (xT:=142) (z:=.pointer none) Tryz.underlying268 (by kernel_rfl) z52a v w;have ta9:=fun(v:Value) (w:World)=>E3 (P:=Tryz.prog) (xT:=142) Tryz.underlying270 v w;clear hst hb e1 e2 hk hr Bk Au hz ih hwf hnd C1 C9 G1;exact z1ia
theorem z1ta {P:Prop} (h:P:=by
  clear hst hb e1 e2 hk hr hnd C1 C9 G1 hp;unfold Ch;go_enter Tryz.func192,Tryz.ntmps192;go_wp2_with fail
  refine HC.o.mono ?_;rintro e w1 ⟨rfl,Al,A1⟩;have A7:=A0 (HSt.o.next Al A1);have A4:=A0 A1;clear Al A1;go_wp2;go_end0;exact⟨rfl,A7.o,A4.o⟩):P:=h
theorem Aan(K:CC)(l:A6)(c:BT A6)(hk:l.kd=25):K4 K l c:=by
 intro D w outer cur bl wh inn f rc v ks hst hn hr C1 C9 G1;obtain⟨hlo,lcb,hncb⟩:=hst.lo;unfold Bx at hn;rw[if_neg z51a]at hn;obtain⟨b,cs,rfl,hD,hb,hl⟩:=hn;have e1:Ck l.kd=259:=by rw[hk];rfl
 have e2:Dn l.kd=367:=by rw[hk];rfl
 rw[e1];rw[e2]at hb;unfold Cy at hl;simp only[hk]at hl;obtain⟨rfl,rfl⟩:=hl;have hnd:=Iw K.fns l c z51a z51a z51a outer cur wh inn f;have hp:Kg K.fns l (Az c) outer cur wh inn f=Ed (wh==0) 4 l.line f:=by unfold Kg;rw[if_neg z51a,if_neg z51a,if_pos z51a]
 rw[hp]at hnd;rw[hnd,hr.nil',By];have HC:=A0 (Zp hst.st l.line);have HSt:=A0 hst;have d0:w.cell? ⟨b,0,none⟩=some (.int .i64 (l.line:Nat)):=A2 hb 0 _ rfl;have ld:=A5 hb;have Dh:=fun(v:Value) (w:World)=>Bl (P:=Tryz.prog) (t:=259) (T:=143) (xT:=142) (z:=.pointer none) Tryz.underlying143 (by kernel_rfl) z52a v w;have Dz:=fun(v:Value) (w:World)=>Bl (P:=Tryz.prog) (t:=259) (T:=145) (xT:=142) (z:=.pointer none) Tryz.underlying145 (by kernel_rfl) z52a v w;have Ep:=fun(v:Value) (w:World)=>Bl (P:=Tryz.prog) (t:=259) (T:=253) (xT:=142) (z:=.pointer none) Tryz.underlying253 (by kernel_rfl) z52a v w;have Fk:=fun(v:Value) (w:World)=>Bl (P:=Tryz.prog) (t:=259) (T:=255) (xT:=142) (z:=.pointer none) Tryz.underlying255 (by kernel_rfl) z52a v w;have G9:=fun(v:Value) (w:World)=>Bl (P:=Tryz.prog) (t:=259) (T:=257) (xT:=142) (z:=.pointer none) Tryz.underlying257 (by kernel_rfl) z52a v w;have Hx:=fun(v:Value) (w:World)=>E3 (P:=Tryz.prog) (xT:=142) Tryz.underlying259 v w;exact z1ta
theorem Aao(K:CC)(l:A6)(c:BT A6)(hk:l.kd=26):K4 K l c:=by
 intro D w outer cur bl wh inn f rc v ks hst hn hr C1 C9 G1;obtain⟨hlo,lcb,hncb⟩:=hst.lo;unfold Bx at hn;rw[if_neg z51a]at hn;obtain⟨b,cs,rfl,hD,hb,hl⟩:=hn;have e1:Ck l.kd=264:=by rw[hk];rfl
 have e2:Dn l.kd=368:=by rw[hk];rfl
 rw[e1];rw[e2]at hb;unfold Cy at hl;simp only[hk]at hl;obtain⟨rfl,rfl⟩:=hl;have hnd:=Iw K.fns l c z51a z51a z51a outer cur wh inn f;have hp:Kg K.fns l (Az c) outer cur wh inn f=Ed (wh==0) 4 l.line f:=by unfold Kg;rw[if_neg z51a,if_neg z51a,if_pos z51a]
 rw[hp]at hnd;rw[hnd,hr.nil',By];have HC:=A0 (Zp hst.st l.line);have HSt:=A0 hst;have d0:w.cell? ⟨b,0,none⟩=some (.int .i64 (l.line:Nat)):=A2 hb 0 _ rfl;have ld:=A5 hb;have Dh:=fun(v:Value) (w:World)=>Bl (P:=Tryz.prog) (t:=264) (T:=143) (xT:=142) (z:=.pointer none) Tryz.underlying143 (by kernel_rfl) z52a v w;have Dz:=fun(v:Value) (w:World)=>Bl (P:=Tryz.prog) (t:=264) (T:=145) (xT:=142) (z:=.pointer none) Tryz.underlying145 (by kernel_rfl) z52a v w;have Ep:=fun(v:Value) (w:World)=>Bl (P:=Tryz.prog) (t:=264) (T:=253) (xT:=142) (z:=.pointer none) Tryz.underlying253 (by kernel_rfl) z52a v w;have Fk:=fun(v:Value) (w:World)=>Bl (P:=Tryz.prog) (t:=264) (T:=255) (xT:=142) (z:=.pointer none) Tryz.underlying255 (by kernel_rfl) z52a v w;have G9:=fun(v:Value) (w:World)=>Bl (P:=Tryz.prog) (t:=264) (T:=257) (xT:=142) (z:=.pointer none) Tryz.underlying257 (by kernel_rfl) z52a v w;have Hx:=fun(v:Value) (w:World)=>Bl (P:=Tryz.prog) (t:=264) (T:=259) (xT:=142) (z:=.pointer none) Tryz.underlying259 (by kernel_rfl) z52a v w;have J6:=fun(v:Value) (w:World)=>E3 (P:=Tryz.prog) (xT:=142) Tryz.underlying264 v w;exact z1ta
theorem Aav(K:CC)(l:A6)(c:BT A6)(hk:l.kd=24)(ih:D8 (Fz K) c)(hwf:Wf 0 c):K4 K l c:=by
 intro D w outer cur bl wh inn f rc v ks hst hn hr C1 C9 G1;obtain⟨hlo,lcb,hncb⟩:=hst.lo;unfold Bx at hn;rw[if_neg z51a]at hn;obtain⟨b,cs,rfl,hD,hb,hl⟩:=hn;have e1:Ck l.kd=257:=by rw[hk];rfl
 have e2:Dn l.kd=318:=by rw[hk];rfl
 rw[e1];rw[e2]at hb;unfold Cy at hl;simp only[hk]at hl;obtain⟨a,rfl,hks⟩:=hl;have hnd:=Iw K.fns l c z51a z51a z51a outer cur wh inn f;have hp:Kg K.fns l (Az c) outer cur wh inn f=Ed (!inn) 4 l.line f:=by unfold Kg;rw[if_neg z51a,if_neg z51a,if_neg z51a,if_pos z51a]
 rw[hp]at hnd;rw[hnd,Kj K.fns c hwf];have HC:=A0 (Aa9 K l c ih hwf D w outer cur _ wh inn f rc b a ks hst hD hb hks hr);have ld:=A5 hb;have Dh:=fun(v:Value) (w:World)=>Bl (P:=Tryz.prog) (t:=257) (T:=143) (xT:=142) (z:=.pointer none) Tryz.underlying143 (by kernel_rfl) z52a v w;have Dz:=fun(v:Value) (w:World)=>Bl (P:=Tryz.prog) (t:=257) (T:=145) (xT:=142) (z:=.pointer none) Tryz.underlying145 (by kernel_rfl) z52a v w;have Ep:=fun(v:Value) (w:World)=>Bl (P:=Tryz.prog) (t:=257) (T:=253) (xT:=142) (z:=.pointer none) Tryz.underlying253 (by kernel_rfl) z52a v w;have Fk:=fun(v:Value) (w:World)=>Bl (P:=Tryz.prog) (t:=257) (T:=255) (xT:=142) (z:=.pointer none) Tryz.underlying255 (by kernel_rfl) z52a v w;have G9:=fun(v:Value) (w:World)=>E3 (P:=Tryz.prog) (xT:=142) Tryz.underlying257 v w;clear hst hb e1 e2 hk hr hnd C1 C9 G1 hp ih hwf hks;exact z1ia
theorem Aas(K:CC)(l:A6)(c:BT A6)(hk:l.kd=21)(ih:D8 (Fz K) c)(hwf:Wf 0 c):K4 K l c:=by
 intro D w outer cur bl wh inn f rc v ks hst hn hr C1 C9 G1;obtain⟨hlo,lcb,hncb⟩:=hst.lo;unfold Bx at hn;rw[if_neg z51a]at hn;obtain⟨b,cs,rfl,hD,hb,hl⟩:=hn;have e1:Ck l.kd=145:=by rw[hk];rfl
 have e2:Dn l.kd=152:=by rw[hk];rfl
 rw[e1];rw[e2]at hb;unfold Cy at hl;simp only[hk]at hl;obtain⟨a,rfl,rfl⟩:=hl;have hnd:By K.fns (nd l c) outer cur wh inn f=((By K.fns c outer cur wh inn (Ed (decide (l.s∈cur)) 3 l.line f)).1++[l.s],(By K.fns c outer cur wh inn (Ed (decide (l.s∈cur)) 3 l.line f)).2):=by
  rw[nd,By,if_neg z51a,if_neg z51a,if_pos hk,By]
 rw[hnd,Kj K.fns c hwf];obtain⟨x1,y1,l1,c1,r1,De,rfl,Bk,Au,hz⟩:=hr.cons';obtain rfl:=hz.nil';rw[Jt];have HF:=A0 (Vx hst.st l.line l.s);have HSt:=A0 hst;have HC:=A0 (fun W g (hs:K.St D W (outer++cur) (bl++[outer.length]) wh inn g rc) (hbd:A3 D w W)=>ih.1 D W outer cur _ wh inn g rc a De hs (Bk.Bv hbd) (Au.Bv hbd));have d0:w.cell? ⟨b,0,none⟩=some (.int .i64 (l.line:Nat)):=A2 hb 0 _ rfl;have d1:w.cell? ⟨b,1,none⟩=some (.string ⟨l.s.toArray⟩):=A2 hb 1 _ rfl;have d2:=A2 hb 2 a rfl;have ld:=A5 hb;have HBk:=A0 hb;have hnl:(outer++cur).length+1<=700000:=by have:=Co l (.node x1 y1 l1 c1 .nil);omega
 have Dh:=fun(v:Value) (w:World)=>Bl (P:=Tryz.prog) (t:=145) (T:=143) (xT:=142) (z:=.pointer none) Tryz.underlying143 (by kernel_rfl) z52a v w;have Dz:=fun(v:Value) (w:World)=>E3 (P:=Tryz.prog) (xT:=142) Tryz.underlying145 v w;clear hst hb e1 e2 hk hr Bk Au hz ih hwf hnd C1 C9 G1;unfold Ch;go_enter Tryz.func192,Tryz.ntmps192;go_wp2_with fail
 refine HF.o.mono ?_;rintro e w1 ⟨rfl,Al,A1⟩;have A7:=A0 (HSt.o.next Al A1);have A4:=A0 A1;have Bu:=(A1.block b hD).trans HBk.o;clear Al A1 d0 d1 d2 ld;have d2:=A2 Bu 2 a rfl;have ld:=A5 Bu;clear Bu;go_wp2_with fail
 refine(HC.o _ _ A7.o A4.o).mono ?_;rintro e w2 ⟨rfl,B5,A8⟩;have Aj:=A0 B5;have Aa:Hid (A3 D w w2):=A4.o.trans A8;clear B5 A8 ;have Dd:=(Aa.o.block b hD).trans HBk.o;clear d2 ld;have d1:w2.cell? ⟨b,1,none⟩=some (.string ⟨l.s.toArray⟩):=A2 Dd 1 _ rfl;have ld:=A5 Dd;obtain⟨na,nn,nc,ba,bn,bc,la,ln,lc,ls,hv⟩:=Aj.o.st;have lcb2:=A5 hv.cell;have HV:=A0 (hv.keep (w':=w2.drew) (fun _ _=>rfl) (Nat.le_refl _));have HP:=A0 (Uw HV.o.Ll (by rw[Ok];omega) ⟨l.s.toArray⟩ z56a);clear Dd hv;go_wp2;go_region_law (refine F2 rfl 137 _ _ rfl #[.pointer (some ⟨K.cb,2,none⟩),.string ⟨l.s.toArray⟩] (by kernel_rfl) HP.o ?_;rintro e w3 ⟨rfl,hp3⟩;refine⟨_,rfl,?_⟩)
 all_goals go_wp2
 all_goals go_end0
 all_goals obtain⟨k1,k2⟩:=HV.o.Xr l.s z51a hp3
 all_goals rw[List.append_assoc]at k1
 all_goals have k3:A3 D w2 w3:=⟨k2.os,k2.tape,k2.output,k2.size,k2.block⟩
 all_goals exact⟨rfl,Aj.o.next k1 k3,Aa.o.trans k3⟩
theorem z1ha {P:Prop} (h:P:=by
  unfold Ch;go_enter Tryz.func192,Tryz.ntmps192;go_wp2_with fail
  refine(HC.o).mono ?_;rintro e w1 ⟨rfl,Al,A1⟩;have A7:=A0 Al;have A4:Hid (A3 D w w1):=A1;clear Al A1 d0 ld;have Bu:=(A4.o.block b hD).trans HBk.o;have d1:=A2 Bu 1 _ rfl;have ld:=A5 Bu;clear Bu;go_wp2_with fail
  refine(Fb.o _ _ A7.o A4.o).mono ?_;rintro e w2 ⟨rfl,B5,A8⟩;have Aj:=A0 B5;have Aa:Hid (A3 D w w2):=A4.o.trans A8;clear B5 A8 ;go_wp2;go_end0;exact⟨rfl,Aj.o,Aa.o⟩):P:=h
theorem Aaw(K:CC)(l:A6)(c:BT A6)(hk:l.kd=28)(ih:D8 (Fz K) c)(hwf:Wf 0 c):K4 K l c:=by
 intro D w outer cur bl wh inn f rc v ks hst hn hr C1 C9 G1;obtain⟨hlo,lcb,hncb⟩:=hst.lo;unfold Bx at hn;rw[if_neg z51a]at hn;obtain⟨b,cs,rfl,hD,hb,hl⟩:=hn;have e1:Ck l.kd=268:=by rw[hk];rfl
 have e2:Dn l.kd=322:=by rw[hk];rfl
 rw[e1];rw[e2]at hb;unfold Cy at hl;simp only[hk]at hl;obtain⟨b2,a,rfl,Iz,A8,rfl⟩:=hl;have hnd:=Iw K.fns l c z51a z51a z51a outer cur wh inn f;have hp:Kg K.fns l (Az c) outer cur wh inn f=(By K.fns (nd ⟨6,l.line,l.s,0,[]⟩ .nil) outer cur wh inn f).2:=by
  rw[Iw K.fns _ _ z56a z56a z56a,By];unfold Kg;rw[if_pos z51a,if_pos z56a]
 rw[hp]at hnd;rw[hnd,Kj K.fns c hwf];obtain⟨x1,y1,l1,c1,r1,De,rfl,Bk,Au,hz⟩:=hr.cons';obtain rfl:=hz.nil';rw[Jt];have hv6:Bx D w ⟨6,l.line,l.s,0,[]⟩ (.iface 238 (Ch b2)) []:=Bx.new (l:=⟨6,l.line,l.s,0,[]⟩) z56a Iz A8 ⟨rfl,rfl⟩;have HC:=A0 (Zm K ⟨6,l.line,l.s,0,[]⟩ .nil rfl D w outer cur _ wh inn f rc _ [] hst hv6 rfl);have Fb:=A0 (fun W g (hs:K.St D W (outer++cur) (bl++[outer.length]) wh inn g rc) (hbd:A3 D w W)=>ih.1 D W outer cur _ wh inn g rc a De hs (Bk.Bv hbd) (Au.Bv hbd));have d0:=A2 hb 0 _ rfl;have ld:=A5 hb;have HBk:=A0 hb;have Dh:=fun(v:Value) (w:World)=>Bl (P:=Tryz.prog) (t:=268) (T:=143) (xT:=142) (z:=.pointer none) Tryz.underlying143 (by kernel_rfl) z52a v w;have Dz:=fun(v:Value) (w:World)=>Bl (P:=Tryz.prog) (t:=268) (T:=145) (xT:=142) (z:=.pointer none) Tryz.underlying145 (by kernel_rfl) z52a v w;have Ep:=fun(v:Value) (w:World)=>Bl (P:=Tryz.prog) (t:=268) (T:=253) (xT:=142) (z:=.pointer none) Tryz.underlying253 (by kernel_rfl) z52a v w;have Fk:=fun(v:Value) (w:World)=>Bl (P:=Tryz.prog) (t:=268) (T:=255) (xT:=142) (z:=.pointer none) Tryz.underlying255 (by kernel_rfl) z52a v w;have G9:=fun(v:Value) (w:World)=>Bl (P:=Tryz.prog) (t:=268) (T:=257) (xT:=142) (z:=.pointer none) Tryz.underlying257 (by kernel_rfl) z52a v w;have Hx:=fun(v:Value) (w:World)=>Bl (P:=Tryz.prog) (t:=268) (T:=259) (xT:=142) (z:=.pointer none) Tryz.underlying259 (by kernel_rfl) z52a v w;have J6:=fun(v:Value) (w:World)=>Bl (P:=Tryz.prog) (t:=268) (T:=264) (xT:=142) (z:=.pointer none) Tryz.underlying264 (by kernel_rfl) z52a v w;have ta7:=fun(v:Value) (w:World)=>Bl (P:=Tryz.prog) (t:=268) (T:=265) (xT:=142) (z:=.pointer none) Tryz.underlying265 (by kernel_rfl) z52a v w;have ta8:=fun(v:Value) (w:World)=>E3 (P:=Tryz.prog) (xT:=142) Tryz.underlying268 v w;clear hst hb e1 e2 hk hr Bk Au hz ih hwf hnd C1 C9 G1 hp hv6 A8;exact z1ha
theorem Aau(K:CC)(l:A6)(c:BT A6)(hk:l.kd=29)(ih:D8 (Fz K) c)(hwf:Wf 0 c):K4 K l c:=by
 intro D w outer cur bl wh inn f rc v ks hst hn hr C1 C9 G1;obtain⟨hlo,lcb,hncb⟩:=hst.lo;unfold Bx at hn;rw[if_neg z51a]at hn;obtain⟨b,cs,rfl,hD,hb,hl⟩:=hn;have e1:Ck l.kd=268:=by rw[hk];rfl
 have e2:Dn l.kd=322:=by rw[hk];rfl
 rw[e1];rw[e2]at hb;unfold Cy at hl;simp only[hk]at hl;obtain⟨b2,o,p,a,rfl,Iz,A8,rfl⟩:=hl;have hnd:=Iw K.fns l c z51a z51a z51a outer cur wh inn f;rw[Kh z51a]at hnd;rw[hnd,Kj K.fns c hwf];obtain⟨x1,y1,l1,c1,r1,De,rfl,Bk,Au,hz⟩:=hr.cons';obtain⟨x2,y2,l2,c2,r2,Gm,rfl,Dm,B7,hzz⟩:=hz.cons';obtain⟨x3,y3,l3,c3,r3,ks3,rfl,hn3,Cj,hzzz⟩:=hzz.cons';obtain rfl:=hzzz.nil';have hw12:Wf 0 (.node x1 y1 l1 c1 (.node x2 y2 l2 c2 .nil)):=⟨⟨trivial,hwf.1.2⟩,hwf.2⟩;have h12:By K.fns (.node x1 y1 l1 c1 (.node x2 y2 l2 c2 (.node x3 y3 l3 c3 .nil))) outer cur wh inn f=By K.fns (nd l3 c3) outer cur wh inn (By K.fns (nd (Bb 12 l.line) (.node x1 y1 l1 c1 (.node x2 y2 l2 c2 .nil))) outer cur wh inn f).2:=by
  rw[Iw K.fns (Bb 12 l.line) _ z5ha z5ha z5ha,Kh z5ha];rw[sens_xy' K.fns x1,sens_xy' K.fns x2,Jt];rw[sens_xy' K.fns x1 y1 l1 c1 (.node x2 y2 l2 c2 .nil),Jt];rw[Kj K.fns (nd l1 c1) hwf.Qh,Kj K.fns (nd l2 c2) hwf.1.Qh]
 rw[h12];have hv12:Bx D w (Bb 12 l.line) (.iface 310 (Ch b2)) [o,p]:=Bx.new (l:=Bb 12 l.line) z5ha Iz A8 ⟨o,p,rfl,rfl⟩;have HC:=A0 (Zl K (Bb 12 l.line) (.node x1 y1 l1 c1 (.node x2 y2 l2 c2 .nil)) rfl ⟨ih.1,ih.2.1,trivial⟩ hw12 D w outer cur _ wh inn f rc _ [o,p] hst hv12 ⟨o,De,[p],rfl,Bk,Au,⟨p,Gm,[],rfl,Dm,B7,rfl⟩⟩);have Fb:=A0 (fun W g (hs:K.St D W (outer++cur) (bl++[outer.length]) wh inn g rc) (hbd:A3 D w W)=>ih.2.2.1 D W outer cur _ wh inn g rc a ks3 hs (hn3.Bv hbd) (Cj.Bv hbd));have d0:=A2 hb 0 _ rfl;have ld:=A5 hb;have HBk:=A0 hb;have Dh:=fun(v:Value) (w:World)=>Bl (P:=Tryz.prog) (t:=268) (T:=143) (xT:=142) (z:=.pointer none) Tryz.underlying143 (by kernel_rfl) z52a v w;have Dz:=fun(v:Value) (w:World)=>Bl (P:=Tryz.prog) (t:=268) (T:=145) (xT:=142) (z:=.pointer none) Tryz.underlying145 (by kernel_rfl) z52a v w;have Ep:=fun(v:Value) (w:World)=>Bl (P:=Tryz.prog) (t:=268) (T:=253) (xT:=142) (z:=.pointer none) Tryz.underlying253 (by kernel_rfl) z52a v w;have Fk:=fun(v:Value) (w:World)=>Bl (P:=Tryz.prog) (t:=268) (T:=255) (xT:=142) (z:=.pointer none) Tryz.underlying255 (by kernel_rfl) z52a v w;have G9:=fun(v:Value) (w:World)=>Bl (P:=Tryz.prog) (t:=268) (T:=257) (xT:=142) (z:=.pointer none) Tryz.underlying257 (by kernel_rfl) z52a v w;have Hx:=fun(v:Value) (w:World)=>Bl (P:=Tryz.prog) (t:=268) (T:=259) (xT:=142) (z:=.pointer none) Tryz.underlying259 (by kernel_rfl) z52a v w;have J6:=fun(v:Value) (w:World)=>Bl (P:=Tryz.prog) (t:=268) (T:=264) (xT:=142) (z:=.pointer none) Tryz.underlying264 (by kernel_rfl) z52a v w;have ta7:=fun(v:Value) (w:World)=>Bl (P:=Tryz.prog) (t:=268) (T:=265) (xT:=142) (z:=.pointer none) Tryz.underlying265 (by kernel_rfl) z52a v w;have ta8:=fun(v:Value) (w:World)=>E3 (P:=Tryz.prog) (xT:=142) Tryz.underlying268 v w;clear hst hb e1 e2 hk hr Bk Au hz ih hwf hnd C1 C9 G1 hv12 A8 h12 hw12 Dm B7 hzz hn3 Cj hzzz;exact z1ha
def Part(K:CC)(l:A6)(c:BT A6):Prop:=(It l.kd=true->Fz K l c)/\((l.kd=31\/l.kd=32)->D8 (K4 K) c)
theorem Y3(fns:List (Nm×Nat)){l:A6}(c:BT A6)(h:l.kd=31)(outer cur:List Nm)(wh:Nat)(inn:Bool)(f:Cw):By fns (nd l c) outer cur wh inn f=(cur,(By fns c (outer++cur) [] wh inn f).2):=by
 rw[nd,By,if_pos h,By]
theorem Akj(fns:List (Nm×Nat)){l:A6}(c:BT A6)(h:l.kd=32)(outer cur:List Nm)(wh:Nat)(inn:Bool)(f:Cw):By fns (nd l c) outer cur wh inn f=(cur,(By fns c (outer++cur) [] (wh+1) inn f).2):=by
 rw[nd,By,if_neg z51a,if_pos h,By]
theorem Bx.Qg{D:Nat->Prop}{w:World}{l:A6}{t:TypeId}{x:Value}{ks:List Value}(h:Bx D w l (.iface t x) ks):l.kd≠31/\l.kd≠32:=by
 unfold Bx at h;split at h
 ·obtain⟨⟨_,_,_,e⟩,_⟩:=h;cases e
 ·omega
theorem Bx.Oi{D:Nat->Prop}{w:World}{l:A6}{a:Option Addr}{n m:Nat}{ks:List Value}(h:Bx D w l (.slice a n m) ks):(l.kd=31\/l.kd=32)/\Cz D w 142 1 (.slice a n m) ks.length ks:=by
 unfold Bx at h;split at h
 ·rename_i h1;exact⟨h1,h.2⟩
 ·obtain⟨b,cs,e,_⟩:=h;cases e
theorem Wf.Lf{x y:Nat}{l:A6}{c r:BT A6}(h:Wf 2 (.node x y l c r)):(l.kd≠31->It l.kd=true/\Wf 0 c)/\(l.kd=31\/l.kd=32->l.kd=31/\Wf 1 c):=by
 rcases h.2 with⟨_,h1,h2⟩|⟨_,h1,h2⟩|⟨h1,_⟩|⟨h1,_⟩|⟨h1,_⟩|⟨h1,_⟩|⟨h1,_⟩
 ·exact⟨fun _=>⟨h1,h2⟩,fun e=>by have:=Of h1;omega⟩
 ·exact⟨fun e=>absurd h1 e,fun _=>⟨h1,h2⟩⟩
 all_goals omega
theorem Wf.Pj{x y:Nat}{l:A6}{c r:BT A6}(h:Wf 3 (.node x y l c r)):(l.kd≠32->It l.kd=true/\Wf 0 c)/\(l.kd=31\/l.kd=32->l.kd=32/\Wf 1 c):=by
 rcases h.2 with⟨_,h1,h2⟩|⟨h1,_⟩|⟨_,h1,h2⟩|⟨h1,_⟩|⟨h1,_⟩|⟨h1,_⟩|⟨h1,_⟩
 ·exact⟨fun _=>⟨h1,h2⟩,fun e=>by have:=Of h1;omega⟩
 ·omega
 ·exact⟨fun e=>absurd h1 e,fun _=>⟨h1,h2⟩⟩
 all_goals omega
theorem Wf.Ri{l:A6}{c:BT A6}(h:It l.kd=true)(hc:Wf 0 c):Wf 0 (nd l c):=Wf.ex h hc
theorem z4aa {P:Prop} (h:P:=by
  exact⟨rfl,Bg.o,Ay.o⟩):P:=h
theorem z63a {P:Prop} (h:P:=by simp only[bsize];omega):P:=h
theorem Aar(K:CC)(l:A6)(c:BT A6)(hk:l.kd=22)(ih:D8 (Part K) c)(hwf:Wf 2 c):K4 K l c:=by
 intro D w outer cur bl wh inn f rc v ks hst hn hr C1 C9 G1;obtain⟨hlo,lcb,hncb⟩:=hst.lo;unfold Bx at hn;rw[if_neg z51a]at hn;obtain⟨b,cs,rfl,hD,hb,hl⟩:=hn;have e1:Ck l.kd=253:=by rw[hk];rfl
 have e2:Dn l.kd=314:=by rw[hk];rfl
 rw[e1];rw[e2]at hb;unfold Cy at hl;simp only[hk]at hl;obtain⟨t,x,s1,n1,m1,s2,n2,m2,rfl,hks⟩:=hl;have hnd:=Iw K.fns l c z51a z51a z51a outer cur wh inn f;rw[Kh z51a]at hnd;rw[hnd];have d0:=A2 hb 1 _ rfl;have ld:=A5 hb;have HBk:=A0 hb;rw[Co]at C1 C9 G1;have Dh:=fun(v:Value) (w:World)=>Bl (P:=Tryz.prog) (t:=253) (T:=143) (xT:=142) (z:=.pointer none) Tryz.underlying143 (by kernel_rfl) z52a v w;have Dz:=fun(v:Value) (w:World)=>Bl (P:=Tryz.prog) (t:=253) (T:=145) (xT:=142) (z:=.pointer none) Tryz.underlying145 (by kernel_rfl) z52a v w;have Ep:=fun(v:Value) (w:World)=>E3 (P:=Tryz.prog) (xT:=142) Tryz.underlying253 v w;rcases hks with⟨rfl,B5⟩|rfl
 ·obtain⟨x1,y1,l1,c1,r1,De,rfl,Bk,Au,hz⟩:=hr.cons';obtain⟨x2,y2,l2,c2,r2,Gm,rfl,Dm,B7,hzz⟩:=hz.cons';obtain rfl:=hzz.nil';injection B5 with q1 q2 q3;subst q1 q2 q3;obtain⟨E1,Fp⟩:=hwf.Lf.1 Bk.Qg.1;obtain⟨Cm,Be⟩:=Dm.Oi;obtain⟨h31,_⟩:=hwf.1.Lf.2 Cm;simp only[bsize]at C1 C9 G1;have hse:By K.fns (.node x1 y1 l1 c1 (.node x2 y2 l2 c2 .nil)) outer cur wh inn f=(cur,(By K.fns c2 (outer++cur) [] wh inn (By K.fns (nd l1 c1) outer cur wh inn f).2).2):=by
   rw[sens_xy' K.fns x1,Kj K.fns _ (Wf.Ri E1 Fp),Jt,Y3 K.fns c2 h31]
  rw[hse];have HC:=A0 (ih.1.1 E1 D w outer cur _ wh inn f rc _ De hst Bk Au);have Fb:=A0 (fun W g (hs:K.St D W (outer++cur) (bl++[outer.length]) wh inn g rc) (hbd:A3 D w W)=>Rb K c2 (ih.2.1.2 Cm) D W (outer++cur) (bl++[outer.length]) wh inn g rc s1 n1 m1 Gm hs (Be.Bv hbd) (B7.Bv hbd) z51a z54a z51a);have HC3:=A0 (fun W g (hs:K.St D W (outer++cur) (bl++[outer.length]) wh inn g rc)=>Rb K .nil trivial D W (outer++cur) (bl++[outer.length]) wh inn g rc none 0 0 [] hs (Oq _ _ _ _) rfl z63a (by simp only[bsize];simp;omega) z63a);clear hst hb e1 e2 hk hr Bk Au hz ih hwf hnd C1 C9 G1 Dm B7 hzz E1 Fp Cm Be h31 hse;unfold Ch;go_enter Tryz.func192,Tryz.ntmps192;go_wp2_with fail
  refine(HC.o).mono ?_;rintro e w1 ⟨rfl,Al,A1⟩;have A7:=A0 Al;have A4:Hid (A3 D w w1):=A1;clear Al A1 d0 ld;have Bu:=(A4.o.block b hD).trans HBk.o;have d1:=A2 Bu 2 _ rfl;have ld:=A5 Bu;clear Bu;go_wp2_with fail
  refine(Fb.o _ _ A7.o A4.o).mono ?_;rintro e w2 ⟨rfl,B5,A8⟩;have Aj:=A0 B5;have Aa:Hid (A3 D w w2):=A4.o.trans A8;clear B5 A8 d1 ld;have Dd:=(Aa.o.block b hD).trans HBk.o;have d2:=A2 Dd 3 _ rfl;have ld:=A5 Dd;clear Dd;go_wp2_with fail
  refine(HC3.o _ _ Aj.o).mono ?_;rintro e w3 ⟨rfl,Ca,Ak⟩;have Bg:=A0 Ca;have Ay:Hid (A3 D w w3):=Aa.o.trans Ak;clear Ca Ak ;go_wp2;go_end0;rw[By]at Bg;exact z4aa
 ·obtain⟨x1,y1,l1,c1,r1,De,rfl,Bk,Au,hz⟩:=hr.cons';obtain⟨x2,y2,l2,c2,r2,Gm,rfl,Dm,B7,hzz⟩:=hz.cons';obtain⟨x3,y3,l3,c3,r3,ks3,rfl,hn3,Cj,hzzz⟩:=hzz.cons';obtain rfl:=hzzz.nil';obtain⟨E1,Fp⟩:=hwf.Lf.1 Bk.Qg.1;obtain⟨Cm,Be⟩:=Dm.Oi;obtain⟨h31,_⟩:=hwf.1.Lf.2 Cm;obtain⟨hk3,Cv⟩:=hn3.Oi;obtain⟨h31',_⟩:=hwf.1.1.Lf.2 hk3;simp only[bsize]at C1 C9 G1;have hse:By K.fns (.node x1 y1 l1 c1 (.node x2 y2 l2 c2 (.node x3 y3 l3 c3 .nil))) outer cur wh inn f=(cur,(By K.fns c3 (outer++cur) [] wh inn (By K.fns c2 (outer++cur) [] wh inn (By K.fns (nd l1 c1) outer cur wh inn f).2).2).2):=by
   rw[sens_xy' K.fns x1,Kj K.fns _ (Wf.Ri E1 Fp),sens_xy' K.fns x2,Y3 K.fns c2 h31,Jt,Y3 K.fns c3 h31']
  rw[hse];have HC:=A0 (ih.1.1 E1 D w outer cur _ wh inn f rc _ De hst Bk Au);have Fb:=A0 (fun W g (hs:K.St D W (outer++cur) (bl++[outer.length]) wh inn g rc) (hbd:A3 D w W)=>Rb K c2 (ih.2.1.2 Cm) D W (outer++cur) (bl++[outer.length]) wh inn g rc s1 n1 m1 Gm hs (Be.Bv hbd) (B7.Bv hbd) z51a z54a z51a);have HC3:=A0 (fun W g (hs:K.St D W (outer++cur) (bl++[outer.length]) wh inn g rc) (hbd:A3 D w W)=>Rb K c3 (ih.2.2.1.2 hk3) D W (outer++cur) (bl++[outer.length]) wh inn g rc s2 n2 m2 ks3 hs (Cv.Bv hbd) (Cj.Bv hbd) z51a z54a z51a);clear hst hb e1 e2 hk hr Bk Au hz ih hwf hnd C1 C9 G1 Dm B7 hzz E1 Fp Cm Be h31 hse hn3 Cj hzzz hk3 Cv h31';unfold Ch;go_enter Tryz.func192,Tryz.ntmps192;go_wp2_with fail
  refine(HC.o).mono ?_;rintro e w1 ⟨rfl,Al,A1⟩;have A7:=A0 Al;have A4:Hid (A3 D w w1):=A1;clear Al A1 d0 ld;have Bu:=(A4.o.block b hD).trans HBk.o;have d1:=A2 Bu 2 _ rfl;have ld:=A5 Bu;clear Bu;go_wp2_with fail
  refine(Fb.o _ _ A7.o A4.o).mono ?_;rintro e w2 ⟨rfl,B5,A8⟩;have Aj:=A0 B5;have Aa:Hid (A3 D w w2):=A4.o.trans A8;clear B5 A8 d1 ld;have Dd:=(Aa.o.block b hD).trans HBk.o;have d2:=A2 Dd 3 _ rfl;have ld:=A5 Dd;clear Dd;go_wp2_with fail
  refine(HC3.o _ _ Aj.o Aa.o).mono ?_;rintro e w3 ⟨rfl,Ca,Ak⟩;have Bg:=A0 Ca;have Ay:Hid (A3 D w w3):=Aa.o.trans Ak;clear Ca Ak ;exact z27a
theorem Aax(K:CC)(l:A6)(c:BT A6)(hk:l.kd=23)(ih:D8 (Part K) c)(hwf:Wf 3 c):K4 K l c:=by
 intro D w outer cur bl wh inn f rc v ks hst hn hr C1 C9 G1;obtain⟨hlo,lcb,hncb⟩:=hst.lo;unfold Bx at hn;rw[if_neg z51a]at hn;obtain⟨b,cs,rfl,hD,hb,hl⟩:=hn;have e1:Ck l.kd=255:=by rw[hk];rfl
 have e2:Dn l.kd=317:=by rw[hk];rfl
 rw[e1];rw[e2]at hb;unfold Cy at hl;simp only[hk]at hl;obtain⟨t,x,s1,n1,m1,rfl,rfl⟩:=hl;have hnd:=Iw K.fns l c z51a z51a z51a outer cur wh inn f;rw[Kh z51a]at hnd;rw[hnd];have d0:=A2 hb 1 _ rfl;have ld:=A5 hb;have HBk:=A0 hb;rw[Co]at C1 C9 G1;have Dh:=fun(v:Value) (w:World)=>Bl (P:=Tryz.prog) (t:=255) (T:=143) (xT:=142) (z:=.pointer none) Tryz.underlying143 (by kernel_rfl) z52a v w;have Dz:=fun(v:Value) (w:World)=>Bl (P:=Tryz.prog) (t:=255) (T:=145) (xT:=142) (z:=.pointer none) Tryz.underlying145 (by kernel_rfl) z52a v w;have Ep:=fun(v:Value) (w:World)=>Bl (P:=Tryz.prog) (t:=255) (T:=253) (xT:=142) (z:=.pointer none) Tryz.underlying253 (by kernel_rfl) z52a v w;have Fk:=fun(v:Value) (w:World)=>E3 (P:=Tryz.prog) (xT:=142) Tryz.underlying255 v w;obtain⟨x1,y1,l1,c1,r1,De,rfl,Bk,Au,hz⟩:=hr.cons';obtain⟨x2,y2,l2,c2,r2,Gm,rfl,Dm,B7,hzz⟩:=hz.cons';obtain rfl:=hzz.nil';obtain⟨E1,Fp⟩:=hwf.Pj.1 Bk.Qg.2;obtain⟨Cm,Be⟩:=Dm.Oi;obtain⟨h32,_⟩:=hwf.1.Pj.2 Cm;simp only[bsize]at C1 C9 G1;have hse:By K.fns (.node x1 y1 l1 c1 (.node x2 y2 l2 c2 .nil)) outer cur wh inn f=(cur,(By K.fns c2 (outer++cur) [] (wh+1) inn (By K.fns (nd l1 c1) outer cur wh inn f).2).2):=by
  rw[sens_xy' K.fns x1,Kj K.fns _ (Wf.Ri E1 Fp),Jt,Akj K.fns c2 h32]
 rw[hse];have HC:=A0 (ih.1.1 E1 D w outer cur _ wh inn f rc _ De hst Bk Au);have Fb:=A0 (fun W g (hs:K.St D W (outer++cur) (bl++[outer.length]) (wh+1) inn g rc) (hbd:A3 D w W)=>Rb K c2 (ih.2.1.2 Cm) D W (outer++cur) (bl++[outer.length]) (wh+1) inn g rc s1 n1 m1 Gm hs (Be.Bv hbd) (B7.Bv hbd) z51a z54a z51a);have hwh:wh+1<=700000:=by omega
 clear hst hb e1 e2 hk hr Bk Au hz ih hwf hnd C1 C9 G1 Dm B7 hzz E1 Fp Cm Be h32 hse;unfold Ch;go_enter Tryz.func192,Tryz.ntmps192;go_wp2_with fail
 refine(HC.o).mono ?_;rintro e w1 ⟨rfl,Al,A1⟩;have A7:=A0 Al;have A4:Hid (A3 D w w1):=A1;clear Al A1 d0 ld;have Bu:=(A4.o.block b hD).trans HBk.o;have ld:=A5 Bu;clear Bu;obtain⟨na,nn,nc,ba,bn,bc,la,ln,lc,ls,hv⟩:=A7.o.st;have lcb1:=A5 hv.cell;have HV:=A0 hv;have HP:=A0 (Amc hv.Yb (by rw[hv.lsl];omega) (some ⟨b,0,none⟩) z56a);clear hv;go_wp2_with fail
 refine HP.o.mono ?_;rintro e w2 ⟨rfl,hp2⟩;obtain⟨k1,k2⟩:=HV.o.Xq _ z51a hp2;have Aj:=A0 (A7.o.next k1 k2);have Aa:Hid (A3 D w w2):=A4.o.trans k2;have Dd:=(Aa.o.block b hD).trans HBk.o;clear ld k1 k2 hp2 lcb1;have d2:=A2 Dd 2 _ rfl;have ld:=A5 Dd;clear Dd;go_wp2_with fail
 refine(Fb.o _ _ Aj.o Aa.o).mono ?_;rintro e w3 ⟨rfl,Ca,Ak⟩;have Bg:=A0 Ca;have Ay:Hid (A3 D w w3):=Aa.o.trans Ak;clear Ca Ak d2 ld;obtain⟨na3,nn3,nc3,ba3,bn3,bc3,la3,ln3,lc3,ls3,hv3⟩:=Bg.o.st;have lcb3:=A5 hv3.cell;have HV3:=A0 hv3;have hl3:=hv3.lsl;have Bn:=A0 (Am8 hv3.Yb z51a wh z51a hl3 z56a);clear hv3;go_wp2_with fail
 refine Bn.o.mono ?_;rintro e w4 ⟨rfl,hp4⟩;obtain⟨k3,k4⟩:=HV3.o.Ab2 wh z51a hp4;have Er:=A0 (Bg.o.next k3 k4);have Cn:Hid (A3 D w w4):=Ay.o.trans k4;clear k3 k4 hp4;exact z3ca
theorem A43(K:CC):∀f:BT A6,bsize f<=500000->(Wf 1 f->D8 (K4 K) f)/\(Wf 2 f->D8 (Part K) f)/\(Wf 3 f->D8 (Part K) f):=by
 intro f;induction f with
 | nil=>intro _;exact⟨fun _=>trivial,fun _=>trivial,fun _=>trivial⟩
 | node x y l c r Ds D9=>
  intro hs;rw[bsize]at hs;obtain⟨i1,i2,i3⟩:=Ds z51a;obtain⟨j1,j2,j3⟩:=D9 z51a;refine⟨fun h=>⟨?_,j1 h.1⟩,fun h=>⟨⟨fun hx=>?_,fun hx=>i1 (h.Lf.2 hx).2⟩,j2 h.1⟩,fun h=>⟨⟨fun hx=>?_,fun hx=>i1 (h.Pj.2 hx).2⟩,j3 h.1⟩⟩
  ·rcases h.2 with⟨h0,_⟩|⟨h0,_⟩|⟨h0,_⟩|⟨_,h1,h2⟩|⟨_,h1,h2⟩|⟨_,h1,h2⟩|⟨h0,_⟩
   ·omega
   ·omega
   ·omega
   ·exact Aar K l c h1 (i2 h2) h2
   ·exact Aax K l c h1 (i3 h2) h2
   ·have hx:=Wj K c h2 z51a;unfold Po at h1;simp only[Bool.or_eq_true,Bool.and_eq_true,decide_eq_true_eq,beq_iff_eq]at h1;have hc:l.kd=21\/l.kd=24\/l.kd=25\/l.kd=26\/l.kd=27\/l.kd=28\/l.kd=29\/l.kd=30:=by omega
    rcases hc with e|e|e|e|e|e|e|e
    ·exact Aas K l c e hx h2
    ·exact Aav K l c e hx h2
    ·exact Aan K l c e
    ·exact Aao K l c e
    ·exact Aat K l c e hx h2
    ·exact Aaw K l c e hx h2
    ·exact Aau K l c e hx h2
    ·exact Aap K l c e hx h2
   ·omega
  ·have hw:=h.Lf.1 (Of hx).1;exact(Wj K (nd l c) (Wf.Ri hw.1 hw.2) (by rw[Co];omega)).1
  ·have hw:=h.Pj.1 (Of hx).2.1;exact(Wj K (nd l c) (Wf.Ri hw.1 hw.2) (by rw[Co];omega)).1
theorem Ub(ps:List (Nat×List UInt8)):∀(i:Nat) (h:i<ps.length),(Ki ps)[i*2]?=some (.int .i64 (ps[i].1:Nat))/\(Ki ps)[i*2+1]?=some (.string ⟨ps[i].2.toArray⟩):=by
 induction ps with
 | nil=>intro i h;simp at h
 | cons p r ih=>
  intro i h;have e:Ki (p::r)=Ge p.1::L6 p.2::Ki r:=by simp[Ki]
  rw[e];cases i with
  | zero=>exact⟨rfl,rfl⟩
  | succ i=>
   rw[show(i+1)*2=i*2+2 by omega,show i*2+2+1=i*2+1+2 by omega];exact ih i z68a
theorem Fa.A31{D:Nat->Prop}{cb te:Nat}{w:World}{ns:List Nm}{bk:List Nat}{wh:Nat}{inn:Bool}{f:Cw}{rc:Nat}{fa:Option Addr}{fn fc:Nat}(h:Fa D cb te w ns bk wh inn f rc fa fn fc)(o:Obj):Fa (fun g=>D g\/g=w.heap.size) cb te (w.alloc o) ns bk wh inn f rc fa fn fc:=by
 obtain⟨na,nn,nc,ba,bn,bc,la,ln,lc,ls,h⟩:=h;have hk:∀g,g<w.heap.size->(w.alloc o).heap[g]?=w.heap[g]?:=fun g hg=>Below.heap_alloc _ _ _ hg;have hc:=A5 h.cell;refine⟨na,nn,nc,ba,bn,bc,la,ln,lc,ls,(hk cb hc).trans h.cell,B8 h.names (fun g _ hl=>hk g hl),B8 h.blocks (fun g _ hl=>hk g hl),B8 h.loops (fun g _ hl=>hk g hl),h.lsl,?_,?_,?_,?_,h.Bw,?_⟩
 ·rintro(e|e)
  ·exact h.Gv e
  ·omega
 ·intro g hg;have:=Bs h.names g hg;exact⟨fun e=>by rcases e with e|e;exact(h.D7 g hg).1 e;omega,(h.D7 g hg).2⟩
 ·intro g hg;have:=Bs h.blocks g hg;exact⟨fun e=>by rcases e with e|e;exact(h.G7 g hg).1 e;omega,(h.G7 g hg).2⟩
 ·intro g hg;have:=Bs h.loops g hg;exact⟨fun e=>by rcases e with e|e;exact(h.J0 g hg).1 e;omega,(h.J0 g hg).2⟩
 ·rintro g (e|e)
  ·have:=h.lo g e;simp;omega
  ·simp;omega
theorem Fa.weak{D E:Nat->Prop}{cb te:Nat}{w:World}{ns:List Nm}{bk:List Nat}{wh:Nat}{inn:Bool}{f:Cw}{rc:Nat}{fa:Option Addr}{fn fc:Nat}(h:Fa D cb te w ns bk wh inn f rc fa fn fc)(he:∀g,E g->D g):Fa E cb te w ns bk wh inn f rc fa fn fc:=by
 obtain⟨na,nn,nc,ba,bn,bc,la,ln,lc,ls,h⟩:=h;exact⟨na,nn,nc,ba,bn,bc,la,ln,lc,ls,h.cell,h.names,h.blocks,h.loops,h.lsl,fun e=>h.Gv (he _ e),fun g hg=>⟨fun e=>(h.D7 g hg).1 (he g e),(h.D7 g hg).2⟩,fun g hg=>⟨fun e=>(h.G7 g hg).1 (he g e),(h.G7 g hg).2⟩,fun g hg=>⟨fun e=>(h.J0 g hg).1 (he g e),(h.J0 g hg).2⟩,h.Bw,fun g hg=>h.lo g (he g hg)⟩
theorem Ag9{w:World}{fns:List (Nm×Nat)}{fa:Option Addr}{k:Nat}{s:Nm}{p:Option Addr}(h:Mo w fns fa k s p):(p=none/\decide (s∈(fns.take k).map (·.1))=false)\/((∃pb,p=some ⟨pb,0,none⟩)/\decide (s∈(fns.take k).map (·.1))=true):=by
 rcases h with⟨e,hn⟩|⟨i,hi,pb,pa,pc,hik,e,_,es,_⟩
 ·left;refine⟨e,decide_eq_false (fun hm=>?_)⟩;obtain⟨j,hj,hjk,e2⟩:=A1i.1 hm;exact hn j hjk hj e2
 ·right;exact⟨⟨pb,e⟩,decide_eq_true (A1i.2 ⟨i,hi,hik,es⟩)⟩
theorem z00a {P:Prop} (h:P:=by
  have HF1:=A0 Ii;clear Ii;obtain⟨na2,nn2,nc2,ba2,bn2,bc2,la2,Gd,lc2,ls2,Fw⟩:=Aj.o.st;obtain⟨c0,c1,c2,c3,c4,c5,c6,c7,fz,lb⟩:=Nl Fw.cell;have HV2:=A0 Fw;clear Fw;have Dd:=(Aa.o.block b hD).trans HBlk.o;obtain⟨d0,d1,d2,d3,fd,ld⟩:=E4 Dd;clear Dd;go_wp2_with fail
  have hs2c:Fa D K.cb K.te ((w2.setCell ⟨K.cb,1,none⟩ (.int .i64 ((rc:Int)+1))).setCell ⟨K.cb,5,none⟩ (.bool true)) cur [0] 0 true f1 (rc+1) K.fa K.fn K.fc:=by
   refine⟨na2,nn2,nc2,ba2,bn2,bc2,la2,Gd,lc2,ls2,HV2.o.put true f1 (rc+1) z51a ?_ (fun g _ hne=>by rw[Below.heap_setCell _ _ _ _ z5sa,Below.heap_setCell _ _ _ _ z5sa]) z5fa⟩;have:=heap_set (j:=5) (heap_set (j:=1) HV2.o.cell (.int .i64 ((rc:Int)+1))) (.bool true);simpa using this
  have hb2c:A3 D w2 ((w2.setCell ⟨K.cb,1,none⟩ (.int .i64 ((rc:Int)+1))).setCell ⟨K.cb,5,none⟩ (.bool true)):=A3.set (p:=⟨K.cb,5,none⟩) (A3.set (p:=⟨K.cb,1,none⟩) (A3.refl _ _) hncb _) hncb _;refine(Tl hs2c z56a).mono ?_;rintro e w3 ⟨rfl,Ca,Ak⟩;have Ay:Hid (A3 D w w3):=Aa.o.trans (hb2c.trans Ak);have Bg:Hid (K.St D w3 cur ([0]++[cur.length]) 0 true f1 (rc+1)):=⟨Ca,HSt.o.fr.keep Ay.o⟩;clear Ca Ak hs2c hb2c c0 c1 c2 c3 c4 c5 c6 c7 fz lb d0 d1 d2 d3 fd ld HV2 Aj;have Ek:=(Ay.o.block b hD).trans HBlk.o;obtain⟨d0,d1,d2,d3,fd,ld⟩:=E4 Ek;clear Ek;go_wp2;go_loopg [46] l.ps.length (fun k v wr=>∃(i:Nat) (pcur:List Nm) (fl:Cw),v=.int .i64 i/\i+k=l.ps.length/\pcur.length=i/\K.St D wr (cur++pcur) ([0]++[cur.length]) 0 true fl (rc+1)/\J4 (l.ps.drop i) pcur fl=J4 l.ps [] f1/\A3 D w wr)
  case atStart=>exact⟨0,[],f1,rfl,by omega,rfl,by rw[List.append_nil];exact Bg.o,rfl,Ay.o⟩
  case round=>
   clear Bg Ay d0 d1 d2 d3 fd ld Aa;obtain⟨i,pcur,fl,rfl,hik,hpc,hst,hpf,hbel⟩:=hrel;have HStR:=A0 hst;have HPf:=A0 hpf;have HBelR:=A0 hbel;obtain⟨hloR,lcbR,_⟩:=hst.lo;clear hst hpf hbel;by_cases hlt:i<l.ps.length
   ·obtain⟨g,rfl,_,hcapP,lg,hcell⟩:=G2 (HPrm.o.Bv HBelR.o).1 z51a;obtain⟨q0,q1⟩:=Ub l.ps i hlt;have y0:=hcell _ _ q0;have y1:=hcell _ _ q1;have HStep:=A0 (A30 l.ps i hlt pcur fl);generalize l.ps[i]=pp at *;have HPr:=A0 (HStR.o.st.A31 (.cells #[.int .i64 (pp.1:Nat),.string ⟨pp.2.toArray⟩] 148));have HCell:=A0 (heap_alloc_new wr (.cells #[.int .i64 (pp.1:Nat),.string ⟨pp.2.toArray⟩] 148));clear hcell q0 q1;go_wp2_with fail
    refine(Vx HPr.o pp.1 pp.2).mono ?_;rintro e w5 ⟨rfl,Cr,Cl⟩;have hc5:=(Cl.block wr.heap.size (.inr rfl)).trans HCell.o;obtain⟨z0,z1,fz5,lz⟩:=Is hc5;have E7:Hid (A3 D wr w5):=A3.trans ((A3.refl D wr).alloc hloR _) (Cl.weak (fun g hg=>.inl hg));obtain⟨na5,nn5,nc5,ba5,bn5,bc5,la5,ln5,lc5,ls5,Ik⟩:=Cr;have lcb5:=A5 Ik.cell;have HV5:=A0 (Ik.keep (w':=w5.drew) (fun _ _=>rfl) (Nat.le_refl _));have Ew:=A0 (Uw HV5.o.Ll (by rw[Ok,List.length_append];omega) ⟨pp.2.toArray⟩ z56a);clear Cl hc5 Ik y0 y1 HPr;generalize wr.heap.size=tb5 at *;go_wp2;go_region_law (refine F2 rfl 137 _ _ rfl #[.pointer (some ⟨K.cb,2,none⟩),.string ⟨pp.2.toArray⟩] (by kernel_rfl) Ew.o ?_;rintro e w6 ⟨rfl,hp6⟩;refine⟨_,rfl,?_⟩)
    all_goals
     obtain⟨k1,k2⟩:=HV5.o.Xr pp.2 z6ya hp6;have HS6:=A0 (k1.weak (E:=D) (fun g hg=>.inl hg));have I8:Hid (A3 D w w6):=HBelR.o.trans (E7.o.trans (A3.weak (D:=fun g=>D g\/g=tb5) ⟨k2.os,k2.tape,k2.output,k2.size,k2.block⟩ (fun g hg=>.inl hg)));clear k1 k2 hp6 HV5 Ew;go_wp2;go_roundg (gk-1)
     case measure=>omega
     case rel=>
      refine⟨i+1,pcur++[pp.2],_,rfl,by omega,by simp;omega,⟨by rw[<-List.append_assoc];exact HS6.o,HSt.o.fr.keep I8.o⟩,?_,I8.o⟩;rw[<-HPf.o,HStep.o]
   ·have hend:(pcur,fl)=J4 l.ps [] f1:=by rw[<-HPf.o,A2z l.ps i z51a]
    have HEnd:=A0 hend;have hbkR:=(HBelR.o.block b hD).trans HBlk.o;obtain⟨d0,d1,d2,d3,fd,ld⟩:=E4 hbkR;clear hbkR hend;go_wp2_with fail
    refine(HRun.o wr pcur fl HStR.o HBelR.o z51a).mono ?_;rintro e w7 ⟨rfl,G5,Ih⟩;have HS7:=A0 G5;have HB7:Hid (A3 D w w7):=HBelR.o.trans Ih;clear G5 Ih;go_wp2_with fail
    refine(Th HS7.o.st z56a).mono ?_;rintro e w8 ⟨rfl,hs8,hb8⟩;rw[List.take_left]at hs8;have HB8:Hid (A3 D w w8):=HB7.o.trans hb8;obtain⟨na8,nn8,nc8,ba8,bn8,bc8,la8,ln8,lc8,ls8,hv8⟩:=hs8;obtain⟨e0,e1,e2,e3,e4,e5,e6,e7,fe,le⟩:=Nl hv8.cell;have HV8:=A0 hv8;clear hb8 hv8;go_wp2;go_end0;have D1:A3 D w8 (w8.setCell ⟨K.cb,5,none⟩ (.bool false)):=A3.set (p:=⟨K.cb,5,none⟩) (A3.refl _ _) hncb _;rw[HF1.o,<-HEnd.o];refine⟨rfl,⟨⟨na8,nn8,nc8,ba8,bn8,bc8,la8,ln8,lc8,ls8,HV8.o.put false _ (rc+1) HV8.o.Bw.2.2.2 ?_ (fun g _ hne=>Below.heap_setCell _ _ _ _ z5sa) z5fa⟩,HSt.o.fr.keep (HB8.o.trans D1)⟩,HB8.o.trans D1⟩;have:=heap_set (j:=5) HV8.o.cell (.bool false);simpa using this):P:=h
theorem Aa1(K:CC)(l:A6)(c:BT A6)(hok:D8 (K4 K) c)(D:Nat->Prop)(w:World)(cur:List Nm)(f:Cw)(rc:Nat)(b:Nat)(pa:Option Addr)(pn pc:Nat)(va:Option Addr)(vn vc:Nat)(ks:List Value)
  (hst:K.St D w cur [0] 0 false f rc) (hrc:rc<K.fns.length) (hD:D b) (hblk:w.heap[b]?=some (.cells #[.int .i64 (l.line:Nat),.string ⟨l.s.toArray⟩,.slice pa pn pc,.slice va vn vc] 218 (0,0)))
  (hprm:Cz D w 148 2 (.slice pa pn pc) l.ps.length (Ki l.ps)) (hown:Cz D w 142 1 (.slice va vn vc) ks.length ks) (hrep:Ao D w c ks) (A1:cur.length+l.ps.length+bsize c<=600000) :
  Calls Tryz.prog 234 #[.pointer (some ⟨K.cb,0,none⟩),.pointer (some ⟨b,0,none⟩)] w fun e w'=>e=.returned (.tuple #[])/\K.St D w' cur [0] 0 false (By K.fns c cur (J4 l.ps [] (Ed (decide (l.s∈(K.fns.take rc).map (·.1))) 3 l.line f)).1 0 true (J4 l.ps [] (Ed (decide (l.s∈(K.fns.take rc).map (·.1))) 3 l.line f)).2).2 (rc+1)/\A3 D w w':=by
 obtain⟨hlo,lcb,hncb⟩:=hst.lo;have hpn:pn=l.ps.length:=(Cg hprm.1).1;subst hpn;have hcb:K.cb≠b:=fun e=>hncb (by rw[e];exact hD);obtain⟨p,hp⟩:=hst.fr.find l.s rc z51a;have HNm:=A0 (fun(n:Nat)=>Zq (hst.drewN n).fr rc z51a l.s p hp);have hseen:=Ag9 hp;have hcap:=hst.fr.cap;have hlen:=hst.fr.len;have hfew:=hst.fr.Bw;have HSt:=A0 hst;have HBlk:=A0 hblk;have HPrm:=A0 hprm;have HRun:=A0 (fun(W:World) (pcur:List Nm) (g:Cw) (hs:K.St D W (cur++pcur) ([0]++[cur.length]) 0 true g (rc+1)) (hbd:A3 D w W) (hpl:pcur.length<=l.ps.length)=>Zu K c hok D W cur pcur [0] 0 true g (rc+1) va vn vc ks hs (hown.Bv hbd) (hrep.Bv hbd) z6ya z54a z51a);obtain⟨na,nn,nc,ba,bn,bc,la,ln,lc,ls,hv⟩:=hst.st;obtain⟨c0,c1,c2,c3,c4,c5,c6,c7,fz,lb⟩:=Nl hv.cell;obtain⟨d0,d1,d2,d3,fd,ld⟩:=E4 hblk;have hcap2:rc<=K.fc:=by omega
 rw[hlen]at c0;have hrl:rc<=K.fns.length:=by omega
 clear hst hblk hprm hown hrep hp hv hcap hlen;generalize hsq:decide (l.s∈(K.fns.take rc).map (·.1))=sq at *;have HSq:=A0 hsq;clear hsq;go_enter Tryz.func234,Tryz.ntmps234;go_wp2;go_quiet ((go_at_call 263;exact Calls.quiet_of_same (HNm.o _)))
 rcases hseen with⟨rfl,hsv⟩|⟨⟨pb,rfl⟩,hsv⟩
 ·have Aj:Hid (K.St D (w.drewN nq) cur [0] 0 false (Ed sq 3 l.line f) rc):=by rw[hsv,Pu];exact HSt.o.drewN nq
  have Aa:=A0 (Dv D w nq);clear c0 c1 c2 c3 c4 c5 c6 c7 fz lb d0 d1 d2 d3 fd ld hsv;generalize w.drewN nq=w2 at *;generalize Ii:Ed sq 3 l.line f=f1 at *;exact z00a
 ·have A7:=A0 (HSt.o.drewN nq);have A4:=A0 (Dv D w nq);have J7:Hid ((w.drewN nq).heap[b]?=_):=HBlk.o;clear c0 c1 c2 c3 c4 c5 c6 c7 fz lb d0 d1 d2 d3 fd ld;generalize w.drewN nq=w1 at *;obtain⟨d0,d1,d2,d3,fd,ld⟩:=E4 J7.o;subst hsv;go_wp2_with fail
  refine(Oa A7.o.st 3 l.line).mono ?_;rintro e w2 ⟨rfl,B5,A8⟩;have Aj:=A0 (A7.o.next B5 A8);have Aa:Hid (A3 D w w2):=A4.o.trans A8;clear B5 A8 d0 d1 d2 d3 fd ld A7 A4 J7;generalize Ii:Ed true 3 l.line f=f1 at *;exact z00a
end
end Go.Proofs.YtjdlndhfaaolaaaGreatDoor
