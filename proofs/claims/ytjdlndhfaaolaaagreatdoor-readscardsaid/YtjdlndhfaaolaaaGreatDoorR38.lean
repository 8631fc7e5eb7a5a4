import Derived.Test.YtjdlndhfaaolaaaGreatDoorR37
set_option maxHeartbeats 20000000
namespace Go.Proofs.YtjdlndhfaaolaaaGreatDoor
section
set_option maxRecDepth 100000
open Go.RowKit
open Go.Deep (BT)
theorem Oe{w:World}{base:Nat}{e:TypeId}{size:Nat}{v:Value}{n:Nat}{xs:List Value}(h:w.ownsRow base e size v n xs):∃a n c,v=.slice a n c:=by
 rcases h.2 with⟨rfl,_⟩|⟨g,cap,cur,rfl,_⟩
 ·exact⟨_,_,_,rfl⟩
 ·exact⟨_,_,_,rfl⟩
theorem A3a(K:CC)(l:A2)(c:BT A2)(hk:l.kd=9)(ih:Co (Gf K) c)(hwf:Wf 0 c)(hsz:A8 c<=500000):Gf K l c:=by
 intro D w outer cur bk wh inn f rc v ks hst hn hr;obtain⟨hlo,lcb,hncb⟩:=hst.lo;unfold Ba at hn;rw[if_neg (by omega)]at hn;obtain⟨b,cs,rfl,hD,hb,hl⟩:=hn;have e1:C3 l.kd=296:=by rw[hk];rfl
 have e2:Db l.kd=300:=by rw[hk];rfl
 rw[e1];rw[e2]at hb;rw[K1 K.fns l c (by omega) (by omega) (by omega)];unfold Ck at hl;simp only[hk]at hl;obtain⟨sl,rfl,ho⟩:=hl;rw[Lu (by omega)];obtain⟨va,vn,vc,rfl⟩:∃va vn vc,sl=.slice va vn vc:=Oe ho.1;have HC:=A0 (X7 K c ih hwf D w outer cur bk wh inn f rc va vn vc ks hst ho hr (by rw[hr.len];exact hsz));have d0:=Ac hb 1 _ rfl;have ld:=A5 hb;have D4:=fun(v:Value) (w:World)=>Az (P:=Tryz.prog) (t:=296) (T:=238) (xT:=150) (z:=.pointer none) Tryz.underlying238 (by kernel_rfl) (by decide) v w;have Dt:=fun(v:Value) (w:World)=>Az (P:=Tryz.prog) (t:=296) (T:=301) (xT:=150) (z:=.pointer none) Tryz.underlying301 (by kernel_rfl) (by decide) v w;have Er:=fun(v:Value) (w:World)=>Az (P:=Tryz.prog) (t:=296) (T:=241) (xT:=150) (z:=.pointer none) Tryz.underlying241 (by kernel_rfl) (by decide) v w;have Fm:=fun(v:Value) (w:World)=>Dz (P:=Tryz.prog) (xT:=150) Tryz.underlying296 v w;clear hst hb e1 e2 hk hr ih hwf ho;unfold Bx;go_enter Tryz.func236,Tryz.ntmps236;go_wp2_with fail
 refine HC.o.mono ?_;rintro e w1 ⟨rfl,Ad,A3⟩;have Aq:=A0 Ad;have Ab:=A0 A3;clear Ad A3;go_wp2;go_end0;exact⟨rfl,Aq.o,Ab.o⟩
theorem A36(K:CC)(l:A2)(c:BT A2)(hk:l.kd=7)(ih:Co (Gf K) c)(hwf:Wf 0 c)(hsz:A8 c<=500000):Gf K l c:=by
 intro D w outer cur bk wh inn f rc v ks hst hn hr;obtain⟨hlo,lcb,hncb⟩:=hst.lo;unfold Ba at hn;rw[if_neg (by omega)]at hn;obtain⟨b,cs,rfl,hD,hb,hl⟩:=hn;have e1:C3 l.kd=301:=by rw[hk];rfl
 have e2:Db l.kd=303:=by rw[hk];rfl
 rw[e1];rw[e2]at hb;rw[K1 K.fns l c (by omega) (by omega) (by omega)];unfold Ck at hl;simp only[hk]at hl;obtain⟨sl,rfl,ho⟩:=hl;have hp:Lt K.fns l (A8 c) outer cur wh inn f=Bu (Ky K.fns l.s (A8 c)) 3 l.line f:=by unfold Lt;rw[if_neg (by omega),if_pos hk]
 rw[hp];obtain⟨va,vn,vc,rfl⟩:∃va vn vc,sl=.slice va vn vc:=Oe ho.1;have HC:=A0 (A33 K c ih hwf l.line l.s D w outer cur bk wh inn f rc b va vn vc ks hst hD hb ho hr (by rw[hr.len];exact hsz));have ld:=A5 hb;have D4:=fun(v:Value) (w:World)=>Az (P:=Tryz.prog) (t:=301) (T:=238) (xT:=150) (z:=.pointer none) Tryz.underlying238 (by kernel_rfl) (by decide) v w;have Dt:=fun(v:Value) (w:World)=>Dz (P:=Tryz.prog) (xT:=150) Tryz.underlying301 v w;clear hst hb e1 e2 hk hr ih hwf ho hp;unfold Bx;go_enter Tryz.func236,Tryz.ntmps236;go_wp2_with fail
 refine HC.o.mono ?_;rintro e w1 ⟨rfl,Ad,A3⟩;have Aq:=A0 Ad;have Ab:=A0 A3;clear Ad A3;go_wp2;go_end0;exact⟨rfl,Aq.o,Ab.o⟩
theorem bin_lay'{D:Nat->Prop}{w:World}{l:A2}{cs:Array Value}{ks:List Value}(hk:127<=l.kd/\l.kd<=140)(h:Ck D w l cs ks):∃a b,cs=#[Gz l.line,.int .i64 ((l.kd-100:Nat):Nat),a,b]/\ks=[a,b]:=by
 have h14:l.kd=127\/l.kd=128\/l.kd=129\/l.kd=130\/l.kd=131\/l.kd=132\/l.kd=133\/l.kd=134\/l.kd=135\/l.kd=136\/l.kd=137\/l.kd=138\/l.kd=139\/l.kd=140:=by omega
 unfold Ck at h;rcases h14 with e|e|e|e|e|e|e|e|e|e|e|e|e|e <;> (simp only[e]at h ⊢;exact h)
theorem bin_ty'{kd:Nat}(hk:127<=kd/\kd<=140):C3 kd=248/\Db kd=295:=by
 have h14:kd=127\/kd=128\/kd=129\/kd=130\/kd=131\/kd=132\/kd=133\/kd=134\/kd=135\/kd=136\/kd=137\/kd=138\/kd=139\/kd=140:=by omega
 rcases h14 with e|e|e|e|e|e|e|e|e|e|e|e|e|e <;> (subst e;exact⟨rfl,rfl⟩)
theorem A35(K:CC)(l:A2)(c:BT A2)(hk:127<=l.kd/\l.kd<=140)(ih:Co (Gf K) c)(hwf:Wf 0 c):Gf K l c:=by
 intro D w outer cur bk wh inn f rc v ks hst hn hr;obtain⟨hlo,lcb,hncb⟩:=hst.lo;unfold Ba at hn;rw[if_neg (by omega)]at hn;obtain⟨b,cs,rfl,hD,hb,hl⟩:=hn;obtain⟨e1,e2⟩:=bin_ty' hk;rw[e1];rw[e2]at hb;rw[K1 K.fns l c (by omega) (by omega) (by omega)];replace hl:=bin_lay' hk hl;obtain⟨a1,a2,rfl,rfl⟩:=hl;obtain⟨x1,y1,l1,c1,r1,Cx,rfl,B1,B0,hz⟩:=hr.cons';obtain⟨x2,y2,l2,c2,r2,Ho,rfl,D9,Bt,Bv⟩:=hz.cons';obtain rfl:=Bv.nil';have hc0:=Lx K.fns _ hwf.Qw outer cur wh inn f;rw[Lu (by omega),sens_xy',hc0,L5];have HC:=A0 (ih.1 D w outer cur bk wh inn f rc a1 Cx hst B1 B0);have E8:=A0 (fun W g (hs:K.St D W (outer++cur) bk wh inn g rc) (hbd:A4 D w W)=>ih.2.1 D W outer cur bk wh inn g rc a2 Ho hs (D9.Be hbd) (Bt.Be hbd));have d0:=Ac hb 2 a1 rfl;have ld:=A5 hb;have HBk:=A0 hb;have D4:=fun(v:Value) (w:World)=>Az (P:=Tryz.prog) (t:=248) (T:=238) (xT:=150) (z:=.pointer none) Tryz.underlying238 (by kernel_rfl) (by decide) v w;have Dt:=fun(v:Value) (w:World)=>Az (P:=Tryz.prog) (t:=248) (T:=301) (xT:=150) (z:=.pointer none) Tryz.underlying301 (by kernel_rfl) (by decide) v w;have Er:=fun(v:Value) (w:World)=>Az (P:=Tryz.prog) (t:=248) (T:=241) (xT:=150) (z:=.pointer none) Tryz.underlying241 (by kernel_rfl) (by decide) v w;have Fm:=fun(v:Value) (w:World)=>Az (P:=Tryz.prog) (t:=248) (T:=296) (xT:=150) (z:=.pointer none) Tryz.underlying296 (by kernel_rfl) (by decide) v w;have Gs:=fun(v:Value) (w:World)=>Az (P:=Tryz.prog) (t:=248) (T:=304) (xT:=150) (z:=.pointer none) Tryz.underlying304 (by kernel_rfl) (by decide) v w;have Iy:=fun(v:Value) (w:World)=>Az (P:=Tryz.prog) (t:=248) (T:=307) (xT:=150) (z:=.pointer none) Tryz.underlying307 (by kernel_rfl) (by decide) v w;have Kh:=fun(v:Value) (w:World)=>Az (P:=Tryz.prog) (t:=248) (T:=310) (xT:=150) (z:=.pointer none) Tryz.underlying310 (by kernel_rfl) (by decide) v w;have ta7:=fun(v:Value) (w:World)=>Az (P:=Tryz.prog) (t:=248) (T:=244) (xT:=150) (z:=.pointer none) Tryz.underlying244 (by kernel_rfl) (by decide) v w;have ta8:=fun(v:Value) (w:World)=>Dz (P:=Tryz.prog) (xT:=150) Tryz.underlying248 v w;clear hst hb e1 e2 hk hr B1 B0 hz ih hwf hc0 D9 Bt Bv;unfold Bx;go_enter Tryz.func236,Tryz.ntmps236;go_wp2_with fail
 refine HC.o.mono ?_;rintro e w1 ⟨rfl,Ad,A3⟩;have Aq:=A0 Ad;have Ab:=A0 A3;have B7:=(A3.block b hD).trans HBk.o;have d1:=Ac B7 3 a2 rfl;have ld1:=A5 B7;clear Ad A3 d0 ld B7;go_wp2_with fail
 refine(E8.o _ _ Aq.o Ab.o).mono ?_;rintro e w2 ⟨rfl,Av,A9⟩;have Bi:=A0 Av;have Ai:Hid (A4 D w w2):=Ab.o.trans A9;clear Av A9;go_wp2;go_end0;exact⟨rfl,Bi.o,Ai.o⟩
theorem A5h{kd:Nat}(h:Jz kd=true):(kd=1\/kd=2\/kd=3\/kd=4\/kd=5)\/kd=6\/kd=7\/kd=8\/kd=9\/kd=10\/kd=11\/kd=12\/kd=13\/kd=14\/(127<=kd/\kd<=140):=by
 unfold Jz at h;simp only[Bool.or_eq_true,Bool.and_eq_true,decide_eq_true_eq]at h;omega
theorem Wf.exs{x y:Nat}{l:A2}{c r:BT A2}(h:Wf 0 (.node x y l c r)):Jz l.kd=true/\Wf 0 c/\Wf 0 r:=by
 rcases h.2 with⟨_,h1,h2⟩|⟨h1,_⟩|⟨h1,_⟩|⟨h1,_⟩|⟨h1,_⟩|⟨h1,_⟩|⟨h1,_⟩
 ·exact⟨h1,h2,h.1⟩
 all_goals omega
theorem V0(K:CC):∀f:BT A2,Wf 0 f->bsize f<=500000->Co (Gf K) f:=by
 intro f;induction f with
 | nil=>intro _ _;trivial
 | node x y l c r C2 Bl=>
  intro h hs;obtain⟨h1,h2,h3⟩:=h.exs;rw[bsize]at hs;have ih:=C2 h2 (by omega);have hl:=Kl c;refine⟨?_,Bl h3 (by omega)⟩;rcases A5h h1 with e|e|e|e|e|e|e|e|e|e|e
  ·exact A38 K l c e
  ·exact X6 K l c e
  ·exact A36 K l c e ih h2 (by omega)
  ·exact A37 K l c e ih
  ·exact A3a K l c e ih h2 (by omega)
  ·exact A39 K l c e ih
  ·exact A3d K l c e ih h2
  ·exact X5 K l c e ih h2
  ·exact A3c K l c e ih
  ·exact A3b K l c e ih
  ·exact A35 K l c e ih h2
theorem Ba.isIface{D:Nat->Prop}{w:World}{l:A2}{v:Value}{ks:List Value}(h:Ba D w l v ks)(h1:l.kd≠31)(h2:l.kd≠32):∃t x,v=.iface t x:=by
 unfold Ba at h;rw[if_neg (by omega)]at h;obtain⟨b,cs,e,_⟩:=h;exact⟨_,_,e⟩
theorem Oo{kd:Nat}(h:Jz kd=true):kd≠31/\kd≠32/\kd≠21:=by
 unfold Jz at h;simp only[Bool.or_eq_true,Bool.and_eq_true,decide_eq_true_eq]at h;omega
def Lf(K:CC)(l:A2)(c:BT A2):Prop:=∀(D:Nat->Prop) (w:World) (outer cur:List Nm) (bl:List Nat) (wh:Nat) (inn:Bool) (f:B3) (rc:Nat) (v:Value) (ks:List Value),
 K.St D w (outer++cur) (bl++[outer.length]) wh inn f rc->Ba D w l v ks->Aj D w c ks->(outer++cur).length+bsize (nd l c)<=700000->bl.length+bsize (nd l c)<=700000->wh+bsize (nd l c)<=700000->
 Calls Tryz.prog 192 #[.pointer (some ⟨K.cb,0,none⟩),v] w fun e w'=>e=.returned (.tuple #[])/\K.St D w' (outer++(Ag K.fns (nd l c) outer cur wh inn f).1) (bl++[outer.length]) wh inn (Ag K.fns (nd l c) outer cur wh inn f).2 rc/\A4 D w w'
theorem Xf(K:CC)(c:BT A2)(hok:Co (Lf K) c)(D:Nat->Prop)(w:World)(outer cur:List Nm)(bl:List Nat)(wh:Nat)(inn:Bool)(f:B3)(rc:Nat)(va:Option Addr)(vn vc:Nat)(ks:List Value)
  (hst:K.St D w (outer++cur) (bl++[outer.length]) wh inn f rc) (hown:C1 D w 142 1 (.slice va vn vc) ks.length ks) (hrep:Aj D w c ks) (A3:(outer++cur).length+bsize c<=700000) (A9:bl.length+bsize c<=700000) (Ar:wh+bsize c<=700000) :
  Calls Tryz.prog 134 #[.pointer (some ⟨K.cb,0,none⟩),.slice va vn vc] w fun e w'=>e=.returned (.tuple #[])/\K.St D w' (outer++(Ag K.fns c outer cur wh inn f).1) (bl++[outer.length]) wh inn (Ag K.fns c outer cur wh inn f).2 rc/\A4 D w w':=by
 have hvn:vn=ks.length:=(C9 hown.1).1;subst hvn;have Dk:=A0 hst;have HOwn:=A0 hown;have HRep:=A0 hrep;have hlen:=hrep.len;have HLen:=A0 hlen;have hls:=Kl c;have hkl:ks.length<=700000:=by omega
 rw[List.length_append]at A3;clear hst hown hrep hlen;go_enter Tryz.func134,Tryz.ntmps134;go_wp2;go_loopg [8] ks.length (fun k v wr=>∃(i:Nat) (cn:List Nm) (fl:B3),v=.int .i64 i/\i+k=ks.length/\cn.length+bsize (Au i c)<=cur.length+bsize c/\K.St D wr (outer++cn) (bl++[outer.length]) wh inn fl rc/\Ag K.fns (Au i c) outer cn wh inn fl=Ag K.fns c outer cur wh inn f/\A4 D w wr)
 case atStart=>exact⟨0,cur,f,rfl,by omega,by rw[show Au 0 c=c from by cases c <;> rfl];exact Nat.le_refl _,Dk.o,rfl,A4.refl _ _⟩
 case round=>
  clear Dk;obtain⟨i,cn,fl,rfl,hik,hcn,hst,hse,hbel⟩:=hrel;have HSt:=A0 hst;have HSe:=A0 hse;have HBel:=A0 hbel;clear hst hse hbel;by_cases hlt:i<ks.length
  ·have hr:=HRep.o.Be HBel.o;obtain⟨x,y,l,cc,r,hd,v,ks',hv,hn,hrk⟩:=Aj.at' i c ks hr (by rw[←HLen.o];exact hlt);obtain⟨g,rfl,_,hcap,lg,hcell⟩:=Fs (HOwn.o.Be HBel.o).1 (by omega);have d0:=hcell i v hv;have hE:=A0 (hok.at' i c x y l cc r hd);have Ad:=sens_xy' K.fns x y l cc r outer cn wh inn fl;have hdn:=M4 i c;have hsz:bsize (Au i c)=bsize (nd l cc)+bsize r:=by rw[hd,B8,bsize]
   have hcl:=M8 K.fns (nd l cc) outer cn wh inn fl;have hds:=Ko i c x y l cc r hd;have HNx:Hid (Ag K.fns (Au (i+1) c) outer (Ag K.fns (nd l cc) outer cn wh inn fl).1 wh inn (Ag K.fns (nd l cc) outer cn wh inn fl).2=Ag K.fns c outer cur wh inn f):=by
    show _=_;rw[hds,←HSe.o,hd,Ad]
   have HDs:=A0 hds;have HC:=A0 (hE.out D wr outer cn bl wh inn fl rc v ks' HSt.o hn hrk (by rw[List.length_append];omega) (by omega) (by omega));clear hr hd hv hn hrk hcell Ad hds;go_wp2_with fail
   refine HC.o.mono ?_;rintro e w1 ⟨rfl,Ad,A3⟩;have Aq:=A0 Ad;have Ab:Hid (A4 D w w1):=HBel.o.trans A3;clear Ad A3;go_wp2;go_roundg (gk-1)
   case measure=>omega
   case rel=>exact⟨i+1,_,_,rfl,by omega,by rw[HDs.o];omega,Aq.o,HNx.o,Ab.o⟩
  ·have HE:Hid ((cn,fl)=Ag K.fns c outer cur wh inn f):=by
    have h0:Au i c=.nil:=by
     have:A8 (Au i c)=0:=by rw[L4,←HLen.o];omega
     cases hd:Au i c with
     | nil=>rfl
     | node x y l c r=>rw[hd]at this;simp[A8]at this
    have:=HSe.o;rw[h0]at this;exact this
   go_wp2;go_end0;rw[←HE.o];exact⟨rfl,HSt.o,HBel.o⟩
theorem Rm(K:CC)(c:BT A2)(hok:Co (Lf K) c)(D:Nat->Prop)(w:World)(ns:List Nm)(bk:List Nat)(wh:Nat)(inn:Bool)(f:B3)(rc:Nat)(va:Option Addr)(vn vc:Nat)(ks:List Value)
  (hst:K.St D w ns bk wh inn f rc) (hown:C1 D w 142 1 (.slice va vn vc) ks.length ks) (hrep:Aj D w c ks) (A3:ns.length+bsize c<=700000) (A9:bk.length+bsize c<=700000) (Ar:wh+bsize c<=700000) :
  Calls Tryz.prog 80 #[.pointer (some ⟨K.cb,0,none⟩),.slice va vn vc] w fun e w'=>e=.returned (.tuple #[])/\K.St D w' ns bk wh inn (Ag K.fns c ns [] wh inn f).2 rc/\A4 D w w':=by
 have HO:=A0 (Sw hst.st (by omega));have HSt:=A0 hst;have HRun:=A0 (fun(W:World) (hs:K.St D W (ns++[]) (bk++[ns.length]) wh inn f rc) (hbd:A4 D w W)=>Xf K c hok D W ns [] bk wh inn f rc va vn vc ks hs (hown.Be hbd) (hrep.Be hbd) (by simpa using A3) A9 Ar);clear hst hown hrep;go_enter Tryz.func80,Tryz.ntmps80;go_wp2_with fail
 refine HO.o.mono ?_;rintro e w1 ⟨rfl,Ad,A3⟩;have Aq:=A0 (HSt.o.next Ad A3);have Ab:=A0 A3;clear Ad A3;go_wp2_with fail
 refine(HRun.o _ (by rw[List.append_nil];exact Aq.o) Ab.o).mono ?_;rintro e w2 ⟨rfl,Av,A9⟩;have Bi:=A0 Av;have Ai:Hid (A4 D w w2):=Ab.o.trans A9;clear Av A9;go_wp2_with fail
 refine(Su Bi.o.st (by simp)).mono ?_;rintro e w3 ⟨rfl,At,Ar⟩;rw[List.take_left]at At;have Df:=A0 (Bi.o.next At Ar);have B4:Hid (A4 D w w3):=Ai.o.trans Ar;clear At Ar;go_wp2;go_end0;exact⟨rfl,Df.o,B4.o⟩
theorem A3g(K:CC)(l:A2)(c:BT A2)(ih:Co (Gf K) c)(hwf:Wf 0 c)(D:Nat->Prop)(w:World)(outer cur:List Nm)(bk:List Nat)(wh:Nat)(inn:Bool)(f:B3)(rc:Nat)(b:Nat)(a:Value)(ks:List Value)
  (hst:K.St D w (outer++cur) bk wh inn f rc) (hD:D b) (hblk:w.heap[b]?=some (.cells #[.int .i64 (l.line:Nat),a] 318 (0,0))) (hks:(ks=[]/\a=.nilIface)\/ks=[a]) (hrep:Aj D w c ks) :
  Calls Tryz.prog 239 #[.pointer (some ⟨K.cb,0,none⟩),.pointer (some ⟨b,0,none⟩)] w fun e w'=>e=.returned (.tuple #[])/\K.St D w' (outer++cur) bk wh inn (Ag K.fns c outer cur wh inn (Bu (!inn) 4 l.line f)).2 rc/\A4 D w w':=by
 obtain⟨hlo,lcb,hncb⟩:=hst.lo;have HSt:=A0 hst;have HBlk:=A0 hblk;obtain⟨na,nn,nc,ba,bn,bc,la,ln,lc,ls,hv⟩:=hst.st;obtain⟨c0,c1,c2,c3,c4,c5,c6,c7,fz,lb⟩:=Gn hv.cell;have d0:=Ac hblk 0 _ rfl;have d1:=Ac hblk 1 _ rfl;have ld:=A5 hblk;clear hst hblk hv c0 c1 c2 c3 c4 c6 c7 fz;rcases hks with⟨rfl,rfl⟩|rfl
 ·rw[hrep.nil',Ag];clear hrep;cases inn
  ·go_enter Tryz.func239,Tryz.ntmps239;go_wp2_with fail
   refine(Om HSt.o.st 4 l.line).mono ?_;rintro e w3 ⟨rfl,At,Ar⟩;have Df:=A0 (HSt.o.next At Ar);have B4:=A0 Ar;have En:=(Ar.block b hD).trans HBlk.o;clear At Ar d0 d1 ld c5;have d1:=Ac En 1 _ rfl;have ld:=A5 En;clear En;go_wp2;go_end0;exact⟨rfl,Df.o,B4.o⟩
  ·rw[show(!true)=false from rfl,Qd];go_enter Tryz.func239,Tryz.ntmps239;go_wp2;go_end0;exact⟨rfl,HSt.o,A4.refl _ _⟩
 ·obtain⟨x1,y1,l1,c1,r1,Cx,rfl,B1,B0,hz⟩:=hrep.cons';obtain rfl:=hz.nil';rw[L5];have hif:∃t x,a=.iface t x:=B1.isIface (Oo hwf.exs.1).1 (Oo hwf.exs.1).2.1;obtain⟨t,x,rfl⟩:=hif;have HC:=A0 (fun W g (hs:K.St D W (outer++cur) bk wh inn g rc) (hbd:A4 D w W)=>ih.1 D W outer cur bk wh inn g rc (.iface t x) Cx hs (B1.Be hbd) (B0.Be hbd));clear hrep B1 B0 hz ih hwf;cases inn
  ·go_enter Tryz.func239,Tryz.ntmps239;go_wp2_with fail
   refine(Om HSt.o.st 4 l.line).mono ?_;rintro e w3 ⟨rfl,At,Ar⟩;have Df:=A0 (HSt.o.next At Ar);have B4:=A0 Ar;have En:=(Ar.block b hD).trans HBlk.o;clear At Ar d0 d1 ld c5;have d1:=Ac En 1 _ rfl;have ld:=A5 En;clear En;go_wp2_with fail
   refine(HC.o _ _ Df.o B4.o).mono ?_;rintro e w4 ⟨rfl,Dx,Bc⟩;have Ia:=A0 Dx;have Dm:Hid (A4 D w w4):=B4.o.trans Bc;clear Dx Bc;go_wp2;go_end0;exact⟨rfl,Ia.o,Dm.o⟩
  ·rw[show(!true)=false from rfl,Qd];go_enter Tryz.func239,Tryz.ntmps239;go_wp2_with fail
   refine(HC.o _ _ HSt.o (A4.refl _ _)).mono ?_;rintro e w4 ⟨rfl,Dx,Bc⟩;have Ia:=A0 Dx;have Dm:=A0 Bc;clear Dx Bc;go_wp2;go_end0;exact⟨rfl,Ia.o,Dm.o⟩
theorem A43(K:CC)(l:A2)(c:BT A2)(hk:l.kd=27)(ih:Co (Gf K) c)(hwf:Wf 0 c):Lf K l c:=by
 intro D w outer cur bl wh inn f rc v ks hst hn hr C4 Bv Gi;obtain⟨hlo,lcb,hncb⟩:=hst.lo;unfold Ba at hn;rw[if_neg (by omega)]at hn;obtain⟨b,cs,rfl,hD,hb,hl⟩:=hn;have e1:C3 l.kd=265:=by rw[hk];rfl
 have e2:Db l.kd=267:=by rw[hk];rfl
 rw[e1];rw[e2]at hb;unfold Ck at hl;simp only[hk]at hl;obtain⟨a,rfl,rfl⟩:=hl;have hnd:=K1 K.fns l c (by omega) (by omega) (by omega) outer cur wh inn f;rw[Lu (by omega)]at hnd;rw[hnd,Lx K.fns c hwf];obtain⟨x1,y1,l1,c1,r1,Cx,rfl,B1,B0,hz⟩:=hr.cons';obtain rfl:=hz.nil';rw[L5];have HC:=A0 (ih.1 D w outer cur _ wh inn f rc a Cx hst B1 B0);have d0:=Ac hb 1 a rfl;have ld:=A5 hb;have D4:=fun(v:Value) (w:World)=>Az (P:=Tryz.prog) (t:=265) (T:=143) (xT:=142) (z:=.pointer none) Tryz.underlying143 (by kernel_rfl) (by decide) v w;have Dt:=fun(v:Value) (w:World)=>Az (P:=Tryz.prog) (t:=265) (T:=145) (xT:=142) (z:=.pointer none) Tryz.underlying145 (by kernel_rfl) (by decide) v w;have Er:=fun(v:Value) (w:World)=>Az (P:=Tryz.prog) (t:=265) (T:=253) (xT:=142) (z:=.pointer none) Tryz.underlying253 (by kernel_rfl) (by decide) v w;have Fm:=fun(v:Value) (w:World)=>Az (P:=Tryz.prog) (t:=265) (T:=255) (xT:=142) (z:=.pointer none) Tryz.underlying255 (by kernel_rfl) (by decide) v w;have Gs:=fun(v:Value) (w:World)=>Az (P:=Tryz.prog) (t:=265) (T:=257) (xT:=142) (z:=.pointer none) Tryz.underlying257 (by kernel_rfl) (by decide) v w;have Iy:=fun(v:Value) (w:World)=>Az (P:=Tryz.prog) (t:=265) (T:=259) (xT:=142) (z:=.pointer none) Tryz.underlying259 (by kernel_rfl) (by decide) v w;have Kh:=fun(v:Value) (w:World)=>Az (P:=Tryz.prog) (t:=265) (T:=264) (xT:=142) (z:=.pointer none) Tryz.underlying264 (by kernel_rfl) (by decide) v w;have ta7:=fun(v:Value) (w:World)=>Dz (P:=Tryz.prog) (xT:=142) Tryz.underlying265 v w;clear hst hb e1 e2 hk hr B1 B0 hz ih hwf hnd C4 Bv Gi;unfold Bx;go_enter Tryz.func192,Tryz.ntmps192;go_wp2_with fail
 refine(HC.o).mono ?_;rintro e w1 ⟨rfl,Ad,A3⟩;have Aq:=A0 Ad;have Ab:Hid (A4 D w w1):=A3;clear Ad A3 ;go_wp2;go_end0;exact⟨rfl,Aq.o,Ab.o⟩
theorem A3z(K:CC)(l:A2)(c:BT A2)(hk:l.kd=30)(ih:Co (Gf K) c)(hwf:Wf 0 c):Lf K l c:=by
 intro D w outer cur bl wh inn f rc v ks hst hn hr C4 Bv Gi;obtain⟨hlo,lcb,hncb⟩:=hst.lo;unfold Ba at hn;rw[if_neg (by omega)]at hn;obtain⟨b,cs,rfl,hD,hb,hl⟩:=hn;have e1:C3 l.kd=270:=by rw[hk];rfl
 have e2:Db l.kd=272:=by rw[hk];rfl
 rw[e1];rw[e2]at hb;unfold Ck at hl;simp only[hk]at hl;obtain⟨a,rfl,rfl⟩:=hl;have hnd:=K1 K.fns l c (by omega) (by omega) (by omega) outer cur wh inn f;rw[Lu (by omega)]at hnd;rw[hnd,Lx K.fns c hwf];obtain⟨x1,y1,l1,c1,r1,Cx,rfl,B1,B0,hz⟩:=hr.cons';obtain rfl:=hz.nil';rw[L5];have HC:=A0 (ih.1 D w outer cur _ wh inn f rc a Cx hst B1 B0);have d0:=Ac hb 0 a rfl;have ld:=A5 hb;have D4:=fun(v:Value) (w:World)=>Az (P:=Tryz.prog) (t:=270) (T:=143) (xT:=142) (z:=.pointer none) Tryz.underlying143 (by kernel_rfl) (by decide) v w;have Dt:=fun(v:Value) (w:World)=>Az (P:=Tryz.prog) (t:=270) (T:=145) (xT:=142) (z:=.pointer none) Tryz.underlying145 (by kernel_rfl) (by decide) v w;have Er:=fun(v:Value) (w:World)=>Az (P:=Tryz.prog) (t:=270) (T:=253) (xT:=142) (z:=.pointer none) Tryz.underlying253 (by kernel_rfl) (by decide) v w;have Fm:=fun(v:Value) (w:World)=>Az (P:=Tryz.prog) (t:=270) (T:=255) (xT:=142) (z:=.pointer none) Tryz.underlying255 (by kernel_rfl) (by decide) v w;have Gs:=fun(v:Value) (w:World)=>Az (P:=Tryz.prog) (t:=270) (T:=257) (xT:=142) (z:=.pointer none) Tryz.underlying257 (by kernel_rfl) (by decide) v w;have Iy:=fun(v:Value) (w:World)=>Az (P:=Tryz.prog) (t:=270) (T:=259) (xT:=142) (z:=.pointer none) Tryz.underlying259 (by kernel_rfl) (by decide) v w;have Kh:=fun(v:Value) (w:World)=>Az (P:=Tryz.prog) (t:=270) (T:=264) (xT:=142) (z:=.pointer none) Tryz.underlying264 (by kernel_rfl) (by decide) v w;have ta7:=fun(v:Value) (w:World)=>Az (P:=Tryz.prog) (t:=270) (T:=265) (xT:=142) (z:=.pointer none) Tryz.underlying265 (by kernel_rfl) (by decide) v w;have ta8:=fun(v:Value) (w:World)=>Az (P:=Tryz.prog) (t:=270) (T:=268) (xT:=142) (z:=.pointer none) Tryz.underlying268 (by kernel_rfl) (by decide) v w;have ta9:=fun(v:Value) (w:World)=>Dz (P:=Tryz.prog) (xT:=142) Tryz.underlying270 v w;clear hst hb e1 e2 hk hr B1 B0 hz ih hwf hnd C4 Bv Gi;unfold Bx;go_enter Tryz.func192,Tryz.ntmps192;go_wp2_with fail
 refine(HC.o).mono ?_;rintro e w1 ⟨rfl,Ad,A3⟩;have Aq:=A0 Ad;have Ab:Hid (A4 D w w1):=A3;clear Ad A3 ;go_wp2;go_end0;exact⟨rfl,Aq.o,Ab.o⟩
theorem A3x(K:CC)(l:A2)(c:BT A2)(hk:l.kd=25):Lf K l c:=by
 intro D w outer cur bl wh inn f rc v ks hst hn hr C4 Bv Gi;obtain⟨hlo,lcb,hncb⟩:=hst.lo;unfold Ba at hn;rw[if_neg (by omega)]at hn;obtain⟨b,cs,rfl,hD,hb,hl⟩:=hn;have e1:C3 l.kd=259:=by rw[hk];rfl
 have e2:Db l.kd=367:=by rw[hk];rfl
 rw[e1];rw[e2]at hb;unfold Ck at hl;simp only[hk]at hl;obtain⟨rfl,rfl⟩:=hl;have hnd:=K1 K.fns l c (by omega) (by omega) (by omega) outer cur wh inn f;have hp:Lt K.fns l (A8 c) outer cur wh inn f=Bu (wh==0) 4 l.line f:=by unfold Lt;rw[if_neg (by omega),if_neg (by omega),if_pos (by omega)]
 rw[hp]at hnd;rw[hnd,hr.nil',Ag];have HC:=A0 (X8 hst.st l.line);have HSt:=A0 hst;have d0:w.cell? ⟨b,0,none⟩=some (.int .i64 (l.line:Nat)):=Ac hb 0 _ rfl;have ld:=A5 hb;have D4:=fun(v:Value) (w:World)=>Az (P:=Tryz.prog) (t:=259) (T:=143) (xT:=142) (z:=.pointer none) Tryz.underlying143 (by kernel_rfl) (by decide) v w;have Dt:=fun(v:Value) (w:World)=>Az (P:=Tryz.prog) (t:=259) (T:=145) (xT:=142) (z:=.pointer none) Tryz.underlying145 (by kernel_rfl) (by decide) v w;have Er:=fun(v:Value) (w:World)=>Az (P:=Tryz.prog) (t:=259) (T:=253) (xT:=142) (z:=.pointer none) Tryz.underlying253 (by kernel_rfl) (by decide) v w;have Fm:=fun(v:Value) (w:World)=>Az (P:=Tryz.prog) (t:=259) (T:=255) (xT:=142) (z:=.pointer none) Tryz.underlying255 (by kernel_rfl) (by decide) v w;have Gs:=fun(v:Value) (w:World)=>Az (P:=Tryz.prog) (t:=259) (T:=257) (xT:=142) (z:=.pointer none) Tryz.underlying257 (by kernel_rfl) (by decide) v w;have Iy:=fun(v:Value) (w:World)=>Dz (P:=Tryz.prog) (xT:=142) Tryz.underlying259 v w;clear hst hb e1 e2 hk hr hnd C4 Bv Gi hp;unfold Bx;go_enter Tryz.func192,Tryz.ntmps192;go_wp2_with fail
 refine HC.o.mono ?_;rintro e w1 ⟨rfl,Ad,A3⟩;have Aq:=A0 (HSt.o.next Ad A3);have Ab:=A0 A3;clear Ad A3;go_wp2;go_end0;exact⟨rfl,Aq.o,Ab.o⟩
theorem A3y(K:CC)(l:A2)(c:BT A2)(hk:l.kd=26):Lf K l c:=by
 intro D w outer cur bl wh inn f rc v ks hst hn hr C4 Bv Gi;obtain⟨hlo,lcb,hncb⟩:=hst.lo;unfold Ba at hn;rw[if_neg (by omega)]at hn;obtain⟨b,cs,rfl,hD,hb,hl⟩:=hn;have e1:C3 l.kd=264:=by rw[hk];rfl
 have e2:Db l.kd=368:=by rw[hk];rfl
 rw[e1];rw[e2]at hb;unfold Ck at hl;simp only[hk]at hl;obtain⟨rfl,rfl⟩:=hl;have hnd:=K1 K.fns l c (by omega) (by omega) (by omega) outer cur wh inn f;have hp:Lt K.fns l (A8 c) outer cur wh inn f=Bu (wh==0) 4 l.line f:=by unfold Lt;rw[if_neg (by omega),if_neg (by omega),if_pos (by omega)]
 rw[hp]at hnd;rw[hnd,hr.nil',Ag];have HC:=A0 (X8 hst.st l.line);have HSt:=A0 hst;have d0:w.cell? ⟨b,0,none⟩=some (.int .i64 (l.line:Nat)):=Ac hb 0 _ rfl;have ld:=A5 hb;have D4:=fun(v:Value) (w:World)=>Az (P:=Tryz.prog) (t:=264) (T:=143) (xT:=142) (z:=.pointer none) Tryz.underlying143 (by kernel_rfl) (by decide) v w;have Dt:=fun(v:Value) (w:World)=>Az (P:=Tryz.prog) (t:=264) (T:=145) (xT:=142) (z:=.pointer none) Tryz.underlying145 (by kernel_rfl) (by decide) v w;have Er:=fun(v:Value) (w:World)=>Az (P:=Tryz.prog) (t:=264) (T:=253) (xT:=142) (z:=.pointer none) Tryz.underlying253 (by kernel_rfl) (by decide) v w;have Fm:=fun(v:Value) (w:World)=>Az (P:=Tryz.prog) (t:=264) (T:=255) (xT:=142) (z:=.pointer none) Tryz.underlying255 (by kernel_rfl) (by decide) v w;have Gs:=fun(v:Value) (w:World)=>Az (P:=Tryz.prog) (t:=264) (T:=257) (xT:=142) (z:=.pointer none) Tryz.underlying257 (by kernel_rfl) (by decide) v w;have Iy:=fun(v:Value) (w:World)=>Az (P:=Tryz.prog) (t:=264) (T:=259) (xT:=142) (z:=.pointer none) Tryz.underlying259 (by kernel_rfl) (by decide) v w;have Kh:=fun(v:Value) (w:World)=>Dz (P:=Tryz.prog) (xT:=142) Tryz.underlying264 v w;clear hst hb e1 e2 hk hr hnd C4 Bv Gi hp;unfold Bx;go_enter Tryz.func192,Tryz.ntmps192;go_wp2_with fail
 refine HC.o.mono ?_;rintro e w1 ⟨rfl,Ad,A3⟩;have Aq:=A0 (HSt.o.next Ad A3);have Ab:=A0 A3;clear Ad A3;go_wp2;go_end0;exact⟨rfl,Aq.o,Ab.o⟩
theorem A45(K:CC)(l:A2)(c:BT A2)(hk:l.kd=24)(ih:Co (Gf K) c)(hwf:Wf 0 c):Lf K l c:=by
 intro D w outer cur bl wh inn f rc v ks hst hn hr C4 Bv Gi;obtain⟨hlo,lcb,hncb⟩:=hst.lo;unfold Ba at hn;rw[if_neg (by omega)]at hn;obtain⟨b,cs,rfl,hD,hb,hl⟩:=hn;have e1:C3 l.kd=257:=by rw[hk];rfl
 have e2:Db l.kd=318:=by rw[hk];rfl
 rw[e1];rw[e2]at hb;unfold Ck at hl;simp only[hk]at hl;obtain⟨a,rfl,hks⟩:=hl;have hnd:=K1 K.fns l c (by omega) (by omega) (by omega) outer cur wh inn f;have hp:Lt K.fns l (A8 c) outer cur wh inn f=Bu (!inn) 4 l.line f:=by unfold Lt;rw[if_neg (by omega),if_neg (by omega),if_neg (by omega),if_pos (by omega)]
 rw[hp]at hnd;rw[hnd,Lx K.fns c hwf];have HC:=A0 (A3g K l c ih hwf D w outer cur _ wh inn f rc b a ks hst hD hb hks hr);have ld:=A5 hb;have D4:=fun(v:Value) (w:World)=>Az (P:=Tryz.prog) (t:=257) (T:=143) (xT:=142) (z:=.pointer none) Tryz.underlying143 (by kernel_rfl) (by decide) v w;have Dt:=fun(v:Value) (w:World)=>Az (P:=Tryz.prog) (t:=257) (T:=145) (xT:=142) (z:=.pointer none) Tryz.underlying145 (by kernel_rfl) (by decide) v w;have Er:=fun(v:Value) (w:World)=>Az (P:=Tryz.prog) (t:=257) (T:=253) (xT:=142) (z:=.pointer none) Tryz.underlying253 (by kernel_rfl) (by decide) v w;have Fm:=fun(v:Value) (w:World)=>Az (P:=Tryz.prog) (t:=257) (T:=255) (xT:=142) (z:=.pointer none) Tryz.underlying255 (by kernel_rfl) (by decide) v w;have Gs:=fun(v:Value) (w:World)=>Dz (P:=Tryz.prog) (xT:=142) Tryz.underlying257 v w;clear hst hb e1 e2 hk hr hnd C4 Bv Gi hp ih hwf hks;unfold Bx;go_enter Tryz.func192,Tryz.ntmps192;go_wp2_with fail
 refine(HC.o).mono ?_;rintro e w1 ⟨rfl,Ad,A3⟩;have Aq:=A0 Ad;have Ab:Hid (A4 D w w1):=A3;clear Ad A3 ;go_wp2;go_end0;exact⟨rfl,Aq.o,Ab.o⟩
theorem A42(K:CC)(l:A2)(c:BT A2)(hk:l.kd=21)(ih:Co (Gf K) c)(hwf:Wf 0 c):Lf K l c:=by
 intro D w outer cur bl wh inn f rc v ks hst hn hr C4 Bv Gi;obtain⟨hlo,lcb,hncb⟩:=hst.lo;unfold Ba at hn;rw[if_neg (by omega)]at hn;obtain⟨b,cs,rfl,hD,hb,hl⟩:=hn;have e1:C3 l.kd=145:=by rw[hk];rfl
 have e2:Db l.kd=152:=by rw[hk];rfl
 rw[e1];rw[e2]at hb;unfold Ck at hl;simp only[hk]at hl;obtain⟨a,rfl,rfl⟩:=hl;have hnd:Ag K.fns (nd l c) outer cur wh inn f=((Ag K.fns c outer cur wh inn (Bu (decide (l.s∈cur)) 3 l.line f)).1++[l.s],(Ag K.fns c outer cur wh inn (Bu (decide (l.s∈cur)) 3 l.line f)).2):=by
  rw[nd,Ag,if_neg (by omega),if_neg (by omega),if_pos hk,Ag]
 rw[hnd,Lx K.fns c hwf];obtain⟨x1,y1,l1,c1,r1,Cx,rfl,B1,B0,hz⟩:=hr.cons';obtain rfl:=hz.nil';rw[L5];have HF:=A0 (Uv hst.st l.line l.s);have HSt:=A0 hst;have HC:=A0 (fun W g (hs:K.St D W (outer++cur) (bl++[outer.length]) wh inn g rc) (hbd:A4 D w W)=>ih.1 D W outer cur _ wh inn g rc a Cx hs (B1.Be hbd) (B0.Be hbd));have d0:w.cell? ⟨b,0,none⟩=some (.int .i64 (l.line:Nat)):=Ac hb 0 _ rfl;have d1:w.cell? ⟨b,1,none⟩=some (.string ⟨l.s.toArray⟩):=Ac hb 1 _ rfl;have d2:=Ac hb 2 a rfl;have ld:=A5 hb;have HBk:=A0 hb;have hnl:(outer++cur).length+1<=700000:=by have:=B8 l (.node x1 y1 l1 c1 .nil);omega
 have D4:=fun(v:Value) (w:World)=>Az (P:=Tryz.prog) (t:=145) (T:=143) (xT:=142) (z:=.pointer none) Tryz.underlying143 (by kernel_rfl) (by decide) v w;have Dt:=fun(v:Value) (w:World)=>Dz (P:=Tryz.prog) (xT:=142) Tryz.underlying145 v w;clear hst hb e1 e2 hk hr B1 B0 hz ih hwf hnd C4 Bv Gi;unfold Bx;go_enter Tryz.func192,Tryz.ntmps192;go_wp2_with fail
 refine HF.o.mono ?_;rintro e w1 ⟨rfl,Ad,A3⟩;have Aq:=A0 (HSt.o.next Ad A3);have Ab:=A0 A3;have B7:=(A3.block b hD).trans HBk.o;clear Ad A3 d0 d1 d2 ld;have d2:=Ac B7 2 a rfl;have ld:=A5 B7;clear B7;go_wp2_with fail
 refine(HC.o _ _ Aq.o Ab.o).mono ?_;rintro e w2 ⟨rfl,Av,A9⟩;have Bi:=A0 Av;have Ai:Hid (A4 D w w2):=Ab.o.trans A9;clear Av A9 ;have Cw:=(Ai.o.block b hD).trans HBk.o;clear d2 ld;have d1:w2.cell? ⟨b,1,none⟩=some (.string ⟨l.s.toArray⟩):=Ac Cw 1 _ rfl;have ld:=A5 Cw;obtain⟨na,nn,nc,ba,bn,bc,la,ln,lc,ls,hv⟩:=Bi.o.st;have lcb2:=A5 hv.cell;have HV:=A0 (hv.keep (w':=w2.drew) (fun _ _=>rfl) (Nat.le_refl _));have HP:=A0 (U0 HV.o.Mj (by rw[Ox];omega) ⟨l.s.toArray⟩ (by simp));clear Cw hv;go_wp2;go_region_law (refine Nf rfl 137 _ _ rfl #[.pointer (some ⟨K.cb,2,none⟩),.string ⟨l.s.toArray⟩] (by kernel_rfl) HP.o ?_;rintro e w3 ⟨rfl,hp3⟩;refine⟨_,rfl,?_⟩)
 all_goals go_wp2
 all_goals go_end0
 all_goals obtain⟨k1,k2⟩:=HV.o.Vw l.s (by omega) hp3
 all_goals rw[List.append_assoc]at k1
 all_goals have k3:A4 D w2 w3:=⟨k2.os,k2.tape,k2.output,k2.size,k2.block⟩
 all_goals exact⟨rfl,Bi.o.next k1 k3,Ai.o.trans k3⟩
theorem A46(K:CC)(l:A2)(c:BT A2)(hk:l.kd=28)(ih:Co (Gf K) c)(hwf:Wf 0 c):Lf K l c:=by
 intro D w outer cur bl wh inn f rc v ks hst hn hr C4 Bv Gi;obtain⟨hlo,lcb,hncb⟩:=hst.lo;unfold Ba at hn;rw[if_neg (by omega)]at hn;obtain⟨b,cs,rfl,hD,hb,hl⟩:=hn;have e1:C3 l.kd=268:=by rw[hk];rfl
 have e2:Db l.kd=322:=by rw[hk];rfl
 rw[e1];rw[e2]at hb;unfold Ck at hl;simp only[hk]at hl;obtain⟨b2,a,rfl,hD2,A9,rfl⟩:=hl;have hnd:=K1 K.fns l c (by omega) (by omega) (by omega) outer cur wh inn f;have hp:Lt K.fns l (A8 c) outer cur wh inn f=(Ag K.fns (nd ⟨6,l.line,l.s,0,[]⟩ .nil) outer cur wh inn f).2:=by
  rw[K1 K.fns _ _ (by simp) (by simp) (by simp),Ag];unfold Lt;rw[if_pos (by omega),if_pos (by simp)]
 rw[hp]at hnd;rw[hnd,Lx K.fns c hwf];obtain⟨x1,y1,l1,c1,r1,Cx,rfl,B1,B0,hz⟩:=hr.cons';obtain rfl:=hz.nil';rw[L5];have hv6:Ba D w ⟨6,l.line,l.s,0,[]⟩ (.iface 238 (Bx b2)) []:=Ba.new (l:=⟨6,l.line,l.s,0,[]⟩) (by simp) hD2 A9 ⟨rfl,rfl⟩;have HC:=A0 (X6 K ⟨6,l.line,l.s,0,[]⟩ .nil rfl D w outer cur _ wh inn f rc _ [] hst hv6 rfl);have E8:=A0 (fun W g (hs:K.St D W (outer++cur) (bl++[outer.length]) wh inn g rc) (hbd:A4 D w W)=>ih.1 D W outer cur _ wh inn g rc a Cx hs (B1.Be hbd) (B0.Be hbd));have d0:=Ac hb 0 _ rfl;have ld:=A5 hb;have HBk:=A0 hb;have D4:=fun(v:Value) (w:World)=>Az (P:=Tryz.prog) (t:=268) (T:=143) (xT:=142) (z:=.pointer none) Tryz.underlying143 (by kernel_rfl) (by decide) v w;have Dt:=fun(v:Value) (w:World)=>Az (P:=Tryz.prog) (t:=268) (T:=145) (xT:=142) (z:=.pointer none) Tryz.underlying145 (by kernel_rfl) (by decide) v w;have Er:=fun(v:Value) (w:World)=>Az (P:=Tryz.prog) (t:=268) (T:=253) (xT:=142) (z:=.pointer none) Tryz.underlying253 (by kernel_rfl) (by decide) v w;have Fm:=fun(v:Value) (w:World)=>Az (P:=Tryz.prog) (t:=268) (T:=255) (xT:=142) (z:=.pointer none) Tryz.underlying255 (by kernel_rfl) (by decide) v w;have Gs:=fun(v:Value) (w:World)=>Az (P:=Tryz.prog) (t:=268) (T:=257) (xT:=142) (z:=.pointer none) Tryz.underlying257 (by kernel_rfl) (by decide) v w;have Iy:=fun(v:Value) (w:World)=>Az (P:=Tryz.prog) (t:=268) (T:=259) (xT:=142) (z:=.pointer none) Tryz.underlying259 (by kernel_rfl) (by decide) v w;have Kh:=fun(v:Value) (w:World)=>Az (P:=Tryz.prog) (t:=268) (T:=264) (xT:=142) (z:=.pointer none) Tryz.underlying264 (by kernel_rfl) (by decide) v w;have ta7:=fun(v:Value) (w:World)=>Az (P:=Tryz.prog) (t:=268) (T:=265) (xT:=142) (z:=.pointer none) Tryz.underlying265 (by kernel_rfl) (by decide) v w;have ta8:=fun(v:Value) (w:World)=>Dz (P:=Tryz.prog) (xT:=142) Tryz.underlying268 v w;clear hst hb e1 e2 hk hr B1 B0 hz ih hwf hnd C4 Bv Gi hp hv6 A9;unfold Bx;go_enter Tryz.func192,Tryz.ntmps192;go_wp2_with fail
 refine(HC.o).mono ?_;rintro e w1 ⟨rfl,Ad,A3⟩;have Aq:=A0 Ad;have Ab:Hid (A4 D w w1):=A3;clear Ad A3 d0 ld;have B7:=(Ab.o.block b hD).trans HBk.o;have d1:=Ac B7 1 _ rfl;have ld:=A5 B7;clear B7;go_wp2_with fail
 refine(E8.o _ _ Aq.o Ab.o).mono ?_;rintro e w2 ⟨rfl,Av,A9⟩;have Bi:=A0 Av;have Ai:Hid (A4 D w w2):=Ab.o.trans A9;clear Av A9 ;go_wp2;go_end0;exact⟨rfl,Bi.o,Ai.o⟩
theorem A44(K:CC)(l:A2)(c:BT A2)(hk:l.kd=29)(ih:Co (Gf K) c)(hwf:Wf 0 c):Lf K l c:=by
 intro D w outer cur bl wh inn f rc v ks hst hn hr C4 Bv Gi;obtain⟨hlo,lcb,hncb⟩:=hst.lo;unfold Ba at hn;rw[if_neg (by omega)]at hn;obtain⟨b,cs,rfl,hD,hb,hl⟩:=hn;have e1:C3 l.kd=268:=by rw[hk];rfl
 have e2:Db l.kd=322:=by rw[hk];rfl
 rw[e1];rw[e2]at hb;unfold Ck at hl;simp only[hk]at hl;obtain⟨b2,o,p,a,rfl,hD2,A9,rfl⟩:=hl;have hnd:=K1 K.fns l c (by omega) (by omega) (by omega) outer cur wh inn f;rw[Lu (by omega)]at hnd;rw[hnd,Lx K.fns c hwf];obtain⟨x1,y1,l1,c1,r1,Cx,rfl,B1,B0,hz⟩:=hr.cons';obtain⟨x2,y2,l2,c2,r2,Ho,rfl,D9,Bt,hzz⟩:=hz.cons';obtain⟨x3,y3,l3,c3,r3,ks3,rfl,hn3,Cs,hzzz⟩:=hzz.cons';obtain rfl:=hzzz.nil';have hw12:Wf 0 (.node x1 y1 l1 c1 (.node x2 y2 l2 c2 .nil)):=⟨⟨trivial,hwf.1.2⟩,hwf.2⟩;have h12:Ag K.fns (.node x1 y1 l1 c1 (.node x2 y2 l2 c2 (.node x3 y3 l3 c3 .nil))) outer cur wh inn f=Ag K.fns (nd l3 c3) outer cur wh inn (Ag K.fns (nd (Ao 12 l.line) (.node x1 y1 l1 c1 (.node x2 y2 l2 c2 .nil))) outer cur wh inn f).2:=by
  rw[K1 K.fns (Ao 12 l.line) _ (by simp[Ao]) (by simp[Ao]) (by simp[Ao]),Lu (by simp[Ao])];rw[sens_xy' K.fns x1,sens_xy' K.fns x2,L5];rw[sens_xy' K.fns x1 y1 l1 c1 (.node x2 y2 l2 c2 .nil),L5];rw[Lx K.fns (nd l1 c1) hwf.Qw,Lx K.fns (nd l2 c2) hwf.1.Qw]
 rw[h12];have hv12:Ba D w (Ao 12 l.line) (.iface 310 (Bx b2)) [o,p]:=Ba.new (l:=Ao 12 l.line) (by simp[Ao]) hD2 A9 ⟨o,p,rfl,rfl⟩;have HC:=A0 (X5 K (Ao 12 l.line) (.node x1 y1 l1 c1 (.node x2 y2 l2 c2 .nil)) rfl ⟨ih.1,ih.2.1,trivial⟩ hw12 D w outer cur _ wh inn f rc _ [o,p] hst hv12 ⟨o,Cx,[p],rfl,B1,B0,⟨p,Ho,[],rfl,D9,Bt,rfl⟩⟩);have E8:=A0 (fun W g (hs:K.St D W (outer++cur) (bl++[outer.length]) wh inn g rc) (hbd:A4 D w W)=>ih.2.2.1 D W outer cur _ wh inn g rc a ks3 hs (hn3.Be hbd) (Cs.Be hbd));have d0:=Ac hb 0 _ rfl;have ld:=A5 hb;have HBk:=A0 hb;have D4:=fun(v:Value) (w:World)=>Az (P:=Tryz.prog) (t:=268) (T:=143) (xT:=142) (z:=.pointer none) Tryz.underlying143 (by kernel_rfl) (by decide) v w;have Dt:=fun(v:Value) (w:World)=>Az (P:=Tryz.prog) (t:=268) (T:=145) (xT:=142) (z:=.pointer none) Tryz.underlying145 (by kernel_rfl) (by decide) v w;have Er:=fun(v:Value) (w:World)=>Az (P:=Tryz.prog) (t:=268) (T:=253) (xT:=142) (z:=.pointer none) Tryz.underlying253 (by kernel_rfl) (by decide) v w;have Fm:=fun(v:Value) (w:World)=>Az (P:=Tryz.prog) (t:=268) (T:=255) (xT:=142) (z:=.pointer none) Tryz.underlying255 (by kernel_rfl) (by decide) v w;have Gs:=fun(v:Value) (w:World)=>Az (P:=Tryz.prog) (t:=268) (T:=257) (xT:=142) (z:=.pointer none) Tryz.underlying257 (by kernel_rfl) (by decide) v w;have Iy:=fun(v:Value) (w:World)=>Az (P:=Tryz.prog) (t:=268) (T:=259) (xT:=142) (z:=.pointer none) Tryz.underlying259 (by kernel_rfl) (by decide) v w;have Kh:=fun(v:Value) (w:World)=>Az (P:=Tryz.prog) (t:=268) (T:=264) (xT:=142) (z:=.pointer none) Tryz.underlying264 (by kernel_rfl) (by decide) v w;have ta7:=fun(v:Value) (w:World)=>Az (P:=Tryz.prog) (t:=268) (T:=265) (xT:=142) (z:=.pointer none) Tryz.underlying265 (by kernel_rfl) (by decide) v w;have ta8:=fun(v:Value) (w:World)=>Dz (P:=Tryz.prog) (xT:=142) Tryz.underlying268 v w;clear hst hb e1 e2 hk hr B1 B0 hz ih hwf hnd C4 Bv Gi hv12 A9 h12 hw12 D9 Bt hzz hn3 Cs hzzz;unfold Bx;go_enter Tryz.func192,Tryz.ntmps192;go_wp2_with fail
 refine(HC.o).mono ?_;rintro e w1 ⟨rfl,Ad,A3⟩;have Aq:=A0 Ad;have Ab:Hid (A4 D w w1):=A3;clear Ad A3 d0 ld;have B7:=(Ab.o.block b hD).trans HBk.o;have d1:=Ac B7 1 _ rfl;have ld:=A5 B7;clear B7;go_wp2_with fail
 refine(E8.o _ _ Aq.o Ab.o).mono ?_;rintro e w2 ⟨rfl,Av,A9⟩;have Bi:=A0 Av;have Ai:Hid (A4 D w w2):=Ab.o.trans A9;clear Av A9 ;go_wp2;go_end0;exact⟨rfl,Bi.o,Ai.o⟩
def Part(K:CC)(l:A2)(c:BT A2):Prop:=(Jz l.kd=true->Gf K l c)/\((l.kd=31\/l.kd=32)->Co (Lf K) c)
theorem W5(fns:List (Nm×Nat)){l:A2}(c:BT A2)(h:l.kd=31)(outer cur:List Nm)(wh:Nat)(inn:Bool)(f:B3):Ag fns (nd l c) outer cur wh inn f=(cur,(Ag fns c (outer++cur) [] wh inn f).2):=by
 rw[nd,Ag,if_pos h,Ag]
theorem Aaz(fns:List (Nm×Nat)){l:A2}(c:BT A2)(h:l.kd=32)(outer cur:List Nm)(wh:Nat)(inn:Bool)(f:B3):Ag fns (nd l c) outer cur wh inn f=(cur,(Ag fns c (outer++cur) [] (wh+1) inn f).2):=by
 rw[nd,Ag,if_neg (by omega),if_pos h,Ag]
theorem Ba.Qv{D:Nat->Prop}{w:World}{l:A2}{t:TypeId}{x:Value}{ks:List Value}(h:Ba D w l (.iface t x) ks):l.kd≠31/\l.kd≠32:=by
 unfold Ba at h;split at h
 ·obtain⟨⟨_,_,_,e⟩,_⟩:=h;cases e
 ·omega
theorem Ba.Ou{D:Nat->Prop}{w:World}{l:A2}{a:Option Addr}{n m:Nat}{ks:List Value}(h:Ba D w l (.slice a n m) ks):(l.kd=31\/l.kd=32)/\C1 D w 142 1 (.slice a n m) ks.length ks:=by
 unfold Ba at h;split at h
 ·rename_i h1;exact⟨h1,h.2⟩
 ·obtain⟨b,cs,e,_⟩:=h;cases e
theorem Wf.Mh{x y:Nat}{l:A2}{c r:BT A2}(h:Wf 2 (.node x y l c r)):(l.kd≠31->Jz l.kd=true/\Wf 0 c)/\(l.kd=31\/l.kd=32->l.kd=31/\Wf 1 c):=by
 rcases h.2 with⟨_,h1,h2⟩|⟨_,h1,h2⟩|⟨h1,_⟩|⟨h1,_⟩|⟨h1,_⟩|⟨h1,_⟩|⟨h1,_⟩
 ·exact⟨fun _=>⟨h1,h2⟩,fun e=>by have:=Oo h1;omega⟩
 ·exact⟨fun e=>absurd h1 e,fun _=>⟨h1,h2⟩⟩
 all_goals omega
theorem Wf.Q7{x y:Nat}{l:A2}{c r:BT A2}(h:Wf 3 (.node x y l c r)):(l.kd≠32->Jz l.kd=true/\Wf 0 c)/\(l.kd=31\/l.kd=32->l.kd=32/\Wf 1 c):=by
 rcases h.2 with⟨_,h1,h2⟩|⟨h1,_⟩|⟨_,h1,h2⟩|⟨h1,_⟩|⟨h1,_⟩|⟨h1,_⟩|⟨h1,_⟩
 ·exact⟨fun _=>⟨h1,h2⟩,fun e=>by have:=Oo h1;omega⟩
 ·omega
 ·exact⟨fun e=>absurd h1 e,fun _=>⟨h1,h2⟩⟩
 all_goals omega
theorem Wf.Rp{l:A2}{c:BT A2}(h:Jz l.kd=true)(hc:Wf 0 c):Wf 0 (nd l c):=Wf.ex h hc
theorem A41(K:CC)(l:A2)(c:BT A2)(hk:l.kd=22)(ih:Co (Part K) c)(hwf:Wf 2 c):Lf K l c:=by
 intro D w outer cur bl wh inn f rc v ks hst hn hr C4 Bv Gi;obtain⟨hlo,lcb,hncb⟩:=hst.lo;unfold Ba at hn;rw[if_neg (by omega)]at hn;obtain⟨b,cs,rfl,hD,hb,hl⟩:=hn;have e1:C3 l.kd=253:=by rw[hk];rfl
 have e2:Db l.kd=314:=by rw[hk];rfl
 rw[e1];rw[e2]at hb;unfold Ck at hl;simp only[hk]at hl;obtain⟨t,x,s1,n1,m1,s2,n2,m2,rfl,hks⟩:=hl;have hnd:=K1 K.fns l c (by omega) (by omega) (by omega) outer cur wh inn f;rw[Lu (by omega)]at hnd;rw[hnd];have d0:=Ac hb 1 _ rfl;have ld:=A5 hb;have HBk:=A0 hb;rw[B8]at C4 Bv Gi;have D4:=fun(v:Value) (w:World)=>Az (P:=Tryz.prog) (t:=253) (T:=143) (xT:=142) (z:=.pointer none) Tryz.underlying143 (by kernel_rfl) (by decide) v w;have Dt:=fun(v:Value) (w:World)=>Az (P:=Tryz.prog) (t:=253) (T:=145) (xT:=142) (z:=.pointer none) Tryz.underlying145 (by kernel_rfl) (by decide) v w;have Er:=fun(v:Value) (w:World)=>Dz (P:=Tryz.prog) (xT:=142) Tryz.underlying253 v w;rcases hks with⟨rfl,Av⟩|rfl
 ·obtain⟨x1,y1,l1,c1,r1,Cx,rfl,B1,B0,hz⟩:=hr.cons';obtain⟨x2,y2,l2,c2,r2,Ho,rfl,D9,Bt,hzz⟩:=hz.cons';obtain rfl:=hzz.nil';injection Av with q1 q2 q3;subst q1 q2 q3;obtain⟨G0,G9⟩:=hwf.Mh.1 B1.Qv.1;obtain⟨Bk,Ap⟩:=D9.Ou;obtain⟨h31,_⟩:=hwf.1.Mh.2 Bk;simp only[bsize]at C4 Bv Gi;have hse:Ag K.fns (.node x1 y1 l1 c1 (.node x2 y2 l2 c2 .nil)) outer cur wh inn f=(cur,(Ag K.fns c2 (outer++cur) [] wh inn (Ag K.fns (nd l1 c1) outer cur wh inn f).2).2):=by
   rw[sens_xy' K.fns x1,Lx K.fns _ (Wf.Rp G0 G9),L5,W5 K.fns c2 h31]
  rw[hse];have HC:=A0 (ih.1.1 G0 D w outer cur _ wh inn f rc _ Cx hst B1 B0);have E8:=A0 (fun W g (hs:K.St D W (outer++cur) (bl++[outer.length]) wh inn g rc) (hbd:A4 D w W)=>Rm K c2 (ih.2.1.2 Bk) D W (outer++cur) (bl++[outer.length]) wh inn g rc s1 n1 m1 Ho hs (Ap.Be hbd) (Bt.Be hbd) (by omega) (by simp;omega) (by omega));have HC3:=A0 (fun W g (hs:K.St D W (outer++cur) (bl++[outer.length]) wh inn g rc)=>Rm K .nil trivial D W (outer++cur) (bl++[outer.length]) wh inn g rc none 0 0 [] hs (M7 _ _ _ _) rfl (by simp only[bsize];omega) (by simp only[bsize];simp;omega) (by simp only[bsize];omega));clear hst hb e1 e2 hk hr B1 B0 hz ih hwf hnd C4 Bv Gi D9 Bt hzz G0 G9 Bk Ap h31 hse;unfold Bx;go_enter Tryz.func192,Tryz.ntmps192;go_wp2_with fail
  refine(HC.o).mono ?_;rintro e w1 ⟨rfl,Ad,A3⟩;have Aq:=A0 Ad;have Ab:Hid (A4 D w w1):=A3;clear Ad A3 d0 ld;have B7:=(Ab.o.block b hD).trans HBk.o;have d1:=Ac B7 2 _ rfl;have ld:=A5 B7;clear B7;go_wp2_with fail
  refine(E8.o _ _ Aq.o Ab.o).mono ?_;rintro e w2 ⟨rfl,Av,A9⟩;have Bi:=A0 Av;have Ai:Hid (A4 D w w2):=Ab.o.trans A9;clear Av A9 d1 ld;have Cw:=(Ai.o.block b hD).trans HBk.o;have d2:=Ac Cw 3 _ rfl;have ld:=A5 Cw;clear Cw;go_wp2_with fail
  refine(HC3.o _ _ Bi.o).mono ?_;rintro e w3 ⟨rfl,At,Ar⟩;have Df:=A0 At;have B4:Hid (A4 D w w3):=Ai.o.trans Ar;clear At Ar ;go_wp2;go_end0;rw[Ag]at Df;exact⟨rfl,Df.o,B4.o⟩
 ·obtain⟨x1,y1,l1,c1,r1,Cx,rfl,B1,B0,hz⟩:=hr.cons';obtain⟨x2,y2,l2,c2,r2,Ho,rfl,D9,Bt,hzz⟩:=hz.cons';obtain⟨x3,y3,l3,c3,r3,ks3,rfl,hn3,Cs,hzzz⟩:=hzz.cons';obtain rfl:=hzzz.nil';obtain⟨G0,G9⟩:=hwf.Mh.1 B1.Qv.1;obtain⟨Bk,Ap⟩:=D9.Ou;obtain⟨h31,_⟩:=hwf.1.Mh.2 Bk;obtain⟨hk3,Af⟩:=hn3.Ou;obtain⟨h31',_⟩:=hwf.1.1.Mh.2 hk3;simp only[bsize]at C4 Bv Gi;have hse:Ag K.fns (.node x1 y1 l1 c1 (.node x2 y2 l2 c2 (.node x3 y3 l3 c3 .nil))) outer cur wh inn f=(cur,(Ag K.fns c3 (outer++cur) [] wh inn (Ag K.fns c2 (outer++cur) [] wh inn (Ag K.fns (nd l1 c1) outer cur wh inn f).2).2).2):=by
   rw[sens_xy' K.fns x1,Lx K.fns _ (Wf.Rp G0 G9),sens_xy' K.fns x2,W5 K.fns c2 h31,L5,W5 K.fns c3 h31']
  rw[hse];have HC:=A0 (ih.1.1 G0 D w outer cur _ wh inn f rc _ Cx hst B1 B0);have E8:=A0 (fun W g (hs:K.St D W (outer++cur) (bl++[outer.length]) wh inn g rc) (hbd:A4 D w W)=>Rm K c2 (ih.2.1.2 Bk) D W (outer++cur) (bl++[outer.length]) wh inn g rc s1 n1 m1 Ho hs (Ap.Be hbd) (Bt.Be hbd) (by omega) (by simp;omega) (by omega));have HC3:=A0 (fun W g (hs:K.St D W (outer++cur) (bl++[outer.length]) wh inn g rc) (hbd:A4 D w W)=>Rm K c3 (ih.2.2.1.2 hk3) D W (outer++cur) (bl++[outer.length]) wh inn g rc s2 n2 m2 ks3 hs (Af.Be hbd) (Cs.Be hbd) (by omega) (by simp;omega) (by omega));clear hst hb e1 e2 hk hr B1 B0 hz ih hwf hnd C4 Bv Gi D9 Bt hzz G0 G9 Bk Ap h31 hse hn3 Cs hzzz hk3 Af h31';unfold Bx;go_enter Tryz.func192,Tryz.ntmps192;go_wp2_with fail
  refine(HC.o).mono ?_;rintro e w1 ⟨rfl,Ad,A3⟩;have Aq:=A0 Ad;have Ab:Hid (A4 D w w1):=A3;clear Ad A3 d0 ld;have B7:=(Ab.o.block b hD).trans HBk.o;have d1:=Ac B7 2 _ rfl;have ld:=A5 B7;clear B7;go_wp2_with fail
  refine(E8.o _ _ Aq.o Ab.o).mono ?_;rintro e w2 ⟨rfl,Av,A9⟩;have Bi:=A0 Av;have Ai:Hid (A4 D w w2):=Ab.o.trans A9;clear Av A9 d1 ld;have Cw:=(Ai.o.block b hD).trans HBk.o;have d2:=Ac Cw 3 _ rfl;have ld:=A5 Cw;clear Cw;go_wp2_with fail
  refine(HC3.o _ _ Bi.o Ai.o).mono ?_;rintro e w3 ⟨rfl,At,Ar⟩;have Df:=A0 At;have B4:Hid (A4 D w w3):=Ai.o.trans Ar;clear At Ar ;go_wp2;go_end0;exact⟨rfl,Df.o,B4.o⟩
theorem A47(K:CC)(l:A2)(c:BT A2)(hk:l.kd=23)(ih:Co (Part K) c)(hwf:Wf 3 c):Lf K l c:=by
 intro D w outer cur bl wh inn f rc v ks hst hn hr C4 Bv Gi;obtain⟨hlo,lcb,hncb⟩:=hst.lo;unfold Ba at hn;rw[if_neg (by omega)]at hn;obtain⟨b,cs,rfl,hD,hb,hl⟩:=hn;have e1:C3 l.kd=255:=by rw[hk];rfl
 have e2:Db l.kd=317:=by rw[hk];rfl
 rw[e1];rw[e2]at hb;unfold Ck at hl;simp only[hk]at hl;obtain⟨t,x,s1,n1,m1,rfl,rfl⟩:=hl;have hnd:=K1 K.fns l c (by omega) (by omega) (by omega) outer cur wh inn f;rw[Lu (by omega)]at hnd;rw[hnd];have d0:=Ac hb 1 _ rfl;have ld:=A5 hb;have HBk:=A0 hb;rw[B8]at C4 Bv Gi;have D4:=fun(v:Value) (w:World)=>Az (P:=Tryz.prog) (t:=255) (T:=143) (xT:=142) (z:=.pointer none) Tryz.underlying143 (by kernel_rfl) (by decide) v w;have Dt:=fun(v:Value) (w:World)=>Az (P:=Tryz.prog) (t:=255) (T:=145) (xT:=142) (z:=.pointer none) Tryz.underlying145 (by kernel_rfl) (by decide) v w;have Er:=fun(v:Value) (w:World)=>Az (P:=Tryz.prog) (t:=255) (T:=253) (xT:=142) (z:=.pointer none) Tryz.underlying253 (by kernel_rfl) (by decide) v w;have Fm:=fun(v:Value) (w:World)=>Dz (P:=Tryz.prog) (xT:=142) Tryz.underlying255 v w;obtain⟨x1,y1,l1,c1,r1,Cx,rfl,B1,B0,hz⟩:=hr.cons';obtain⟨x2,y2,l2,c2,r2,Ho,rfl,D9,Bt,hzz⟩:=hz.cons';obtain rfl:=hzz.nil';obtain⟨G0,G9⟩:=hwf.Q7.1 B1.Qv.2;obtain⟨Bk,Ap⟩:=D9.Ou;obtain⟨h32,_⟩:=hwf.1.Q7.2 Bk;simp only[bsize]at C4 Bv Gi;have hse:Ag K.fns (.node x1 y1 l1 c1 (.node x2 y2 l2 c2 .nil)) outer cur wh inn f=(cur,(Ag K.fns c2 (outer++cur) [] (wh+1) inn (Ag K.fns (nd l1 c1) outer cur wh inn f).2).2):=by
  rw[sens_xy' K.fns x1,Lx K.fns _ (Wf.Rp G0 G9),L5,Aaz K.fns c2 h32]
 rw[hse];have HC:=A0 (ih.1.1 G0 D w outer cur _ wh inn f rc _ Cx hst B1 B0);have E8:=A0 (fun W g (hs:K.St D W (outer++cur) (bl++[outer.length]) (wh+1) inn g rc) (hbd:A4 D w W)=>Rm K c2 (ih.2.1.2 Bk) D W (outer++cur) (bl++[outer.length]) (wh+1) inn g rc s1 n1 m1 Ho hs (Ap.Be hbd) (Bt.Be hbd) (by omega) (by simp;omega) (by omega));have hwh:wh+1<=700000:=by omega
 clear hst hb e1 e2 hk hr B1 B0 hz ih hwf hnd C4 Bv Gi D9 Bt hzz G0 G9 Bk Ap h32 hse;unfold Bx;go_enter Tryz.func192,Tryz.ntmps192;go_wp2_with fail
 refine(HC.o).mono ?_;rintro e w1 ⟨rfl,Ad,A3⟩;have Aq:=A0 Ad;have Ab:Hid (A4 D w w1):=A3;clear Ad A3 d0 ld;have B7:=(Ab.o.block b hD).trans HBk.o;have ld:=A5 B7;clear B7;obtain⟨na,nn,nc,ba,bn,bc,la,ln,lc,ls,hv⟩:=Aq.o.st;have lcb1:=A5 hv.cell;have HV:=A0 hv;have HP:=A0 (Ac5 hv.We (by rw[hv.lsl];omega) (some ⟨b,0,none⟩) (by simp));clear hv;go_wp2_with fail
 refine HP.o.mono ?_;rintro e w2 ⟨rfl,Dw⟩;obtain⟨k1,k2⟩:=HV.o.Vv _ (by omega) Dw;have Bi:=A0 (Aq.o.next k1 k2);have Ai:Hid (A4 D w w2):=Ab.o.trans k2;have Cw:=(Ai.o.block b hD).trans HBk.o;clear ld k1 k2 Dw lcb1;have d2:=Ac Cw 2 _ rfl;have ld:=A5 Cw;clear Cw;go_wp2_with fail
 refine(E8.o _ _ Bi.o Ai.o).mono ?_;rintro e w3 ⟨rfl,At,Ar⟩;have Df:=A0 At;have B4:Hid (A4 D w w3):=Ai.o.trans Ar;clear At Ar d2 ld;obtain⟨na3,nn3,nc3,ba3,bn3,bc3,la3,ln3,lc3,ls3,hv3⟩:=Df.o.st;have lcb3:=A5 hv3.cell;have HV3:=A0 hv3;have hl3:=hv3.lsl;have De:=A0 (Ac1 hv3.We (by omega) wh (by omega) hl3 (by simp));clear hv3;go_wp2_with fail
 refine De.o.mono ?_;rintro e w4 ⟨rfl,hp4⟩;obtain⟨k3,k4⟩:=HV3.o.A4b wh (by omega) hp4;have Ia:=A0 (Df.o.next k3 k4);have Dm:Hid (A4 D w w4):=B4.o.trans k4;clear k3 k4 hp4;go_wp2;go_end0;exact⟨rfl,Ia.o,Dm.o⟩
theorem x7(K:CC):∀f:BT A2,bsize f<=500000->(Wf 1 f->Co (Lf K) f)/\(Wf 2 f->Co (Part K) f)/\(Wf 3 f->Co (Part K) f):=by
 intro f;induction f with
 | nil=>intro _;exact⟨fun _=>trivial,fun _=>trivial,fun _=>trivial⟩
 | node x y l c r C2 Bl=>
  intro hs;rw[bsize]at hs;obtain⟨i1,i2,i3⟩:=C2 (by omega);obtain⟨j1,j2,j3⟩:=Bl (by omega);refine⟨fun h=>⟨?_,j1 h.1⟩,fun h=>⟨⟨fun hx=>?_,fun hx=>i1 (h.Mh.2 hx).2⟩,j2 h.1⟩,fun h=>⟨⟨fun hx=>?_,fun hx=>i1 (h.Q7.2 hx).2⟩,j3 h.1⟩⟩
  ·rcases h.2 with⟨h0,_⟩|⟨h0,_⟩|⟨h0,_⟩|⟨_,h1,h2⟩|⟨_,h1,h2⟩|⟨_,h1,h2⟩|⟨h0,_⟩
   ·omega
   ·omega
   ·omega
   ·exact A41 K l c h1 (i2 h2) h2
   ·exact A47 K l c h1 (i3 h2) h2
   ·have hx:=V0 K c h2 (by omega);unfold Qa at h1;simp only[Bool.or_eq_true,Bool.and_eq_true,decide_eq_true_eq,beq_iff_eq]at h1;have hc:l.kd=21\/l.kd=24\/l.kd=25\/l.kd=26\/l.kd=27\/l.kd=28\/l.kd=29\/l.kd=30:=by omega
    rcases hc with e|e|e|e|e|e|e|e
    ·exact A42 K l c e hx h2
    ·exact A45 K l c e hx h2
    ·exact A3x K l c e
    ·exact A3y K l c e
    ·exact A43 K l c e hx h2
    ·exact A46 K l c e hx h2
    ·exact A44 K l c e hx h2
    ·exact A3z K l c e hx h2
   ·omega
  ·have hw:=h.Mh.1 (Oo hx).1;exact(V0 K (nd l c) (Wf.Rp hw.1 hw.2) (by rw[B8];omega)).1
  ·have hw:=h.Q7.1 (Oo hx).2.1;exact(V0 K (nd l c) (Wf.Rp hw.1 hw.2) (by rw[B8];omega)).1
theorem Tr(ps:List (Nat×List UInt8)):∀(i:Nat) (h:i<ps.length),(Lv ps)[i*2]?=some (.int .i64 (ps[i].1:Nat))/\(Lv ps)[i*2+1]?=some (.string ⟨ps[i].2.toArray⟩):=by
 induction ps with
 | nil=>intro i h;simp at h
 | cons p r ih=>
  intro i h;have e:Lv (p::r)=Gz p.1::Ln p.2::Lv r:=by simp[Lv]
  rw[e];cases i with
  | zero=>exact⟨rfl,rfl⟩
  | succ i=>
   rw[show(i+1)*2=i*2+2 by omega,show i*2+2+1=i*2+1+2 by omega];exact ih i (by simpa using h)
theorem F8.Lw{D:Nat->Prop}{cb te:Nat}{w:World}{ns:List Nm}{bk:List Nat}{wh:Nat}{inn:Bool}{f:B3}{rc:Nat}{fa:Option Addr}{fn fc:Nat}(h:F8 D cb te w ns bk wh inn f rc fa fn fc)(o:Obj):F8 (fun g=>D g\/g=w.heap.size) cb te (w.alloc o) ns bk wh inn f rc fa fn fc:=by
 obtain⟨na,nn,nc,ba,bn,bc,la,ln,lc,ls,h⟩:=h;have hk:∀g,g<w.heap.size->(w.alloc o).heap[g]?=w.heap[g]?:=fun g hg=>Below.heap_alloc _ _ _ hg;have hc:=A5 h.cell;refine⟨na,nn,nc,ba,bn,bc,la,ln,lc,ls,(hk cb hc).trans h.cell,Bb h.names (fun g _ hl=>hk g hl),Bb h.blocks (fun g _ hl=>hk g hl),Bb h.loops (fun g _ hl=>hk g hl),h.lsl,?_,?_,?_,?_,h.few,?_⟩
 ·rintro(e|e)
  ·exact h.Di e
  ·omega
 ·intro g hg;have:=Ca h.names g hg;exact⟨fun e=>by rcases e with e|e;exact(h.C5 g hg).1 e;omega,(h.C5 g hg).2⟩
 ·intro g hg;have:=Ca h.blocks g hg;exact⟨fun e=>by rcases e with e|e;exact(h.Ed g hg).1 e;omega,(h.Ed g hg).2⟩
 ·intro g hg;have:=Ca h.loops g hg;exact⟨fun e=>by rcases e with e|e;exact(h.K8 g hg).1 e;omega,(h.K8 g hg).2⟩
 ·rintro g (e|e)
  ·have:=h.lo g e;simp;omega
  ·simp;omega
theorem F8.weak{D E:Nat->Prop}{cb te:Nat}{w:World}{ns:List Nm}{bk:List Nat}{wh:Nat}{inn:Bool}{f:B3}{rc:Nat}{fa:Option Addr}{fn fc:Nat}(h:F8 D cb te w ns bk wh inn f rc fa fn fc)(he:∀g,E g->D g):F8 E cb te w ns bk wh inn f rc fa fn fc:=by
 obtain⟨na,nn,nc,ba,bn,bc,la,ln,lc,ls,h⟩:=h;exact⟨na,nn,nc,ba,bn,bc,la,ln,lc,ls,h.cell,h.names,h.blocks,h.loops,h.lsl,fun e=>h.Di (he _ e),fun g hg=>⟨fun e=>(h.C5 g hg).1 (he g e),(h.C5 g hg).2⟩,fun g hg=>⟨fun e=>(h.Ed g hg).1 (he g e),(h.Ed g hg).2⟩,fun g hg=>⟨fun e=>(h.K8 g hg).1 (he g e),(h.K8 g hg).2⟩,h.few,fun g hg=>h.lo g (he g hg)⟩
theorem A79{w:World}{fns:List (Nm×Nat)}{fa:Option Addr}{k:Nat}{s:Nm}{p:Option Addr}(h:Nh w fns fa k s p):(p=none/\decide (s∈(fns.take k).map (·.1))=false)\/((∃pb,p=some ⟨pb,0,none⟩)/\decide (s∈(fns.take k).map (·.1))=true):=by
 rcases h with⟨e,hn⟩|⟨i,hi,pb,pa,pc,hik,e,_,es,_⟩
 ·left;refine⟨e,decide_eq_false (fun hm=>?_)⟩;obtain⟨j,hj,hjk,e2⟩:=Vg.1 hm;exact hn j hjk hj e2
 ·right;exact⟨⟨pb,e⟩,decide_eq_true (Vg.2 ⟨i,hi,hik,es⟩)⟩
theorem A3e(K:CC)(l:A2)(c:BT A2)(hok:Co (Lf K) c)(D:Nat->Prop)(w:World)(cur:List Nm)(f:B3)(rc:Nat)(b:Nat)(pa:Option Addr)(pn pc:Nat)(va:Option Addr)(vn vc:Nat)(ks:List Value)
  (hst:K.St D w cur [0] 0 false f rc) (hrc:rc<K.fns.length) (hD:D b) (hblk:w.heap[b]?=some (.cells #[.int .i64 (l.line:Nat),.string ⟨l.s.toArray⟩,.slice pa pn pc,.slice va vn vc] 218 (0,0)))
  (hprm:C1 D w 148 2 (.slice pa pn pc) l.ps.length (Lv l.ps)) (hown:C1 D w 142 1 (.slice va vn vc) ks.length ks) (hrep:Aj D w c ks) (A3:cur.length+l.ps.length+bsize c<=600000) :
  Calls Tryz.prog 234 #[.pointer (some ⟨K.cb,0,none⟩),.pointer (some ⟨b,0,none⟩)] w fun e w'=>e=.returned (.tuple #[])/\K.St D w' cur [0] 0 false (Ag K.fns c cur (Ge l.ps [] (Bu (decide (l.s∈(K.fns.take rc).map (·.1))) 3 l.line f)).1 0 true (Ge l.ps [] (Bu (decide (l.s∈(K.fns.take rc).map (·.1))) 3 l.line f)).2).2 (rc+1)/\A4 D w w':=by
 obtain⟨hlo,lcb,hncb⟩:=hst.lo;have hpn:pn=l.ps.length:=(C9 hprm.1).1;subst hpn;have hcb:K.cb≠b:=fun e=>hncb (by rw[e];exact hD);obtain⟨p,hp⟩:=hst.fr.find l.s rc (by omega);have HNm:=A0 (fun(n:Nat)=>X9 (hst.drewN n).fr rc (by omega) l.s p hp);have hseen:=A79 hp;have hcap:=hst.fr.cap;have hlen:=hst.fr.len;have hfew:=hst.fr.few;have HSt:=A0 hst;have HBlk:=A0 hblk;have HPrm:=A0 hprm;have HRun:=A0 (fun(W:World) (pcur:List Nm) (g:B3) (hs:K.St D W (cur++pcur) ([0]++[cur.length]) 0 true g (rc+1)) (hbd:A4 D w W) (hpl:pcur.length<=l.ps.length)=>Xf K c hok D W cur pcur [0] 0 true g (rc+1) va vn vc ks hs (hown.Be hbd) (hrep.Be hbd) (by rw[List.length_append];omega) (by simp;omega) (by omega));obtain⟨na,nn,nc,ba,bn,bc,la,ln,lc,ls,hv⟩:=hst.st;obtain⟨c0,c1,c2,c3,c4,c5,c6,c7,fz,lb⟩:=Gn hv.cell;obtain⟨d0,d1,d2,d3,fd,ld⟩:=Ci hblk;have hcap2:rc<=K.fc:=by omega
 rw[hlen]at c0;have hrl:rc<=K.fns.length:=by omega
 clear hst hblk hprm hown hrep hp hv hcap hlen;generalize hsq:decide (l.s∈(K.fns.take rc).map (·.1))=sq at *;have HSq:=A0 hsq;clear hsq;go_enter Tryz.func234,Tryz.ntmps234;go_wp2;go_quiet ((go_at_call 263;exact Calls.quiet_of_same (HNm.o _)))
 rcases hseen with⟨rfl,hsv⟩|⟨⟨pb,rfl⟩,hsv⟩
 ·have Bi:Hid (K.St D (w.drewN nq) cur [0] 0 false (Bu sq 3 l.line f) rc):=by rw[hsv,Qd];exact HSt.o.drewN nq
  have Ai:=A0 (Hi D w nq);clear c0 c1 c2 c3 c4 c5 c6 c7 fz lb d0 d1 d2 d3 fd ld hsv;generalize w.drewN nq=w2 at *;generalize Jm:Bu sq 3 l.line f=f1 at *;have HF1:=A0 Jm;clear Jm;obtain⟨na2,nn2,nc2,ba2,bn2,bc2,la2,Gp,lc2,ls2,hv2⟩:=Bi.o.st;obtain⟨c0,c1,c2,c3,c4,c5,c6,c7,fz,lb⟩:=Gn hv2.cell;have HV2:=A0 hv2;clear hv2;have Cw:=(Ai.o.block b hD).trans HBlk.o;obtain⟨d0,d1,d2,d3,fd,ld⟩:=Ci Cw;clear Cw;go_wp2_with fail
  have hs2c:F8 D K.cb K.te ((w2.setCell ⟨K.cb,1,none⟩ (.int .i64 ((rc:Int)+1))).setCell ⟨K.cb,5,none⟩ (.bool true)) cur [0] 0 true f1 (rc+1) K.fa K.fn K.fc:=by
   refine⟨na2,nn2,nc2,ba2,bn2,bc2,la2,Gp,lc2,ls2,HV2.o.put true f1 (rc+1) (by omega) ?_ (fun g _ hne=>by rw[Below.heap_setCell _ _ _ _ (by exact hne),Below.heap_setCell _ _ _ _ (by exact hne)]) (by simp[World.setCell])⟩;have:=heap_set (j:=5) (heap_set (j:=1) HV2.o.cell (.int .i64 ((rc:Int)+1))) (.bool true);simpa using this
  have hb2c:A4 D w2 ((w2.setCell ⟨K.cb,1,none⟩ (.int .i64 ((rc:Int)+1))).setCell ⟨K.cb,5,none⟩ (.bool true)):=A4.set (p:=⟨K.cb,5,none⟩) (A4.set (p:=⟨K.cb,1,none⟩) (A4.refl _ _) hncb _) hncb _;refine(Sw hs2c (by simp)).mono ?_;rintro e w3 ⟨rfl,At,Ar⟩;have B4:Hid (A4 D w w3):=Ai.o.trans (hb2c.trans Ar);have Df:Hid (K.St D w3 cur ([0]++[cur.length]) 0 true f1 (rc+1)):=⟨At,HSt.o.fr.keep B4.o⟩;clear At Ar hs2c hb2c c0 c1 c2 c3 c4 c5 c6 c7 fz lb d0 d1 d2 d3 fd ld HV2 Bi;have En:=(B4.o.block b hD).trans HBlk.o;obtain⟨d0,d1,d2,d3,fd,ld⟩:=Ci En;clear En;go_wp2;go_loopg [46] l.ps.length (fun k v wr=>∃(i:Nat) (pcur:List Nm) (fl:B3),v=.int .i64 i/\i+k=l.ps.length/\pcur.length=i/\K.St D wr (cur++pcur) ([0]++[cur.length]) 0 true fl (rc+1)/\Ge (l.ps.drop i) pcur fl=Ge l.ps [] f1/\A4 D w wr)
  case atStart=>exact⟨0,[],f1,rfl,by omega,rfl,by rw[List.append_nil];exact Df.o,rfl,B4.o⟩
  case round=>
   clear Df B4 d0 d1 d2 d3 fd ld Ai;obtain⟨i,pcur,fl,rfl,hik,hpc,hst,hpf,hbel⟩:=hrel;have HStR:=A0 hst;have HPf:=A0 hpf;have HBelR:=A0 hbel;obtain⟨hloR,lcbR,_⟩:=hst.lo;clear hst hpf hbel;by_cases hlt:i<l.ps.length
   ·obtain⟨g,rfl,_,hcapP,lg,hcell⟩:=Fs (HPrm.o.Be HBelR.o).1 (by omega);obtain⟨q0,q1⟩:=Tr l.ps i hlt;have y0:=hcell _ _ q0;have y1:=hcell _ _ q1;have HStep:=A0 (Vs l.ps i hlt pcur fl);generalize l.ps[i]=pp at *;have HPr:=A0 (HStR.o.st.Lw (.cells #[.int .i64 (pp.1:Nat),.string ⟨pp.2.toArray⟩] 148));have HCell:=A0 (heap_alloc_new wr (.cells #[.int .i64 (pp.1:Nat),.string ⟨pp.2.toArray⟩] 148));clear hcell q0 q1;go_wp2_with fail
    refine(Uv HPr.o pp.1 pp.2).mono ?_;rintro e w5 ⟨rfl,C0,C7⟩;have hc5:=(C7.block wr.heap.size (.inr rfl)).trans HCell.o;obtain⟨z0,z1,fz5,lz⟩:=J2 hc5;have Fo:Hid (A4 D wr w5):=A4.trans ((A4.refl D wr).alloc hloR _) (C7.weak (fun g hg=>.inl hg));obtain⟨na5,Gb,nc5,ba5,bn5,bc5,la5,Ff,lc5,ls5,Jo⟩:=C0;have lcb5:=A5 Jo.cell;have HV5:=A0 (Jo.keep (w':=w5.drew) (fun _ _=>rfl) (Nat.le_refl _));have Ei:=A0 (U0 HV5.o.Mj (by rw[Ox,List.length_append];omega) ⟨pp.2.toArray⟩ (by simp));clear C7 hc5 Jo y0 y1 HPr;generalize wr.heap.size=tb5 at *;go_wp2;go_region_law (refine Nf rfl 137 _ _ rfl #[.pointer (some ⟨K.cb,2,none⟩),.string ⟨pp.2.toArray⟩] (by kernel_rfl) Ei.o ?_;rintro e w6 ⟨rfl,hp6⟩;refine⟨_,rfl,?_⟩)
    all_goals
     obtain⟨k1,k2⟩:=HV5.o.Vw pp.2 (by rw[List.length_append];omega) hp6;have HS6:=A0 (k1.weak (E:=D) (fun g hg=>.inl hg));have K3:Hid (A4 D w w6):=HBelR.o.trans (Fo.o.trans (A4.weak (D:=fun g=>D g\/g=tb5) ⟨k2.os,k2.tape,k2.output,k2.size,k2.block⟩ (fun g hg=>.inl hg)));clear k1 k2 hp6 HV5 Ei;go_wp2;go_roundg (gk-1)
     case measure=>omega
     case rel=>
      refine⟨i+1,pcur++[pp.2],_,rfl,by omega,by simp;omega,⟨by rw[←List.append_assoc];exact HS6.o,HSt.o.fr.keep K3.o⟩,?_,K3.o⟩;rw[←HPf.o,HStep.o]
   ·have hend:(pcur,fl)=Ge l.ps [] f1:=by rw[←HPf.o,Vr l.ps i (by omega)]
    have HEnd:=A0 hend;have hbkR:=(HBelR.o.block b hD).trans HBlk.o;obtain⟨d0,d1,d2,d3,fd,ld⟩:=Ci hbkR;clear hbkR hend;go_wp2_with fail
    refine(HRun.o wr pcur fl HStR.o HBelR.o (by omega)).mono ?_;rintro e w7 ⟨rfl,Fz,Jl⟩;have HS7:=A0 Fz;have HB7:Hid (A4 D w w7):=HBelR.o.trans Jl;clear Fz Jl;go_wp2_with fail
    refine(Su HS7.o.st (by simp)).mono ?_;rintro e w8 ⟨rfl,hs8,hb8⟩;rw[List.take_left]at hs8;have HB8:Hid (A4 D w w8):=HB7.o.trans hb8;obtain⟨na8,nn8,nc8,ba8,bn8,bc8,la8,ln8,lc8,ls8,hv8⟩:=hs8;obtain⟨e0,e1,e2,e3,e4,e5,e6,e7,fe,le⟩:=Gn hv8.cell;have HV8:=A0 hv8;clear hb8 hv8;go_wp2;go_end0;have E0:A4 D w8 (w8.setCell ⟨K.cb,5,none⟩ (.bool false)):=A4.set (p:=⟨K.cb,5,none⟩) (A4.refl _ _) hncb _;rw[HF1.o,←HEnd.o];refine⟨rfl,⟨⟨na8,nn8,nc8,ba8,bn8,bc8,la8,ln8,lc8,ls8,HV8.o.put false _ (rc+1) HV8.o.few.2.2.2 ?_ (fun g _ hne=>Below.heap_setCell _ _ _ _ (by exact hne)) (by simp[World.setCell])⟩,HSt.o.fr.keep (HB8.o.trans E0)⟩,HB8.o.trans E0⟩;have:=heap_set (j:=5) HV8.o.cell (.bool false);simpa using this
 ·have Aq:=A0 (HSt.o.drewN nq);have Ab:=A0 (Hi D w nq);have Ki:Hid ((w.drewN nq).heap[b]?=_):=HBlk.o;clear c0 c1 c2 c3 c4 c5 c6 c7 fz lb d0 d1 d2 d3 fd ld;generalize w.drewN nq=w1 at *;obtain⟨d0,d1,d2,d3,fd,ld⟩:=Ci Ki.o;subst hsv;go_wp2_with fail
  refine(Om Aq.o.st 3 l.line).mono ?_;rintro e w2 ⟨rfl,Av,A9⟩;have Bi:=A0 (Aq.o.next Av A9);have Ai:Hid (A4 D w w2):=Ab.o.trans A9;clear Av A9 d0 d1 d2 d3 fd ld Aq Ab Ki;generalize Jm:Bu true 3 l.line f=f1 at *;have HF1:=A0 Jm;clear Jm;obtain⟨na2,nn2,nc2,ba2,bn2,bc2,la2,Gp,lc2,ls2,hv2⟩:=Bi.o.st;obtain⟨c0,c1,c2,c3,c4,c5,c6,c7,fz,lb⟩:=Gn hv2.cell;have HV2:=A0 hv2;clear hv2;have Cw:=(Ai.o.block b hD).trans HBlk.o;obtain⟨d0,d1,d2,d3,fd,ld⟩:=Ci Cw;clear Cw;go_wp2_with fail
  have hs2c:F8 D K.cb K.te ((w2.setCell ⟨K.cb,1,none⟩ (.int .i64 ((rc:Int)+1))).setCell ⟨K.cb,5,none⟩ (.bool true)) cur [0] 0 true f1 (rc+1) K.fa K.fn K.fc:=by
   refine⟨na2,nn2,nc2,ba2,bn2,bc2,la2,Gp,lc2,ls2,HV2.o.put true f1 (rc+1) (by omega) ?_ (fun g _ hne=>by rw[Below.heap_setCell _ _ _ _ (by exact hne),Below.heap_setCell _ _ _ _ (by exact hne)]) (by simp[World.setCell])⟩;have:=heap_set (j:=5) (heap_set (j:=1) HV2.o.cell (.int .i64 ((rc:Int)+1))) (.bool true);simpa using this
  have hb2c:A4 D w2 ((w2.setCell ⟨K.cb,1,none⟩ (.int .i64 ((rc:Int)+1))).setCell ⟨K.cb,5,none⟩ (.bool true)):=A4.set (p:=⟨K.cb,5,none⟩) (A4.set (p:=⟨K.cb,1,none⟩) (A4.refl _ _) hncb _) hncb _;refine(Sw hs2c (by simp)).mono ?_;rintro e w3 ⟨rfl,At,Ar⟩;have B4:Hid (A4 D w w3):=Ai.o.trans (hb2c.trans Ar);have Df:Hid (K.St D w3 cur ([0]++[cur.length]) 0 true f1 (rc+1)):=⟨At,HSt.o.fr.keep B4.o⟩;clear At Ar hs2c hb2c c0 c1 c2 c3 c4 c5 c6 c7 fz lb d0 d1 d2 d3 fd ld HV2 Bi;have En:=(B4.o.block b hD).trans HBlk.o;obtain⟨d0,d1,d2,d3,fd,ld⟩:=Ci En;clear En;go_wp2;go_loopg [46] l.ps.length (fun k v wr=>∃(i:Nat) (pcur:List Nm) (fl:B3),v=.int .i64 i/\i+k=l.ps.length/\pcur.length=i/\K.St D wr (cur++pcur) ([0]++[cur.length]) 0 true fl (rc+1)/\Ge (l.ps.drop i) pcur fl=Ge l.ps [] f1/\A4 D w wr)
  case atStart=>exact⟨0,[],f1,rfl,by omega,rfl,by rw[List.append_nil];exact Df.o,rfl,B4.o⟩
  case round=>
   clear Df B4 d0 d1 d2 d3 fd ld Ai;obtain⟨i,pcur,fl,rfl,hik,hpc,hst,hpf,hbel⟩:=hrel;have HStR:=A0 hst;have HPf:=A0 hpf;have HBelR:=A0 hbel;obtain⟨hloR,lcbR,_⟩:=hst.lo;clear hst hpf hbel;by_cases hlt:i<l.ps.length
   ·obtain⟨g,rfl,_,hcapP,lg,hcell⟩:=Fs (HPrm.o.Be HBelR.o).1 (by omega);obtain⟨q0,q1⟩:=Tr l.ps i hlt;have y0:=hcell _ _ q0;have y1:=hcell _ _ q1;have HStep:=A0 (Vs l.ps i hlt pcur fl);generalize l.ps[i]=pp at *;have HPr:=A0 (HStR.o.st.Lw (.cells #[.int .i64 (pp.1:Nat),.string ⟨pp.2.toArray⟩] 148));have HCell:=A0 (heap_alloc_new wr (.cells #[.int .i64 (pp.1:Nat),.string ⟨pp.2.toArray⟩] 148));clear hcell q0 q1;go_wp2_with fail
    refine(Uv HPr.o pp.1 pp.2).mono ?_;rintro e w5 ⟨rfl,C0,C7⟩;have hc5:=(C7.block wr.heap.size (.inr rfl)).trans HCell.o;obtain⟨z0,z1,fz5,lz⟩:=J2 hc5;have Fo:Hid (A4 D wr w5):=A4.trans ((A4.refl D wr).alloc hloR _) (C7.weak (fun g hg=>.inl hg));obtain⟨na5,Gb,nc5,ba5,bn5,bc5,la5,Ff,lc5,ls5,Jo⟩:=C0;have lcb5:=A5 Jo.cell;have HV5:=A0 (Jo.keep (w':=w5.drew) (fun _ _=>rfl) (Nat.le_refl _));have Ei:=A0 (U0 HV5.o.Mj (by rw[Ox,List.length_append];omega) ⟨pp.2.toArray⟩ (by simp));clear C7 hc5 Jo y0 y1 HPr;generalize wr.heap.size=tb5 at *;go_wp2;go_region_law (refine Nf rfl 137 _ _ rfl #[.pointer (some ⟨K.cb,2,none⟩),.string ⟨pp.2.toArray⟩] (by kernel_rfl) Ei.o ?_;rintro e w6 ⟨rfl,hp6⟩;refine⟨_,rfl,?_⟩)
    all_goals
     obtain⟨k1,k2⟩:=HV5.o.Vw pp.2 (by rw[List.length_append];omega) hp6;have HS6:=A0 (k1.weak (E:=D) (fun g hg=>.inl hg));have K3:Hid (A4 D w w6):=HBelR.o.trans (Fo.o.trans (A4.weak (D:=fun g=>D g\/g=tb5) ⟨k2.os,k2.tape,k2.output,k2.size,k2.block⟩ (fun g hg=>.inl hg)));clear k1 k2 hp6 HV5 Ei;go_wp2;go_roundg (gk-1)
     case measure=>omega
     case rel=>
      refine⟨i+1,pcur++[pp.2],_,rfl,by omega,by simp;omega,⟨by rw[←List.append_assoc];exact HS6.o,HSt.o.fr.keep K3.o⟩,?_,K3.o⟩;rw[←HPf.o,HStep.o]
   ·have hend:(pcur,fl)=Ge l.ps [] f1:=by rw[←HPf.o,Vr l.ps i (by omega)]
    have HEnd:=A0 hend;have hbkR:=(HBelR.o.block b hD).trans HBlk.o;obtain⟨d0,d1,d2,d3,fd,ld⟩:=Ci hbkR;clear hbkR hend;go_wp2_with fail
    refine(HRun.o wr pcur fl HStR.o HBelR.o (by omega)).mono ?_;rintro e w7 ⟨rfl,Fz,Jl⟩;have HS7:=A0 Fz;have HB7:Hid (A4 D w w7):=HBelR.o.trans Jl;clear Fz Jl;go_wp2_with fail
    refine(Su HS7.o.st (by simp)).mono ?_;rintro e w8 ⟨rfl,hs8,hb8⟩;rw[List.take_left]at hs8;have HB8:Hid (A4 D w w8):=HB7.o.trans hb8;obtain⟨na8,nn8,nc8,ba8,bn8,bc8,la8,ln8,lc8,ls8,hv8⟩:=hs8;obtain⟨e0,e1,e2,e3,e4,e5,e6,e7,fe,le⟩:=Gn hv8.cell;have HV8:=A0 hv8;clear hb8 hv8;go_wp2;go_end0;have E0:A4 D w8 (w8.setCell ⟨K.cb,5,none⟩ (.bool false)):=A4.set (p:=⟨K.cb,5,none⟩) (A4.refl _ _) hncb _;rw[HF1.o,←HEnd.o];refine⟨rfl,⟨⟨na8,nn8,nc8,ba8,bn8,bc8,la8,ln8,lc8,ls8,HV8.o.put false _ (rc+1) HV8.o.few.2.2.2 ?_ (fun g _ hne=>Below.heap_setCell _ _ _ _ (by exact hne)) (by simp[World.setCell])⟩,HSt.o.fr.keep (HB8.o.trans E0)⟩,HB8.o.trans E0⟩;have:=heap_set (j:=5) HV8.o.cell (.bool false);simpa using this
theorem Wf.top{x y:Nat}{l:A2}{c r:BT A2}(h:Wf 4 (.node x y l c r)):(l.kd=20->Wf 1 c)/\(l.kd≠20->Wf 1 (nd l c)/\((22<=l.kd/\l.kd<=30)\/l.kd=21)):=by
 rcases h.2 with⟨h0,_⟩|⟨h0,_⟩|⟨h0,_⟩|⟨_,h1,h2⟩|⟨_,h1,h2⟩|⟨_,h1,h2⟩|⟨_,h1,h2⟩
 ·omega
 ·omega
 ·omega
 ·exact⟨fun e=>by omega,fun _=>⟨⟨trivial,.inr (.inr (.inr (.inl ⟨.inl rfl,h1,h2⟩)))⟩,by omega⟩⟩
 ·exact⟨fun e=>by omega,fun _=>⟨⟨trivial,.inr (.inr (.inr (.inr (.inl ⟨.inl rfl,h1,h2⟩))))⟩,by omega⟩⟩
 ·refine⟨fun e=>(by rw[e]at h1;cases h1),fun _=>⟨⟨trivial,.inr (.inr (.inr (.inr (.inr (.inl ⟨.inl rfl,h1,h2⟩)))))⟩,?_⟩⟩;unfold Qa at h1;simp only[Bool.or_eq_true,Bool.and_eq_true,decide_eq_true_eq,beq_iff_eq]at h1;omega
 ·exact⟨fun _=>h2,fun e=>absurd h1 e⟩
theorem A40(K:CC)(l:A2)(c:BT A2)(hk:l.kd=20)(hok:Co (Lf K) c)(D:Nat->Prop)(w:World)(cur:List Nm)(f:B3)(rc:Nat)(v:Value)(ks:List Value)(hst:K.St D w cur [0] 0 false f rc)(hrc:rc<K.fns.length)(hn:Ba D w l v ks)(hr:Aj D w c ks)(A3:cur.length+l.ps.length+bsize c<=600000) :
  Calls Tryz.prog 192 #[.pointer (some ⟨K.cb,0,none⟩),v] w fun e w'=>e=.returned (.tuple #[])/\K.St D w' cur [0] 0 false (Ag K.fns c cur (Ge l.ps [] (Bu (decide (l.s∈(K.fns.take rc).map (·.1))) 3 l.line f)).1 0 true (Ge l.ps [] (Bu (decide (l.s∈(K.fns.take rc).map (·.1))) 3 l.line f)).2).2 (rc+1)/\A4 D w w':=by
 obtain⟨hlo,lcb,hncb⟩:=hst.lo;unfold Ba at hn;rw[if_neg (by omega)]at hn;obtain⟨b,cs,rfl,hD,hb,hl⟩:=hn;have e1:C3 l.kd=143:=by rw[hk];rfl
 have e2:Db l.kd=218:=by rw[hk];rfl
 rw[e1];rw[e2]at hb;unfold Ck at hl;simp only[hk]at hl;obtain⟨ps,sl,rfl,ho,hpo⟩:=hl;obtain⟨va,vn,vc,rfl⟩:∃va vn vc,sl=.slice va vn vc:=Oe ho.1;obtain⟨pa,pn,pc,rfl⟩:∃va vn vc,ps=.slice va vn vc:=Oe hpo.1;have HC:=A0 (A3e K l c hok D w cur f rc b pa pn pc va vn vc ks hst hrc hD hb hpo ho hr A3);have ld:=A5 hb;have D4:=fun(v:Value) (w:World)=>Dz (P:=Tryz.prog) (xT:=142) Tryz.underlying143 v w;clear hst hb e1 e2 hk hr ho hpo;unfold Bx;go_enter Tryz.func192,Tryz.ntmps192;go_wp2_with fail
 refine HC.o.mono ?_;rintro e w1 ⟨rfl,Ad,A3⟩;have Aq:=A0 Ad;have Ab:=A0 A3;clear Ad A3;go_wp2;go_end0;exact⟨rfl,Aq.o,Ab.o⟩
theorem A49(K:CC)(c:BT A2)(hwf:Wf 4 c)(hfns:K.fns=Bf c)(D:Nat->Prop)(w:World)(f:B3)(va:Option Addr)(vn vc:Nat)(ks:List Value)
  (hst:K.St D w [] [0] 0 false f 0) (hown:C1 D w 142 1 (.slice va vn vc) ks.length ks) (hrep:Aj D w c ks) (A3:bsize c<=400000) :
  Calls Tryz.prog 134 #[.pointer (some ⟨K.cb,0,none⟩),.slice va vn vc] w fun e w'=>e=.returned (.tuple #[])/\(∃cn rc,K.St D w' cn [0] 0 false (Dj K.fns c [] [] f) rc)/\A4 D w w':=by
 have hvn:vn=ks.length:=(C9 hown.1).1;subst hvn;have Dk:=A0 hst;have HOwn:=A0 hown;have HRep:=A0 hrep;have hlen:=hrep.len;have HLen:=A0 hlen;have hls:=Kl c;have hkl:ks.length<=700000:=by omega
 have HFns:=A0 hfns;have HWf:=A0 hwf;clear hst hown hrep hlen hfns hwf;go_enter Tryz.func134,Tryz.ntmps134;go_wp2;go_loopg [8] ks.length (fun k v wr=>∃(i n:Nat) (cn:List Nm) (fl:B3),v=.int .i64 i/\i+k=ks.length/\cn.length+bsize (Au i c)<=bsize c/\K.St D wr cn [0] 0 false fl n/\K.fns.drop n=Bf (Au i c)/\Dj K.fns (Au i c) ((K.fns.take n).map (·.1)) cn fl=Dj K.fns c [] [] f/\A4 D w wr)
 case atStart=>exact⟨0,0,[],f,rfl,by omega,by rw[show Au 0 c=c from by cases c <;> rfl];simp,Dk.o,HFns.o,rfl,A4.refl _ _⟩
 case round=>
  clear Dk;obtain⟨i,n,cn,fl,rfl,hik,hcn,hst,hdr,hse,hbel⟩:=hrel;have HSt:=A0 hst;have HSe:=A0 hse;have HBel:=A0 hbel;have HDr:=A0 hdr;clear hst hse hbel hdr;by_cases hlt:i<ks.length
  ·have hr:=HRep.o.Be HBel.o;obtain⟨x,y,l,cc,r,hd,v,ks',hv,hn,hrk⟩:=Aj.at' i c ks hr (by rw[←HLen.o];exact hlt);obtain⟨g,rfl,_,hcap,lg,hcell⟩:=Fs (HOwn.o.Be HBel.o).1 (by omega);have d0:=hcell i v hv;have hdn:=M4 i c;have hsz:bsize (Au i c)=bsize (nd l cc)+bsize r:=by rw[hd,B8,bsize]
   have hnds:=B8 l cc;have hds:=Ko i c x y l cc r hd;have HDs:=A0 hds;have hw4:Wf 4 (.node x y l cc r):=by have:=Wf.drop 4 i c HWf.o;rw[hd]at this;exact this
   by_cases h20:l.kd=20
   ·obtain⟨hnl,hnf,hdr',htk⟩:=Yv (HDr.o.trans ((congrArg Bf hd).trans (T2 x y l cc r h20)));have HDr':=A0 hdr';have HC:=A0 (A40 K l cc h20 ((x7 K cc (by omega)).1 (hw4.top.1 h20)) D wr cn fl n v ks' HSt.o hnl hn hrk (by omega));have HNx:=A0 ((congrArg (fun q=>Dj K.fns q ((K.fns.take n).map (·.1)) cn fl) hd).symm.trans HSe.o);have HFn:=A0 (Tu K.fns x y l cc r ((K.fns.take n).map (·.1)) cn fl h20);have HTk:=A0 htk;clear hr hd hv hn hrk hcell hds hw4 hnf hdr' htk;go_wp2_with fail
    refine HC.o.mono ?_;rintro e w1 ⟨rfl,Ad,A3⟩;have Aq:=A0 Ad;have Ab:Hid (A4 D w w1):=HBel.o.trans A3;clear Ad A3;go_wp2;go_roundg (gk-1)
    case measure=>omega
    case rel=>exact⟨i+1,n+1,cn,_,rfl,by omega,by rw[HDs.o];omega,Aq.o,by rw[HDs.o];exact HDr'.o,by rw[HDs.o,HTk.o,←HNx.o,HFn.o],Ab.o⟩
   ·have Bm:=(hw4.top.2 h20).1;have HC:=A0 (((x7 K (nd l cc) (by omega)).1 Bm).1 D wr [] cn [] 0 false fl n v ks' HSt.o hn hrk (by simp only[List.nil_append];omega) (by simp only[List.length_nil];omega) (by omega));have hnil:Ag K.fns (.node x y l cc .nil) [] cn 0 false fl=Ag K.fns (nd l cc) [] cn 0 false fl:=L5 K.fns x y l cc [] cn 0 false fl;have hsx:=((congrArg (fun q=>Dj K.fns q ((K.fns.take n).map (·.1)) cn fl) hd).symm.trans HSe.o);rw[R6 K.fns x y l cc r _ cn fl h20,hnil]at hsx;have HSx:=A0 hsx;have HF2:=A0 ((HDr.o.trans (congrArg Bf hd)).trans (Qt x y l cc r h20));have hcl:=M8 K.fns (nd l cc) [] cn 0 false fl;clear hr hd hv hn hrk hcell hds hw4 Bm hnil hsx;go_wp2_with fail
    refine HC.o.mono ?_;rintro e w1 ⟨rfl,Ad,A3⟩;have Aq:=A0 Ad;have Ab:Hid (A4 D w w1):=HBel.o.trans A3;clear Ad A3;go_wp2;go_roundg (gk-1)
    case measure=>omega
    case rel=>exact⟨i+1,n,(Ag K.fns (nd l cc) [] cn 0 false fl).1,_,rfl,by omega,by rw[HDs.o];omega,Aq.o,by rw[HDs.o];exact HF2.o,by rw[HDs.o];exact HSx.o,Ab.o⟩
  ·have HE:Hid (fl=Dj K.fns c [] [] f):=by
    have h0:Au i c=.nil:=by
     have:A8 (Au i c)=0:=by rw[L4,←HLen.o];omega
     cases hd:Au i c with
     | nil=>rfl
     | node x y l c r=>rw[hd]at this;simp[A8]at this
    have:=HSe.o;rw[h0]at this;exact this
   go_wp2;go_end0;rw[←HE.o];exact⟨rfl,⟨cn,n,HSt.o⟩,HBel.o⟩
theorem A32(K:CC)(c:BT A2)(hwf:Wf 4 c)(hfns:K.fns=Bf c)(D:Nat->Prop)(w:World)(f:B3)(va:Option Addr)(vn vc:Nat)(ks:List Value)
  (hst:K.St D w [] [] 0 false f 0) (hown:C1 D w 142 1 (.slice va vn vc) ks.length ks) (hrep:Aj D w c ks) (A3:bsize c<=400000) :
  Calls Tryz.prog 80 #[.pointer (some ⟨K.cb,0,none⟩),.slice va vn vc] w fun e w'=>e=.returned (.tuple #[])/\(∃cn bk rc,K.St D w' cn bk 0 false (Dj K.fns c [] [] f) rc)/\A4 D w w':=by
 have HO:=A0 (Sw hst.st (by simp));have HSt:=A0 hst;have HRun:=A0 (fun(W:World) (hs:K.St D W [] [0] 0 false f 0) (hbd:A4 D w W)=>A49 K c hwf hfns D W f va vn vc ks hs (hown.Be hbd) (hrep.Be hbd) A3);clear hst hown hrep;go_enter Tryz.func80,Tryz.ntmps80;go_wp2_with fail
 refine HO.o.mono ?_;rintro e w1 ⟨rfl,Ad,A3⟩;have Aq:=A0 (HSt.o.next Ad A3);have Ab:=A0 A3;clear Ad A3;go_wp2_with fail
 refine(HRun.o _ Aq.o Ab.o).mono ?_;rintro e w2 ⟨rfl,⟨cn,rc,Av⟩,A9⟩;have Bi:=A0 Av;have Ai:Hid (A4 D w w2):=Ab.o.trans A9;clear Av A9;go_wp2_with fail
 refine(Su (bk:=[]) (p:=0) Bi.o.st (Nat.zero_le _)).mono ?_;rintro e w3 ⟨rfl,At,Ar⟩;have Df:=A0 (Bi.o.next At Ar);have B4:Hid (A4 D w w3):=Ai.o.trans Ar;clear At Ar;go_wp2;go_end0;exact⟨rfl,⟨_,_,_,Df.o⟩,B4.o⟩
theorem A64:(Tryz.prog.info? 143).map (fun i=>(i.zero,i.size,i.bytes))=some (some (.pointer none),1,8):=by kernel_rfl
def Wr(D:Nat->Prop)(w:World)(p:Nm×Nat)(v:Value):Prop:=∃pb pa pc,v=.pointer (some ⟨pb,0,none⟩)/\D pb/\pb<w.heap.size/\w.cell? ⟨pb,1,none⟩=some (.string ⟨p.1.toArray⟩)/\w.cell? ⟨pb,2,none⟩=some (.slice pa p.2 pc)
def A0x(D:Nat->Prop)(c:BT A2)(nk:Nat)(w:World)(k:Nat)(v3 v13:Value)(wr:World):Prop:=
 ∃(i:Nat) (fs:List (Nm×Nat)) (fa:Option Addr) (fn fc:Nat) (ps:List Value),v3=.slice fa fn fc/\v13=.int .i64 i/\i+k=nk/\Bf c=fs++Bf (Au i c)/\fs.length<=i/\wr.ownsRow 0 143 1 (.slice fa fn fc) ps.length ps/\ps.length=fs.length/\
  (∀j (h:j<fs.length),∃v,ps[j]?=some v/\Wr D w fs[j] v)/\(∀g,(Value.slice fa fn fc).ownBlock=some g->w.heap.size<=g)/\Below w.heap.size w wr
def A0w(D:Nat->Prop)(c:BT A2)(w:World)(e:Ending)(w':World):Prop:=
 ∃fa fn fc,e=.returned (.slice fa fn fc)/\Below w.heap.size w w'/\Je (fun g=>D g\/(Value.slice fa fn fc).ownBlock=some g) w' (Bf c) fa fn fc/\(∀g,(Value.slice fa fn fc).ownBlock=some g->w.heap.size<=g/\g<w'.heap.size)
theorem b7{kd:Nat}(h:(22<=kd/\kd<=30)\/kd=21):C3 kd≠143:=by
 have h9:kd=21\/kd=22\/kd=23\/kd=24\/kd=25\/kd=26\/kd=27\/kd=28\/kd=29\/kd=30:=by omega
 rcases h9 with e|e|e|e|e|e|e|e|e|e <;> (subst e;decide)
theorem Yy(c:BT A2)(hwf:Wf 4 c)(D:Nat->Prop)(w:World)(pb:Nat)(va:Option Addr)(vn vc:Nat)(ks:List Value)(hpb:w.heap[pb]?=some (.cells #[.slice va vn vc] 140 (0,0)))
  (hown:C1 D w 142 1 (.slice va vn vc) ks.length ks) (hrep:Aj D w c ks) (A3:bsize c<=90000) :
  Calls Tryz.prog 52 #[.pointer (some ⟨pb,0,none⟩)] w (A0w D c w):=by
 have hvn:vn=ks.length:=(C9 hown.1).1;subst hvn;have c0:=Ac hpb 0 _ rfl;have lp:=A5 hpb;have HOwn:=A0 hown;have HRep:=A0 hrep;have hlen:=hrep.len;have HLen:=A0 hlen;have hls:=Kl c;have hkl:ks.length<=90000:=by omega
 have HWf:=A0 hwf;clear hown hrep hlen hwf hpb;go_enter Tryz.func52,Tryz.ntmps52;go_wp2;go_loopg [3,13] ks.length (fun k v3 v13 wr=>A0x D c ks.length w k v3 v13 wr)
 case atStart=>exact⟨0,[],none,0,0,[],rfl,rfl,by omega,rfl,Nat.le_refl _,World.ownsRow_nil _ _ _ _,rfl,fun j h=>by simp at h,by simp[Value.ownBlock],Below.refl _ _⟩
 case round=>
  obtain⟨i,fs,fa,fn,fc,ps,rfl,rfl,hik,hfs,hfl,hro,hpl,hat,hlo,hbel⟩:=hrel;have HFs:=A0 hfs;have HRo:=A0 hro;have HAt:=A0 hat;have HLo:=A0 hlo;have HBel:=A0 hbel;have HPl:=A0 hpl;clear hfs hro hat hlo hbel;by_cases hlt:i<ks.length
  ·obtain⟨x,y,l,cc,r,hd,v,ks',hv,hn,hrk⟩:=Aj.at' i c ks HRep.o (by rw[←HLen.o];exact hlt);obtain⟨g,rfl,_,hcap,lg,hcell⟩:=Fs HOwn.o.1 (by omega);have d0:=(World.cell?_of_block (HBel.o.block g lg)).trans (hcell i v hv);have lg2:g<wr.heap.size:=Nat.lt_of_lt_of_le lg HBel.o.size;have hds:=Ko i c x y l cc r hd;have HDs:=A0 hds;have hw4:Wf 4 (.node x y l cc r):=by have:=Wf.drop 4 i c HWf.o;rw[hd]at this;exact this
   by_cases h20:l.kd=20
   ·unfold Ba at hn;rw[if_neg (by omega)]at hn;obtain⟨b,cs,rfl,hD,hb,hl⟩:=hn;have e1:C3 l.kd=143:=by rw[h20];rfl
    rw[e1]at d0;unfold Ck at hl;simp only[h20]at hl;obtain⟨pp,sl,rfl,_,hpo⟩:=hl;obtain⟨pa,pn,pc,rfl⟩:∃va vn vc,pp=.slice va vn vc:=Oe hpo.1;have hpn:pn=l.ps.length:=(C9 hpo.1).1;have HFnA:Hid (Wr D w (l.s,l.ps.length) (.pointer (some ⟨b,0,none⟩))):=by
     refine⟨b,pa,pc,rfl,hD,A5 hb,Ac hb 1 _ rfl,?_⟩;have:=Ac hb 2 _ rfl;rw[hpn]at this;exact this
    have HFx:Hid (Bf c=(fs++[(l.s,l.ps.length)])++Bf (Au (i+1) c)):=by
     show _=_;rw[HFs.o,hd,T2 x y l cc r h20,hds];simp
    have ta:=fun(v:Value) (w:World)=>Dz (P:=Tryz.prog) (xT:=142) Tryz.underlying143 v w;have hrow:=HRo.o;have hpl2:ps.length<=90000:=by omega
    clear hcell hd hv hrk hds hw4 e1 h20 hb hpo hpn hpl;unfold Bx at d0;go_wp2_with (at_builtin;refine F1 wr #[.pointer (some ⟨b,0,none⟩)] 143 rfl (.tmp 23) (.tmp 25) 129 rfl 0 1 8 (.pointer none) Tryz.underlying129 A64 rfl (by omega) (.slice fa fn fc) ps.length ps rfl rfl hrow rfl (fun u hu=>by simp at hu;rw[hu];rfl) (by omega) (by omega) (Nat.zero_le _) ?_;intro g2 cap2 w2 Iv hgrow2 hat2 Eo)
    have hsz:=HBel.o.size;go_roundg (gk-1)
    case measure=>omega
    case rel=>
     refine⟨i+1,fs++[(l.s,l.ps.length)],some ⟨g2,0,none⟩,ps.length+1,cap2,ps++[.pointer (some ⟨b,0,none⟩)],rfl,rfl,by omega,HFx.o,by simp;omega,by simpa using Iv,by simp[HPl.o],?_,?_,?_⟩
     ·intro j hj;by_cases hjl:j<fs.length
      ·obtain⟨v,k1,k2⟩:=HAt.o j hjl;refine⟨v,?_,by rw[List.getElem_append_left hjl];exact k2⟩;rw[List.getElem?_append_left (by rw[HPl.o];exact hjl)];exact k1
      ·have hje:j=fs.length:=by simp at hj;omega
       subst hje;refine⟨_,?_,by rw[List.getElem_append_right (Nat.le_refl _)];simpa using HFnA.o⟩;rw[List.getElem?_append_right (by rw[HPl.o];exact Nat.le_refl _),HPl.o];simp
     ·intro k hk;simp only[Value.ownBlock,Option.some.injEq]at hk;rw[←hk];rcases hat2 with h|h
      ·exact HLo.o g2 h
      ·omega
     ·exact⟨hgrow2.os.trans HBel.o.os,hgrow2.tape.trans HBel.o.tape,hgrow2.output.trans HBel.o.output,Nat.le_trans hsz hgrow2.size,fun k hk=>(hgrow2.block k (by omega) (fun e=>by have:=HLo.o k e.symm;omega)).trans (HBel.o.block k hk)⟩
   ·have hk:=(hw4.top.2 h20).2;unfold Ba at hn;rw[if_neg (by omega)]at hn;obtain⟨b,cs,rfl,hD,hb,hl⟩:=hn;have HFx:Hid (Bf c=fs++Bf (Au (i+1) c)):=by
     show _=_;rw[HFs.o,hd,Qt x y l cc r h20,hds]
    have hpt:=b7 hk;have ta:=fun(v:Value) (w:World)=>Az (P:=Tryz.prog) (t:=C3 l.kd) (T:=143) (xT:=142) (z:=.pointer none) Tryz.underlying143 (by kernel_rfl) hpt v w;clear hcell hd hv hrk hds hw4 h20 hb hl hk hpt hpl;generalize C3 l.kd=tt at *;go_wp2;go_roundg (gk-1)
    case measure=>omega
    case rel=>exact⟨i+1,fs,fa,fn,fc,ps,rfl,rfl,by omega,HFx.o,by omega,HRo.o,HPl.o,HAt.o,HLo.o,HBel.o⟩
  ·have hfn:fn=ps.length:=(C9 HRo.o).1;have hcp:=Vk HRo.o;have HE:Hid (Bf c=fs):=by
    show _=_;have h0:Au i c=.nil:=by
     have:A8 (Au i c)=0:=by rw[L4,←HLen.o];omega
     cases hd:Au i c with
     | nil=>rfl
     | node x y l c r=>rw[hd]at this;simp[A8]at this
    have:=HFs.o;rw[h0]at this;simpa [Bf]using this
   go_wp2;go_ret;refine⟨fa,fn,fc,rfl,HBel.o,?_,fun g hg=>⟨HLo.o g hg,Ca HRo.o g hg⟩⟩;rw[HE.o];refine⟨by rw[hfn,HPl.o],by omega,by omega,fun j hj=>?_⟩;obtain⟨v,k1,pb',pa,pc,rfl,k2,k3,k4,k5⟩:=HAt.o j hj;obtain⟨g,hfa,_,_,lg,hcell⟩:=Fs HRo.o (by omega);have hsz:=HBel.o.size;refine⟨g,pb',pa,pc,hfa,.inr (by rw[hfa];rfl),lg,hcell j _ k1,.inl k2,by omega,(World.cell?_of_block (HBel.o.block pb' k3)).trans k4,(World.cell?_of_block (HBel.o.block pb' k3)).trans k5⟩
theorem A3f{w:World}{fa:Option Addr}{fn fc:Nat}:F8 (fun g=>g<w.heap.size) w.heap.size 213 (w.alloc (.cells #[.slice fa fn fc,.int .i64 0,.slice none 0 0,.slice none 0 0,.slice none 0 0,.bool false,.int .i64 0,.int .i64 0] 213)) [] [] 0 false (0,0) 0 fa fn fc:=by
 refine⟨none,0,0,none,0,0,none,0,0,[],heap_alloc_new _ _,World.ownsRow_nil _ _ _ _,World.ownsRow_nil _ _ _ _,World.ownsRow_nil _ _ _ _,rfl,by omega,?_,?_,?_,by simp,fun g hg=>by simp;omega⟩;all_goals intro g hg;simp[Value.ownBlock]at hg
theorem A2x(c:BT A2)(hwf:Wf 4 c)(D:Nat->Prop)(w:World)(pb:Nat)(va:Option Addr)(vn vc:Nat)(ks:List Value)(hpb:w.heap[pb]?=some (.cells #[.slice va vn vc] 140 (0,0)))
  (hown:C1 D w 142 1 (.slice va vn vc) ks.length ks) (hrep:Aj D w c ks) (A3:bsize c<=90000) :
  Calls Tryz.prog 51 #[.pointer (some ⟨pb,0,none⟩)] w fun e w'=>e=.returned (.agg #[.int .i64 ((Dj (Bf c) c [] [] (0,0)).1:Nat),.int .i64 ((Dj (Bf c) c [] [] (0,0)).2:Nat)])/\Below w.heap.size w w':=by
 have lp:=A5 hpb;have Ks:∀g,D g->g<w.heap.size->(w.alloc (.cells #[.int .i64 0,.int .i64 0] 50)).heap[g]?=w.heap[g]?/\(D g/\g<w.heap.size):=fun g hg hl=>⟨Below.heap_alloc _ _ _ hl,hg,hl⟩;have HC:=A0 (Yy c hwf (fun g=>D g/\g<w.heap.size) (w.alloc (.cells #[.int .i64 0,.int .i64 0] 50)) pb va vn vc ks (alloc_old hpb) (hown.keep Ks) (Aj.keep Ks _ _ hrep) A3);have HPb:=A0 hpb;have HOwn:=A0 hown;have HRep:=A0 hrep;have HWf:=A0 hwf;clear hpb hown hrep hwf Ks;go_enter Tryz.func51,Tryz.ntmps51;go_wp2_with fail
 refine HC.o.mono ?_;rintro e w2 ⟨fa,fn,fc,rfl,A9,hfn,hrow⟩;have G6:=Bg A9 (heap_alloc_new w (.cells #[.int .i64 0,.int .i64 0] 50));have hP2:=Bg A9 (alloc_old (o':=.cells #[.int .i64 0,.int .i64 0] 50) HPb.o);have Ai:Hid (Below w.heap.size w w2):=Below.trans (Below.alloc (Below.refl _ _) (Nat.le_refl _) _) (A9.mono (by simp));have ls2:=A9.size;rw[World.size_alloc]at ls2;have c0:=Ac hP2 0 _ rfl;have lp2:=A5 hP2;have F9:=A0 G6;have HK:Hid ((⟨w2.heap.size,213,Bf c,fa,fn,fc⟩:CC).St (fun g=>g<w2.heap.size) (w2.alloc (.cells #[.slice fa fn fc,.int .i64 0,.slice none 0 0,.slice none 0 0,.slice none 0 0,.bool false,.int .i64 0,.int .i64 0] 213)) [] [] 0 false (0,0) 0):=by
  refine⟨A3f,?_⟩;have h1:Je (fun g=>g<w2.heap.size) w2 (Bf c) fa fn fc:=by
   refine⟨hfn.len,hfn.few,hfn.cap,fun i hi=>?_⟩;obtain⟨g,pb',pa,pc,e1,_,e3,e4,_,e6,e7,e8⟩:=hfn.at' i hi;exact⟨g,pb',pa,pc,e1,e3,e3,e4,e6,e6,e7,e8⟩
  exact h1.keep ⟨rfl,rfl,rfl,by simp,fun k hk=>Below.heap_alloc _ _ _ hk⟩
 have Bk:∀g,D g->g<w.heap.size->(w2.alloc (.cells #[.slice fa fn fc,.int .i64 0,.slice none 0 0,.slice none 0 0,.slice none 0 0,.bool false,.int .i64 0,.int .i64 0] 213)).heap[g]?=w.heap[g]?/\g<w2.heap.size:=fun g hg hl=>⟨(Below.heap_alloc _ _ _ (by omega)).trans (Ai.o.block g hl),by omega⟩;have HRun:=A0 (A32 ⟨w2.heap.size,213,Bf c,fa,fn,fc⟩ c HWf.o rfl _ _ (0,0) va vn vc ks HK.o (HOwn.o.keep Bk) (Aj.keep Bk _ _ HRep.o) (by omega));clear A9 hfn hrow G6 hP2 Bk HC HK;go_wp2_with fail
 refine HRun.o.mono ?_;rintro e w3 ⟨rfl,⟨cn,bk,rc,At⟩,Ar⟩;obtain⟨na,nn,nc,ba,bn,bc,la,ln,lc,ls,hv⟩:=At.st;obtain⟨y0,y1,y2,y3,y4,y5,y6,y7,fy,ly⟩:=Gn hv.cell;have hR3:=(Ar.block w.heap.size (by omega)).trans (alloc_old (o':=.cells #[.slice fa fn fc,.int .i64 0,.slice none 0 0,.slice none 0 0,.slice none 0 0,.bool false,.int .i64 0,.int .i64 0] 213) F9.o);obtain⟨z0,z1,fz,lz⟩:=J2 hR3;have ls3:=Ar.size;rw[World.size_alloc]at ls3;have B4:Hid (Below w.heap.size w w3):=⟨Ar.os.trans Ai.o.os,Ar.tape.trans Ai.o.tape,Ar.output.trans Ai.o.output,by omega,fun k hk=>(Ar.block k (by omega)).trans ((Below.heap_alloc _ _ _ (by omega)).trans (Ai.o.block k hk))⟩;clear At hv hR3 Ar c0;generalize hfl:Dj (Bf c) c [] [] (0,0)=fl at *;have HFl:=A0 hfl;clear hfl;go_wp2;refine bodyPost_ret (v:=.agg #[.int .i64 (fl.1:Nat),.int .i64 (fl.2:Nat)]) (by simp[results,Tryz.results51,go_sem,z0,z1]) rfl ⟨by rw[HFl.o],?_⟩;repeat (first|exact B4.o|refine Below.alloc ?_ (by simp;omega) _|refine Below.setCell ?_ (by simp) _|refine Below.drew ?_)
end
end Go.Proofs.YtjdlndhfaaolaaaGreatDoor
