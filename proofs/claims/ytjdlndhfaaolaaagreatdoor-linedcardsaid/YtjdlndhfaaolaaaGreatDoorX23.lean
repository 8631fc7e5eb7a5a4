import Derived.Test.YtjdlndhfaaolaaaGreatDoorX22
set_option maxHeartbeats 20000000
namespace Go.Proofs.YtjdlndhfaaolaaaGreatDoor
section
set_option maxRecDepth 100000
open Go.RowKit
open Go.Deep (BT)
theorem Nu{w:World}{base:Nat}{e:TypeId}{size:Nat}{v:Value}{n:Nat}{xs:List Value}(h:w.ownsRow base e size v n xs):∃a n c,v=.slice a n c:=by
 rcases h.2 with⟨rfl,_⟩|⟨g,cap,cur,rfl,_⟩
 ·exact⟨_,_,_,rfl⟩
 ·exact⟨_,_,_,rfl⟩
theorem A9m(K:CC)(l:A3)(c:BT A3)(hk:l.kd=9)(ih:Cq (Fq K) c)(hwf:Wf 0 c)(hsz:Ak c<=500000):Fq K l c:=by
 intro D w outer cur bk wh inn f rc v ks hst hn hr;obtain⟨hlo,lcb,hncb⟩:=hst.lo;unfold Bh at hn;rw[if_neg z4sa]at hn;obtain⟨b,cs,rfl,hD,hb,hl⟩:=hn;have e1:Cc l.kd=296:=by rw[hk];rfl
 have e2:D8 l.kd=300:=by rw[hk];rfl
 rw[e1];rw[e2]at hb;rw[J5 K.fns l c z4sa z4sa z4sa];unfold Cm at hl;simp only[hk]at hl;obtain⟨sl,rfl,ho⟩:=hl;rw[Kp z4sa];obtain⟨va,vn,vc,rfl⟩:∃va vn vc,sl=.slice va vn vc:=Nu ho.1;have HC:=A0 (o7 K c ih hwf D w outer cur bk wh inn f rc va vn vc ks hst ho hr (by rw[hr.len];exact hsz));have d0:=A7 hb 1 _ rfl;have ld:=A6 hb;have D4:=fun(v:Value) (w:World)=>B6 (P:=Tryz.prog) (t:=296) (T:=238) (xT:=150) (z:=.pointer none) Tryz.underlying238 (by kernel_rfl) z4ta v w;have Dp:=fun(v:Value) (w:World)=>B6 (P:=Tryz.prog) (t:=296) (T:=301) (xT:=150) (z:=.pointer none) Tryz.underlying301 (by kernel_rfl) z4ta v w;have Ej:=fun(v:Value) (w:World)=>B6 (P:=Tryz.prog) (t:=296) (T:=241) (xT:=150) (z:=.pointer none) Tryz.underlying241 (by kernel_rfl) z4ta v w;have F9:=fun(v:Value) (w:World)=>Ds (P:=Tryz.prog) (xT:=150) Tryz.underlying296 v w;clear hst hb e1 e2 hk hr ih hwf ho;exact z10a
theorem A9i(K:CC)(l:A3)(c:BT A3)(hk:l.kd=7)(ih:Cq (Fq K) c)(hwf:Wf 0 c)(hsz:Ak c<=500000):Fq K l c:=by
 intro D w outer cur bk wh inn f rc v ks hst hn hr;obtain⟨hlo,lcb,hncb⟩:=hst.lo;unfold Bh at hn;rw[if_neg z4sa]at hn;obtain⟨b,cs,rfl,hD,hb,hl⟩:=hn;have e1:Cc l.kd=301:=by rw[hk];rfl
 have e2:D8 l.kd=303:=by rw[hk];rfl
 rw[e1];rw[e2]at hb;rw[J5 K.fns l c z4sa z4sa z4sa];unfold Cm at hl;simp only[hk]at hl;obtain⟨sl,rfl,ho⟩:=hl;have hp:Ko K.fns l (Ak c) outer cur wh inn f=Cy (Ma K.fns l.s (Ak c)) 3 l.line f:=by unfold Ko;rw[if_neg z4sa,if_pos hk]
 rw[hp];obtain⟨va,vn,vc,rfl⟩:∃va vn vc,sl=.slice va vn vc:=Nu ho.1;have HC:=A0 (A9f K c ih hwf l.line l.s D w outer cur bk wh inn f rc b va vn vc ks hst hD hb ho hr (by rw[hr.len];exact hsz));have ld:=A6 hb;have D4:=fun(v:Value) (w:World)=>B6 (P:=Tryz.prog) (t:=301) (T:=238) (xT:=150) (z:=.pointer none) Tryz.underlying238 (by kernel_rfl) z4ta v w;have Dp:=fun(v:Value) (w:World)=>Ds (P:=Tryz.prog) (xT:=150) Tryz.underlying301 v w;clear hst hb e1 e2 hk hr ih hwf ho hp;exact z10a
theorem bin_lay'{D:Nat->Prop}{w:World}{l:A3}{cs:Array Value}{ks:List Value}(hk:127<=l.kd/\l.kd<=140)(h:Cm D w l cs ks):∃a b,cs=#[Gd l.line,.int .i64 ((l.kd-100:Nat):Nat),a,b]/\ks=[a,b]:=by
 have h14:l.kd=127\/l.kd=128\/l.kd=129\/l.kd=130\/l.kd=131\/l.kd=132\/l.kd=133\/l.kd=134\/l.kd=135\/l.kd=136\/l.kd=137\/l.kd=138\/l.kd=139\/l.kd=140:=by omega
 unfold Cm at h;rcases h14 with e|e|e|e|e|e|e|e|e|e|e|e|e|e <;> (simp only[e]at h ⊢;exact h)
theorem bin_ty'{kd:Nat}(hk:127<=kd/\kd<=140):Cc kd=248/\D8 kd=295:=by
 have h14:kd=127\/kd=128\/kd=129\/kd=130\/kd=131\/kd=132\/kd=133\/kd=134\/kd=135\/kd=136\/kd=137\/kd=138\/kd=139\/kd=140:=by omega
 rcases h14 with e|e|e|e|e|e|e|e|e|e|e|e|e|e <;> (subst e;exact⟨rfl,rfl⟩)
theorem A9h(K:CC)(l:A3)(c:BT A3)(hk:127<=l.kd/\l.kd<=140)(ih:Cq (Fq K) c)(hwf:Wf 0 c):Fq K l c:=by
 intro D w outer cur bk wh inn f rc v ks hst hn hr;obtain⟨hlo,lcb,hncb⟩:=hst.lo;unfold Bh at hn;rw[if_neg z4sa]at hn;obtain⟨b,cs,rfl,hD,hb,hl⟩:=hn;obtain⟨e1,e2⟩:=bin_ty' hk;rw[e1];rw[e2]at hb;rw[J5 K.fns l c z4sa z4sa z4sa];replace hl:=bin_lay' hk hl;obtain⟨a1,a2,rfl,rfl⟩:=hl;obtain⟨x1,y1,l1,c1,r1,Cx,rfl,B9,B8,hz⟩:=hr.cons';obtain⟨x2,y2,l2,c2,r2,Gl,rfl,D7,Bm,Bw⟩:=hz.cons';obtain rfl:=Bw.nil';have hc0:=Kr K.fns _ hwf.Qk outer cur wh inn f;rw[Kp z4sa,sens_xy',hc0,Jx];have HC:=A0 (ih.1 D w outer cur bk wh inn f rc a1 Cx hst B9 B8);have Ed:=A0 (fun W g (hs:K.St D W (outer++cur) bk wh inn g rc) (hbd:A2 D w W)=>ih.2.1 D W outer cur bk wh inn g rc a2 Gl hs (D7.Bf hbd) (Bm.Bf hbd));have d0:=A7 hb 2 a1 rfl;have ld:=A6 hb;have HBk:=A0 hb;have D4:=fun(v:Value) (w:World)=>B6 (P:=Tryz.prog) (t:=248) (T:=238) (xT:=150) (z:=.pointer none) Tryz.underlying238 (by kernel_rfl) z4ta v w;have Dp:=fun(v:Value) (w:World)=>B6 (P:=Tryz.prog) (t:=248) (T:=301) (xT:=150) (z:=.pointer none) Tryz.underlying301 (by kernel_rfl) z4ta v w;have Ej:=fun(v:Value) (w:World)=>B6 (P:=Tryz.prog) (t:=248) (T:=241) (xT:=150) (z:=.pointer none) Tryz.underlying241 (by kernel_rfl) z4ta v w;have F9:=fun(v:Value) (w:World)=>B6 (P:=Tryz.prog) (t:=248) (T:=296) (xT:=150) (z:=.pointer none) Tryz.underlying296 (by kernel_rfl) z4ta v w;have G6:=fun(v:Value) (w:World)=>B6 (P:=Tryz.prog) (t:=248) (T:=304) (xT:=150) (z:=.pointer none) Tryz.underlying304 (by kernel_rfl) z4ta v w;have I7:=fun(v:Value) (w:World)=>B6 (P:=Tryz.prog) (t:=248) (T:=307) (xT:=150) (z:=.pointer none) Tryz.underlying307 (by kernel_rfl) z4ta v w;have Jg:=fun(v:Value) (w:World)=>B6 (P:=Tryz.prog) (t:=248) (T:=310) (xT:=150) (z:=.pointer none) Tryz.underlying310 (by kernel_rfl) z4ta v w;have ta7:=fun(v:Value) (w:World)=>B6 (P:=Tryz.prog) (t:=248) (T:=244) (xT:=150) (z:=.pointer none) Tryz.underlying244 (by kernel_rfl) z4ta v w;have ta8:=fun(v:Value) (w:World)=>Ds (P:=Tryz.prog) (xT:=150) Tryz.underlying248 v w;clear hst hb e1 e2 hk hr B9 B8 hz ih hwf hc0 D7 Bm Bw;unfold C3;go_enter Tryz.func236,Tryz.ntmps236;go_wp2_with fail
 refine HC.o.mono ?_;rintro e w1 ⟨rfl,Ai,A1⟩;have A8:=A0 Ai;have A4:=A0 A1;have Bd:=(A1.block b hD).trans HBk.o;have d1:=A7 Bd 3 a2 rfl;have ld1:=A6 Bd;clear Ai A1 d0 ld Bd;go_wp2_with fail
 refine(Ed.o _ _ A8.o A4.o).mono ?_;rintro e w2 ⟨rfl,Az,A9⟩;have Ah:=A0 Az;exact z0xa
theorem z40a {P:Prop} (h:P:=by
  (try unfold Gi at h);simp only[Bool.or_eq_true,Bool.and_eq_true,decide_eq_true_eq]at h;omega):P:=h
theorem Acg{kd:Nat}(h:Gi kd=true):(kd=1\/kd=2\/kd=3\/kd=4\/kd=5)\/kd=6\/kd=7\/kd=8\/kd=9\/kd=10\/kd=11\/kd=12\/kd=13\/kd=14\/(127<=kd/\kd<=140):=by
 exact z40a
theorem Wf.exs{x y:Nat}{l:A3}{c r:BT A3}(h:Wf 0 (.node x y l c r)):Gi l.kd=true/\Wf 0 c/\Wf 0 r:=by
 rcases h.2 with⟨_,h1,h2⟩|⟨h1,_⟩|⟨h1,_⟩|⟨h1,_⟩|⟨h1,_⟩|⟨h1,_⟩|⟨h1,_⟩
 ·exact⟨h1,h2,h.1⟩
 all_goals omega
theorem Xd(K:CC):∀f:BT A3,Wf 0 f->bsize f<=500000->Cq (Fq K) f:=by
 intro f;induction f with
 | nil=>intro _ _;trivial
 | node x y l c r Cb Bn=>
  intro h hs;obtain⟨h1,h2,h3⟩:=h.exs;rw[bsize]at hs;have ih:=Cb h2 z4sa;have hl:=Ni c;refine⟨?_,Bn h3 z4sa⟩;rcases Acg h1 with e|e|e|e|e|e|e|e|e|e|e
  ·exact A9k K l c e
  ·exact o6 K l c e
  ·exact A9i K l c e ih h2 z4sa
  ·exact A9j K l c e ih
  ·exact A9m K l c e ih h2 z4sa
  ·exact A9l K l c e ih
  ·exact A9p K l c e ih h2
  ·exact o5 K l c e ih h2
  ·exact A9o K l c e ih
  ·exact A9n K l c e ih
  ·exact A9h K l c e ih h2
theorem Bh.isIface{D:Nat->Prop}{w:World}{l:A3}{v:Value}{ks:List Value}(h:Bh D w l v ks)(h1:l.kd≠31)(h2:l.kd≠32):∃t x,v=.iface t x:=by
 unfold Bh at h;rw[if_neg z4sa]at h;obtain⟨b,cs,e,_⟩:=h;exact⟨_,_,e⟩
theorem Oa{kd:Nat}(h:Gi kd=true):kd≠31/\kd≠32/\kd≠21:=by
 exact z40a
def Ka(K:CC)(l:A3)(c:BT A3):Prop:=∀(D:Nat->Prop) (w:World) (outer cur:List Nm) (bl:List Nat) (wh:Nat) (inn:Bool) (f:C4) (rc:Nat) (v:Value) (ks:List Value),
 K.St D w (outer++cur) (bl++[outer.length]) wh inn f rc->Bh D w l v ks->Al D w c ks->(outer++cur).length+bsize (nd l c)<=700000->bl.length+bsize (nd l c)<=700000->wh+bsize (nd l c)<=700000->
 Calls Tryz.prog 192 #[.pointer (some ⟨K.cb,0,none⟩),v] w fun e w'=>e=.returned (.tuple #[])/\K.St D w' (outer++(Ba K.fns (nd l c) outer cur wh inn f).1) (bl++[outer.length]) wh inn (Ba K.fns (nd l c) outer cur wh inn f).2 rc/\A2 D w w'
theorem z6fa {P:Prop} (h:P:=by rw[List.length_append];omega):P:=h
theorem x7(K:CC)(c:BT A3)(hok:Cq (Ka K) c)(D:Nat->Prop)(w:World)(outer cur:List Nm)(bl:List Nat)(wh:Nat)(inn:Bool)(f:C4)(rc:Nat)(va:Option Addr)(vn vc:Nat)(ks:List Value)
  (hst:K.St D w (outer++cur) (bl++[outer.length]) wh inn f rc) (hown:Cr D w 142 1 (.slice va vn vc) ks.length ks) (hrep:Al D w c ks) (A1:(outer++cur).length+bsize c<=700000) (A9:bl.length+bsize c<=700000) (Ar:wh+bsize c<=700000) :
  Calls Tryz.prog 134 #[.pointer (some ⟨K.cb,0,none⟩),.slice va vn vc] w fun e w'=>e=.returned (.tuple #[])/\K.St D w' (outer++(Ba K.fns c outer cur wh inn f).1) (bl++[outer.length]) wh inn (Ba K.fns c outer cur wh inn f).2 rc/\A2 D w w':=by
 have hvn:vn=ks.length:=(Cf hown.1).1;subst hvn;have HSt0:=A0 hst;have HOwn:=A0 hown;have HRep:=A0 hrep;have hlen:=hrep.len;have HLen:=A0 hlen;have hls:=Ni c;have hkl:ks.length<=700000:=by omega
 rw[List.length_append]at A1;clear hst hown hrep hlen;go_enter Tryz.func134,Tryz.ntmps134;go_wp2;go_loopg [8] ks.length (fun k v wr=>∃(i:Nat) (cn:List Nm) (fl:C4),v=.int .i64 i/\i+k=ks.length/\cn.length+bsize (C2 i c)<=cur.length+bsize c/\K.St D wr (outer++cn) (bl++[outer.length]) wh inn fl rc/\Ba K.fns (C2 i c) outer cn wh inn fl=Ba K.fns c outer cur wh inn f/\A2 D w wr)
 case atStart=>exact⟨0,cur,f,rfl,by omega,by rw[show C2 0 c=c from by cases c <;> rfl];exact Nat.le_refl _,HSt0.o,rfl,A2.refl _ _⟩
 case round=>
  clear HSt0;obtain⟨i,cn,fl,rfl,hik,hcn,hst,hse,hbel⟩:=hrel;have HSt:=A0 hst;have HSe:=A0 hse;have HBel:=A0 hbel;clear hst hse hbel;by_cases hlt:i<ks.length
  ·have hr:=HRep.o.Bf HBel.o;obtain⟨x,y,l,cc,r,hd,v,ks',hv,hn,hrk⟩:=Al.at' i c ks hr z5ca;obtain⟨g,rfl,_,hcap,lg,hcell⟩:=Hg (HOwn.o.Bf HBel.o).1 z4sa;have d0:=hcell i v hv;have hE:=A0 (hok.at' i c x y l cc r hd);have Ai:=sens_xy' K.fns x y l cc r outer cn wh inn fl;have hdn:=Wb i c;have hsz:bsize (C2 i c)=bsize (nd l cc)+bsize r:=by rw[hd,Br,bsize]
   have hcl:=A3f K.fns (nd l cc) outer cn wh inn fl;have hds:=O8 i c x y l cc r hd;have HNx:Hid (Ba K.fns (C2 (i+1) c) outer (Ba K.fns (nd l cc) outer cn wh inn fl).1 wh inn (Ba K.fns (nd l cc) outer cn wh inn fl).2=Ba K.fns c outer cur wh inn f):=by
    show _=_;rw[hds,←HSe.o,hd,Ai]
   have HDs:=A0 hds;have HC:=A0 (hE.out D wr outer cn bl wh inn fl rc v ks' HSt.o hn hrk z6fa z4sa z4sa);clear hr hd hv hn hrk hcell Ai hds;go_wp2_with fail
   refine HC.o.mono ?_;rintro e w1 ⟨rfl,Ai,A1⟩;have A8:=A0 Ai;have A4:Hid (A2 D w w1):=HBel.o.trans A1;clear Ai A1;go_wp2;go_roundg (gk-1)
   case measure=>omega
   case rel=>exact⟨i+1,_,_,rfl,by omega,by rw[HDs.o];omega,A8.o,HNx.o,A4.o⟩
  ·have HE:Hid ((cn,fl)=Ba K.fns c outer cur wh inn f):=by
    exact z0pa
   exact z2qa
theorem R9(K:CC)(c:BT A3)(hok:Cq (Ka K) c)(D:Nat->Prop)(w:World)(ns:List Nm)(bk:List Nat)(wh:Nat)(inn:Bool)(f:C4)(rc:Nat)(va:Option Addr)(vn vc:Nat)(ks:List Value)
  (hst:K.St D w ns bk wh inn f rc) (hown:Cr D w 142 1 (.slice va vn vc) ks.length ks) (hrep:Al D w c ks) (A1:ns.length+bsize c<=700000) (A9:bk.length+bsize c<=700000) (Ar:wh+bsize c<=700000) :
  Calls Tryz.prog 80 #[.pointer (some ⟨K.cb,0,none⟩),.slice va vn vc] w fun e w'=>e=.returned (.tuple #[])/\K.St D w' ns bk wh inn (Ba K.fns c ns [] wh inn f).2 rc/\A2 D w w':=by
 have HO:=A0 (Tb hst.st z4sa);have HSt:=A0 hst;have HRun:=A0 (fun(W:World) (hs:K.St D W (ns++[]) (bk++[ns.length]) wh inn f rc) (hbd:A2 D w W)=>x7 K c hok D W ns [] bk wh inn f rc va vn vc ks hs (hown.Bf hbd) (hrep.Bf hbd) (by simpa using A1) A9 Ar);clear hst hown hrep;go_enter Tryz.func80,Tryz.ntmps80;go_wp2_with fail
 refine HO.o.mono ?_;rintro e w1 ⟨rfl,Ai,A1⟩;have A8:=A0 (HSt.o.next Ai A1);have A4:=A0 A1;clear Ai A1;go_wp2_with fail
 refine(HRun.o _ (by rw[List.append_nil];exact A8.o) A4.o).mono ?_;rintro e w2 ⟨rfl,Az,A9⟩;have Ah:=A0 Az;have Aa:Hid (A2 D w w2):=A4.o.trans A9;clear Az A9;go_wp2_with fail
 refine(T9 Ah.o.st z4wa).mono ?_;rintro e w3 ⟨rfl,C0,Ar⟩;rw[List.take_left]at C0;have Be:=A0 (Ah.o.next C0 Ar);have Ay:Hid (A2 D w w3):=Aa.o.trans Ar;exact z2wa
theorem z4ra {P:Prop} (h:P:=by
  have El:=A0 F6;have Cs:Hid (A2 D w w4):=Ay.o.trans Bi;clear F6 Bi;exact z49a):P:=h
theorem z4qa {P:Prop} (h:P:=by
  exact⟨rfl,Be.o,Ay.o⟩):P:=h
theorem A9y(K:CC)(l:A3)(c:BT A3)(ih:Cq (Fq K) c)(hwf:Wf 0 c)(D:Nat->Prop)(w:World)(outer cur:List Nm)(bk:List Nat)(wh:Nat)(inn:Bool)(f:C4)(rc:Nat)(b:Nat)(a:Value)(ks:List Value)
  (hst:K.St D w (outer++cur) bk wh inn f rc) (hD:D b) (hblk:w.heap[b]?=some (.cells #[.int .i64 (l.line:Nat),a] 318 (0,0))) (hks:(ks=[]/\a=.nilIface)\/ks=[a]) (hrep:Al D w c ks) :
  Calls Tryz.prog 239 #[.pointer (some ⟨K.cb,0,none⟩),.pointer (some ⟨b,0,none⟩)] w fun e w'=>e=.returned (.tuple #[])/\K.St D w' (outer++cur) bk wh inn (Ba K.fns c outer cur wh inn (Cy (!inn) 4 l.line f)).2 rc/\A2 D w w':=by
 obtain⟨hlo,lcb,hncb⟩:=hst.lo;have HSt:=A0 hst;have HBlk:=A0 hblk;obtain⟨na,nn,nc,ba,bn,bc,la,ln,lc,ls,hv⟩:=hst.st;obtain⟨c0,c1,c2,c3,c4,c5,c6,c7,fz,lb⟩:=Nk hv.cell;have d0:=A7 hblk 0 _ rfl;have d1:=A7 hblk 1 _ rfl;have ld:=A6 hblk;clear hst hblk hv c0 c1 c2 c3 c4 c6 c7 fz;rcases hks with⟨rfl,rfl⟩|rfl
 ·rw[hrep.nil',Ba];clear hrep;cases inn
  ·go_enter Tryz.func239,Tryz.ntmps239;go_wp2_with fail
   refine(O7 HSt.o.st 4 l.line).mono ?_;rintro e w3 ⟨rfl,C0,Ar⟩;have Be:=A0 (HSt.o.next C0 Ar);have Ay:=A0 Ar;have Eh:=(Ar.block b hD).trans HBlk.o;clear C0 Ar d0 d1 ld c5;have d1:=A7 Eh 1 _ rfl;have ld:=A6 Eh;clear Eh;go_wp2;go_end0;exact z4qa
  ·rw[show(!true)=false from rfl,Pv];go_enter Tryz.func239,Tryz.ntmps239;exact z4da
 ·obtain⟨x1,y1,l1,c1,r1,Cx,rfl,B9,B8,hz⟩:=hrep.cons';obtain rfl:=hz.nil';rw[Jx];have hif:∃t x,a=.iface t x:=B9.isIface (Oa hwf.exs.1).1 (Oa hwf.exs.1).2.1;obtain⟨t,x,rfl⟩:=hif;have HC:=A0 (fun W g (hs:K.St D W (outer++cur) bk wh inn g rc) (hbd:A2 D w W)=>ih.1 D W outer cur bk wh inn g rc (.iface t x) Cx hs (B9.Bf hbd) (B8.Bf hbd));clear hrep B9 B8 hz ih hwf;cases inn
  ·go_enter Tryz.func239,Tryz.ntmps239;go_wp2_with fail
   refine(O7 HSt.o.st 4 l.line).mono ?_;rintro e w3 ⟨rfl,C0,Ar⟩;have Be:=A0 (HSt.o.next C0 Ar);have Ay:=A0 Ar;have Eh:=(Ar.block b hD).trans HBlk.o;clear C0 Ar d0 d1 ld c5;have d1:=A7 Eh 1 _ rfl;have ld:=A6 Eh;clear Eh;go_wp2_with fail
   refine(HC.o _ _ Be.o Ay.o).mono ?_;rintro e w4 ⟨rfl,F6,Bi⟩;exact z4ra
  ·rw[show(!true)=false from rfl,Pv];go_enter Tryz.func239,Tryz.ntmps239;go_wp2_with fail
   refine(HC.o _ _ HSt.o (A2.refl _ _)).mono ?_;rintro e w4 ⟨rfl,F6,Bi⟩;have El:=A0 F6;have Cs:=A0 Bi;clear F6 Bi;exact z49a
theorem z1ca {P:Prop} (h:P:=by
  unfold C3;go_enter Tryz.func192,Tryz.ntmps192;go_wp2_with fail
  refine(HC.o).mono ?_;rintro e w1 ⟨rfl,Ai,A1⟩;have A8:=A0 Ai;have A4:Hid (A2 D w w1):=A1;clear Ai A1 ;go_wp2;go_end0;exact⟨rfl,A8.o,A4.o⟩):P:=h
theorem Aag(K:CC)(l:A3)(c:BT A3)(hk:l.kd=27)(ih:Cq (Fq K) c)(hwf:Wf 0 c):Ka K l c:=by
 intro D w outer cur bl wh inn f rc v ks hst hn hr Bq Bw Fy;obtain⟨hlo,lcb,hncb⟩:=hst.lo;unfold Bh at hn;rw[if_neg z4sa]at hn;obtain⟨b,cs,rfl,hD,hb,hl⟩:=hn;have e1:Cc l.kd=265:=by rw[hk];rfl
 have e2:D8 l.kd=267:=by rw[hk];rfl
 rw[e1];rw[e2]at hb;unfold Cm at hl;simp only[hk]at hl;obtain⟨a,rfl,rfl⟩:=hl;have hnd:=J5 K.fns l c z4sa z4sa z4sa outer cur wh inn f;rw[Kp z4sa]at hnd;rw[hnd,Kr K.fns c hwf];obtain⟨x1,y1,l1,c1,r1,Cx,rfl,B9,B8,hz⟩:=hr.cons';obtain rfl:=hz.nil';rw[Jx];have HC:=A0 (ih.1 D w outer cur _ wh inn f rc a Cx hst B9 B8);have d0:=A7 hb 1 a rfl;have ld:=A6 hb;have D4:=fun(v:Value) (w:World)=>B6 (P:=Tryz.prog) (t:=265) (T:=143) (xT:=142) (z:=.pointer none) Tryz.underlying143 (by kernel_rfl) z4ta v w;have Dp:=fun(v:Value) (w:World)=>B6 (P:=Tryz.prog) (t:=265) (T:=145) (xT:=142) (z:=.pointer none) Tryz.underlying145 (by kernel_rfl) z4ta v w;have Ej:=fun(v:Value) (w:World)=>B6 (P:=Tryz.prog) (t:=265) (T:=253) (xT:=142) (z:=.pointer none) Tryz.underlying253 (by kernel_rfl) z4ta v w;have F9:=fun(v:Value) (w:World)=>B6 (P:=Tryz.prog) (t:=265) (T:=255) (xT:=142) (z:=.pointer none) Tryz.underlying255 (by kernel_rfl) z4ta v w;have G6:=fun(v:Value) (w:World)=>B6 (P:=Tryz.prog) (t:=265) (T:=257) (xT:=142) (z:=.pointer none) Tryz.underlying257 (by kernel_rfl) z4ta v w;have I7:=fun(v:Value) (w:World)=>B6 (P:=Tryz.prog) (t:=265) (T:=259) (xT:=142) (z:=.pointer none) Tryz.underlying259 (by kernel_rfl) z4ta v w;have Jg:=fun(v:Value) (w:World)=>B6 (P:=Tryz.prog) (t:=265) (T:=264) (xT:=142) (z:=.pointer none) Tryz.underlying264 (by kernel_rfl) z4ta v w;have ta7:=fun(v:Value) (w:World)=>Ds (P:=Tryz.prog) (xT:=142) Tryz.underlying265 v w;clear hst hb e1 e2 hk hr B9 B8 hz ih hwf hnd Bq Bw Fy;exact z1ca
theorem Aac(K:CC)(l:A3)(c:BT A3)(hk:l.kd=30)(ih:Cq (Fq K) c)(hwf:Wf 0 c):Ka K l c:=by
 intro D w outer cur bl wh inn f rc v ks hst hn hr Bq Bw Fy;obtain⟨hlo,lcb,hncb⟩:=hst.lo;unfold Bh at hn;rw[if_neg z4sa]at hn;obtain⟨b,cs,rfl,hD,hb,hl⟩:=hn;have e1:Cc l.kd=270:=by rw[hk];rfl
 have e2:D8 l.kd=272:=by rw[hk];rfl
 rw[e1];rw[e2]at hb;unfold Cm at hl;simp only[hk]at hl;obtain⟨a,rfl,rfl⟩:=hl;have hnd:=J5 K.fns l c z4sa z4sa z4sa outer cur wh inn f;rw[Kp z4sa]at hnd;rw[hnd,Kr K.fns c hwf];obtain⟨x1,y1,l1,c1,r1,Cx,rfl,B9,B8,hz⟩:=hr.cons';obtain rfl:=hz.nil';rw[Jx];have HC:=A0 (ih.1 D w outer cur _ wh inn f rc a Cx hst B9 B8);have d0:=A7 hb 0 a rfl;have ld:=A6 hb;have D4:=fun(v:Value) (w:World)=>B6 (P:=Tryz.prog) (t:=270) (T:=143) (xT:=142) (z:=.pointer none) Tryz.underlying143 (by kernel_rfl) z4ta v w;have Dp:=fun(v:Value) (w:World)=>B6 (P:=Tryz.prog) (t:=270) (T:=145) (xT:=142) (z:=.pointer none) Tryz.underlying145 (by kernel_rfl) z4ta v w;have Ej:=fun(v:Value) (w:World)=>B6 (P:=Tryz.prog) (t:=270) (T:=253) (xT:=142) (z:=.pointer none) Tryz.underlying253 (by kernel_rfl) z4ta v w;have F9:=fun(v:Value) (w:World)=>B6 (P:=Tryz.prog) (t:=270) (T:=255) (xT:=142) (z:=.pointer none) Tryz.underlying255 (by kernel_rfl) z4ta v w;have G6:=fun(v:Value) (w:World)=>B6 (P:=Tryz.prog) (t:=270) (T:=257) (xT:=142) (z:=.pointer none) Tryz.underlying257 (by kernel_rfl) z4ta v w;have I7:=fun(v:Value) (w:World)=>B6 (P:=Tryz.prog) (t:=270) (T:=259) (xT:=142) (z:=.pointer none) Tryz.underlying259 (by kernel_rfl) z4ta v w;have Jg:=fun(v:Value) (w:World)=>B6 (P:=Tryz.prog) (t:=270) (T:=264) (xT:=142) (z:=.pointer none) Tryz.underlying264 (by kernel_rfl) z4ta v w;have ta7:=fun(v:Value) (w:World)=>B6 (P:=Tryz.prog) (t:=270) (T:=265) (xT:=142) (z:=.pointer none) Tryz.underlying265 (by kernel_rfl) z4ta v w;have ta8:=fun(v:Value) (w:World)=>B6 (P:=Tryz.prog) (t:=270) (T:=268) (xT:=142) (z:=.pointer none) Tryz.underlying268 (by kernel_rfl) z4ta v w;have ta9:=fun(v:Value) (w:World)=>Ds (P:=Tryz.prog) (xT:=142) Tryz.underlying270 v w;clear hst hb e1 e2 hk hr B9 B8 hz ih hwf hnd Bq Bw Fy;exact z1ca
theorem z1na {P:Prop} (h:P:=by
  clear hst hb e1 e2 hk hr hnd Bq Bw Fy hp;unfold C3;go_enter Tryz.func192,Tryz.ntmps192;go_wp2_with fail
  refine HC.o.mono ?_;rintro e w1 ⟨rfl,Ai,A1⟩;have A8:=A0 (HSt.o.next Ai A1);have A4:=A0 A1;clear Ai A1;go_wp2;go_end0;exact⟨rfl,A8.o,A4.o⟩):P:=h
theorem Aaa(K:CC)(l:A3)(c:BT A3)(hk:l.kd=25):Ka K l c:=by
 intro D w outer cur bl wh inn f rc v ks hst hn hr Bq Bw Fy;obtain⟨hlo,lcb,hncb⟩:=hst.lo;unfold Bh at hn;rw[if_neg z4sa]at hn;obtain⟨b,cs,rfl,hD,hb,hl⟩:=hn;have e1:Cc l.kd=259:=by rw[hk];rfl
 have e2:D8 l.kd=367:=by rw[hk];rfl
 rw[e1];rw[e2]at hb;unfold Cm at hl;simp only[hk]at hl;obtain⟨rfl,rfl⟩:=hl;have hnd:=J5 K.fns l c z4sa z4sa z4sa outer cur wh inn f;have hp:Ko K.fns l (Ak c) outer cur wh inn f=Cy (wh==0) 4 l.line f:=by unfold Ko;rw[if_neg z4sa,if_neg z4sa,if_pos z4sa]
 rw[hp]at hnd;rw[hnd,hr.nil',Ba];have HC:=A0 (o9 hst.st l.line);have HSt:=A0 hst;have d0:w.cell? ⟨b,0,none⟩=some (.int .i64 (l.line:Nat)):=A7 hb 0 _ rfl;have ld:=A6 hb;have D4:=fun(v:Value) (w:World)=>B6 (P:=Tryz.prog) (t:=259) (T:=143) (xT:=142) (z:=.pointer none) Tryz.underlying143 (by kernel_rfl) z4ta v w;have Dp:=fun(v:Value) (w:World)=>B6 (P:=Tryz.prog) (t:=259) (T:=145) (xT:=142) (z:=.pointer none) Tryz.underlying145 (by kernel_rfl) z4ta v w;have Ej:=fun(v:Value) (w:World)=>B6 (P:=Tryz.prog) (t:=259) (T:=253) (xT:=142) (z:=.pointer none) Tryz.underlying253 (by kernel_rfl) z4ta v w;have F9:=fun(v:Value) (w:World)=>B6 (P:=Tryz.prog) (t:=259) (T:=255) (xT:=142) (z:=.pointer none) Tryz.underlying255 (by kernel_rfl) z4ta v w;have G6:=fun(v:Value) (w:World)=>B6 (P:=Tryz.prog) (t:=259) (T:=257) (xT:=142) (z:=.pointer none) Tryz.underlying257 (by kernel_rfl) z4ta v w;have I7:=fun(v:Value) (w:World)=>Ds (P:=Tryz.prog) (xT:=142) Tryz.underlying259 v w;exact z1na
theorem Aab(K:CC)(l:A3)(c:BT A3)(hk:l.kd=26):Ka K l c:=by
 intro D w outer cur bl wh inn f rc v ks hst hn hr Bq Bw Fy;obtain⟨hlo,lcb,hncb⟩:=hst.lo;unfold Bh at hn;rw[if_neg z4sa]at hn;obtain⟨b,cs,rfl,hD,hb,hl⟩:=hn;have e1:Cc l.kd=264:=by rw[hk];rfl
 have e2:D8 l.kd=368:=by rw[hk];rfl
 rw[e1];rw[e2]at hb;unfold Cm at hl;simp only[hk]at hl;obtain⟨rfl,rfl⟩:=hl;have hnd:=J5 K.fns l c z4sa z4sa z4sa outer cur wh inn f;have hp:Ko K.fns l (Ak c) outer cur wh inn f=Cy (wh==0) 4 l.line f:=by unfold Ko;rw[if_neg z4sa,if_neg z4sa,if_pos z4sa]
 rw[hp]at hnd;rw[hnd,hr.nil',Ba];have HC:=A0 (o9 hst.st l.line);have HSt:=A0 hst;have d0:w.cell? ⟨b,0,none⟩=some (.int .i64 (l.line:Nat)):=A7 hb 0 _ rfl;have ld:=A6 hb;have D4:=fun(v:Value) (w:World)=>B6 (P:=Tryz.prog) (t:=264) (T:=143) (xT:=142) (z:=.pointer none) Tryz.underlying143 (by kernel_rfl) z4ta v w;have Dp:=fun(v:Value) (w:World)=>B6 (P:=Tryz.prog) (t:=264) (T:=145) (xT:=142) (z:=.pointer none) Tryz.underlying145 (by kernel_rfl) z4ta v w;have Ej:=fun(v:Value) (w:World)=>B6 (P:=Tryz.prog) (t:=264) (T:=253) (xT:=142) (z:=.pointer none) Tryz.underlying253 (by kernel_rfl) z4ta v w;have F9:=fun(v:Value) (w:World)=>B6 (P:=Tryz.prog) (t:=264) (T:=255) (xT:=142) (z:=.pointer none) Tryz.underlying255 (by kernel_rfl) z4ta v w;have G6:=fun(v:Value) (w:World)=>B6 (P:=Tryz.prog) (t:=264) (T:=257) (xT:=142) (z:=.pointer none) Tryz.underlying257 (by kernel_rfl) z4ta v w;have I7:=fun(v:Value) (w:World)=>B6 (P:=Tryz.prog) (t:=264) (T:=259) (xT:=142) (z:=.pointer none) Tryz.underlying259 (by kernel_rfl) z4ta v w;have Jg:=fun(v:Value) (w:World)=>Ds (P:=Tryz.prog) (xT:=142) Tryz.underlying264 v w;exact z1na
theorem Aai(K:CC)(l:A3)(c:BT A3)(hk:l.kd=24)(ih:Cq (Fq K) c)(hwf:Wf 0 c):Ka K l c:=by
 intro D w outer cur bl wh inn f rc v ks hst hn hr Bq Bw Fy;obtain⟨hlo,lcb,hncb⟩:=hst.lo;unfold Bh at hn;rw[if_neg z4sa]at hn;obtain⟨b,cs,rfl,hD,hb,hl⟩:=hn;have e1:Cc l.kd=257:=by rw[hk];rfl
 have e2:D8 l.kd=318:=by rw[hk];rfl
 rw[e1];rw[e2]at hb;unfold Cm at hl;simp only[hk]at hl;obtain⟨a,rfl,hks⟩:=hl;have hnd:=J5 K.fns l c z4sa z4sa z4sa outer cur wh inn f;have hp:Ko K.fns l (Ak c) outer cur wh inn f=Cy (!inn) 4 l.line f:=by unfold Ko;rw[if_neg z4sa,if_neg z4sa,if_neg z4sa,if_pos z4sa]
 rw[hp]at hnd;rw[hnd,Kr K.fns c hwf];have HC:=A0 (A9y K l c ih hwf D w outer cur _ wh inn f rc b a ks hst hD hb hks hr);have ld:=A6 hb;have D4:=fun(v:Value) (w:World)=>B6 (P:=Tryz.prog) (t:=257) (T:=143) (xT:=142) (z:=.pointer none) Tryz.underlying143 (by kernel_rfl) z4ta v w;have Dp:=fun(v:Value) (w:World)=>B6 (P:=Tryz.prog) (t:=257) (T:=145) (xT:=142) (z:=.pointer none) Tryz.underlying145 (by kernel_rfl) z4ta v w;have Ej:=fun(v:Value) (w:World)=>B6 (P:=Tryz.prog) (t:=257) (T:=253) (xT:=142) (z:=.pointer none) Tryz.underlying253 (by kernel_rfl) z4ta v w;have F9:=fun(v:Value) (w:World)=>B6 (P:=Tryz.prog) (t:=257) (T:=255) (xT:=142) (z:=.pointer none) Tryz.underlying255 (by kernel_rfl) z4ta v w;have G6:=fun(v:Value) (w:World)=>Ds (P:=Tryz.prog) (xT:=142) Tryz.underlying257 v w;clear hst hb e1 e2 hk hr hnd Bq Bw Fy hp ih hwf hks;exact z1ca
theorem Aaf(K:CC)(l:A3)(c:BT A3)(hk:l.kd=21)(ih:Cq (Fq K) c)(hwf:Wf 0 c):Ka K l c:=by
 intro D w outer cur bl wh inn f rc v ks hst hn hr Bq Bw Fy;obtain⟨hlo,lcb,hncb⟩:=hst.lo;unfold Bh at hn;rw[if_neg z4sa]at hn;obtain⟨b,cs,rfl,hD,hb,hl⟩:=hn;have e1:Cc l.kd=145:=by rw[hk];rfl
 have e2:D8 l.kd=152:=by rw[hk];rfl
 rw[e1];rw[e2]at hb;unfold Cm at hl;simp only[hk]at hl;obtain⟨a,rfl,rfl⟩:=hl;have hnd:Ba K.fns (nd l c) outer cur wh inn f=((Ba K.fns c outer cur wh inn (Cy (decide (l.s∈cur)) 3 l.line f)).1++[l.s],(Ba K.fns c outer cur wh inn (Cy (decide (l.s∈cur)) 3 l.line f)).2):=by
  rw[nd,Ba,if_neg z4sa,if_neg z4sa,if_pos hk,Ba]
 rw[hnd,Kr K.fns c hwf];obtain⟨x1,y1,l1,c1,r1,Cx,rfl,B9,B8,hz⟩:=hr.cons';obtain rfl:=hz.nil';rw[Jx];have HF:=A0 (Vy hst.st l.line l.s);have HSt:=A0 hst;have HC:=A0 (fun W g (hs:K.St D W (outer++cur) (bl++[outer.length]) wh inn g rc) (hbd:A2 D w W)=>ih.1 D W outer cur _ wh inn g rc a Cx hs (B9.Bf hbd) (B8.Bf hbd));have d0:w.cell? ⟨b,0,none⟩=some (.int .i64 (l.line:Nat)):=A7 hb 0 _ rfl;have d1:w.cell? ⟨b,1,none⟩=some (.string ⟨l.s.toArray⟩):=A7 hb 1 _ rfl;have d2:=A7 hb 2 a rfl;have ld:=A6 hb;have HBk:=A0 hb;have hnl:(outer++cur).length+1<=700000:=by have:=Br l (.node x1 y1 l1 c1 .nil);omega
 have D4:=fun(v:Value) (w:World)=>B6 (P:=Tryz.prog) (t:=145) (T:=143) (xT:=142) (z:=.pointer none) Tryz.underlying143 (by kernel_rfl) z4ta v w;have Dp:=fun(v:Value) (w:World)=>Ds (P:=Tryz.prog) (xT:=142) Tryz.underlying145 v w;clear hst hb e1 e2 hk hr B9 B8 hz ih hwf hnd Bq Bw Fy;unfold C3;go_enter Tryz.func192,Tryz.ntmps192;go_wp2_with fail
 refine HF.o.mono ?_;rintro e w1 ⟨rfl,Ai,A1⟩;have A8:=A0 (HSt.o.next Ai A1);have A4:=A0 A1;have Bd:=(A1.block b hD).trans HBk.o;clear Ai A1 d0 d1 d2 ld;have d2:=A7 Bd 2 a rfl;have ld:=A6 Bd;clear Bd;go_wp2_with fail
 refine(HC.o _ _ A8.o A4.o).mono ?_;rintro e w2 ⟨rfl,Az,A9⟩;have Ah:=A0 Az;have Aa:Hid (A2 D w w2):=A4.o.trans A9;clear Az A9 ;have Cv:=(Aa.o.block b hD).trans HBk.o;clear d2 ld;have d1:w2.cell? ⟨b,1,none⟩=some (.string ⟨l.s.toArray⟩):=A7 Cv 1 _ rfl;have ld:=A6 Cv;obtain⟨na,nn,nc,ba,bn,bc,la,ln,lc,ls,hv⟩:=Ah.o.st;have lcb2:=A6 hv.cell;have HV:=A0 (hv.keep (w':=w2.drew) (fun _ _=>rfl) (Nat.le_refl _));have HP:=A0 (Ur HV.o.Lj (by rw[Og];omega) ⟨l.s.toArray⟩ z4wa);clear Cv hv;go_wp2;go_region_law (refine Fg rfl 137 _ _ rfl #[.pointer (some ⟨K.cb,2,none⟩),.string ⟨l.s.toArray⟩] (by kernel_rfl) HP.o ?_;rintro e w3 ⟨rfl,hp3⟩;refine⟨_,rfl,?_⟩)
 all_goals go_wp2
 all_goals go_end0
 all_goals obtain⟨k1,k2⟩:=HV.o.Yu l.s z4sa hp3
 all_goals rw[List.append_assoc]at k1
 all_goals have k3:A2 D w2 w3:=⟨k2.os,k2.tape,k2.output,k2.size,k2.block⟩
 all_goals exact⟨rfl,Ah.o.next k1 k3,Aa.o.trans k3⟩
theorem z1ba {P:Prop} (h:P:=by
  unfold C3;go_enter Tryz.func192,Tryz.ntmps192;go_wp2_with fail
  refine(HC.o).mono ?_;rintro e w1 ⟨rfl,Ai,A1⟩;have A8:=A0 Ai;have A4:Hid (A2 D w w1):=A1;clear Ai A1 d0 ld;have Bd:=(A4.o.block b hD).trans HBk.o;have d1:=A7 Bd 1 _ rfl;have ld:=A6 Bd;clear Bd;go_wp2_with fail
  refine(Ed.o _ _ A8.o A4.o).mono ?_;rintro e w2 ⟨rfl,Az,A9⟩;have Ah:=A0 Az;have Aa:Hid (A2 D w w2):=A4.o.trans A9;clear Az A9 ;go_wp2;go_end0;exact⟨rfl,Ah.o,Aa.o⟩):P:=h
theorem Aaj(K:CC)(l:A3)(c:BT A3)(hk:l.kd=28)(ih:Cq (Fq K) c)(hwf:Wf 0 c):Ka K l c:=by
 intro D w outer cur bl wh inn f rc v ks hst hn hr Bq Bw Fy;obtain⟨hlo,lcb,hncb⟩:=hst.lo;unfold Bh at hn;rw[if_neg z4sa]at hn;obtain⟨b,cs,rfl,hD,hb,hl⟩:=hn;have e1:Cc l.kd=268:=by rw[hk];rfl
 have e2:D8 l.kd=322:=by rw[hk];rfl
 rw[e1];rw[e2]at hb;unfold Cm at hl;simp only[hk]at hl;obtain⟨b2,a,rfl,Jc,A9,rfl⟩:=hl;have hnd:=J5 K.fns l c z4sa z4sa z4sa outer cur wh inn f;have hp:Ko K.fns l (Ak c) outer cur wh inn f=(Ba K.fns (nd ⟨6,l.line,l.s,0,[]⟩ .nil) outer cur wh inn f).2:=by
  rw[J5 K.fns _ _ z4wa z4wa z4wa,Ba];unfold Ko;rw[if_pos z4sa,if_pos z4wa]
 rw[hp]at hnd;rw[hnd,Kr K.fns c hwf];obtain⟨x1,y1,l1,c1,r1,Cx,rfl,B9,B8,hz⟩:=hr.cons';obtain rfl:=hz.nil';rw[Jx];have hv6:Bh D w ⟨6,l.line,l.s,0,[]⟩ (.iface 238 (C3 b2)) []:=Bh.new (l:=⟨6,l.line,l.s,0,[]⟩) z4wa Jc A9 ⟨rfl,rfl⟩;have HC:=A0 (o6 K ⟨6,l.line,l.s,0,[]⟩ .nil rfl D w outer cur _ wh inn f rc _ [] hst hv6 rfl);have Ed:=A0 (fun W g (hs:K.St D W (outer++cur) (bl++[outer.length]) wh inn g rc) (hbd:A2 D w W)=>ih.1 D W outer cur _ wh inn g rc a Cx hs (B9.Bf hbd) (B8.Bf hbd));have d0:=A7 hb 0 _ rfl;have ld:=A6 hb;have HBk:=A0 hb;have D4:=fun(v:Value) (w:World)=>B6 (P:=Tryz.prog) (t:=268) (T:=143) (xT:=142) (z:=.pointer none) Tryz.underlying143 (by kernel_rfl) z4ta v w;have Dp:=fun(v:Value) (w:World)=>B6 (P:=Tryz.prog) (t:=268) (T:=145) (xT:=142) (z:=.pointer none) Tryz.underlying145 (by kernel_rfl) z4ta v w;have Ej:=fun(v:Value) (w:World)=>B6 (P:=Tryz.prog) (t:=268) (T:=253) (xT:=142) (z:=.pointer none) Tryz.underlying253 (by kernel_rfl) z4ta v w;have F9:=fun(v:Value) (w:World)=>B6 (P:=Tryz.prog) (t:=268) (T:=255) (xT:=142) (z:=.pointer none) Tryz.underlying255 (by kernel_rfl) z4ta v w;have G6:=fun(v:Value) (w:World)=>B6 (P:=Tryz.prog) (t:=268) (T:=257) (xT:=142) (z:=.pointer none) Tryz.underlying257 (by kernel_rfl) z4ta v w;have I7:=fun(v:Value) (w:World)=>B6 (P:=Tryz.prog) (t:=268) (T:=259) (xT:=142) (z:=.pointer none) Tryz.underlying259 (by kernel_rfl) z4ta v w;have Jg:=fun(v:Value) (w:World)=>B6 (P:=Tryz.prog) (t:=268) (T:=264) (xT:=142) (z:=.pointer none) Tryz.underlying264 (by kernel_rfl) z4ta v w;have ta7:=fun(v:Value) (w:World)=>B6 (P:=Tryz.prog) (t:=268) (T:=265) (xT:=142) (z:=.pointer none) Tryz.underlying265 (by kernel_rfl) z4ta v w;have ta8:=fun(v:Value) (w:World)=>Ds (P:=Tryz.prog) (xT:=142) Tryz.underlying268 v w;clear hst hb e1 e2 hk hr B9 B8 hz ih hwf hnd Bq Bw Fy hp hv6 A9;exact z1ba
theorem Aah(K:CC)(l:A3)(c:BT A3)(hk:l.kd=29)(ih:Cq (Fq K) c)(hwf:Wf 0 c):Ka K l c:=by
 intro D w outer cur bl wh inn f rc v ks hst hn hr Bq Bw Fy;obtain⟨hlo,lcb,hncb⟩:=hst.lo;unfold Bh at hn;rw[if_neg z4sa]at hn;obtain⟨b,cs,rfl,hD,hb,hl⟩:=hn;have e1:Cc l.kd=268:=by rw[hk];rfl
 have e2:D8 l.kd=322:=by rw[hk];rfl
 rw[e1];rw[e2]at hb;unfold Cm at hl;simp only[hk]at hl;obtain⟨b2,o,p,a,rfl,Jc,A9,rfl⟩:=hl;have hnd:=J5 K.fns l c z4sa z4sa z4sa outer cur wh inn f;rw[Kp z4sa]at hnd;rw[hnd,Kr K.fns c hwf];obtain⟨x1,y1,l1,c1,r1,Cx,rfl,B9,B8,hz⟩:=hr.cons';obtain⟨x2,y2,l2,c2,r2,Gl,rfl,D7,Bm,hzz⟩:=hz.cons';obtain⟨x3,y3,l3,c3,r3,ks3,rfl,hn3,Du,hzzz⟩:=hzz.cons';obtain rfl:=hzzz.nil';have hw12:Wf 0 (.node x1 y1 l1 c1 (.node x2 y2 l2 c2 .nil)):=⟨⟨trivial,hwf.1.2⟩,hwf.2⟩;have h12:Ba K.fns (.node x1 y1 l1 c1 (.node x2 y2 l2 c2 (.node x3 y3 l3 c3 .nil))) outer cur wh inn f=Ba K.fns (nd l3 c3) outer cur wh inn (Ba K.fns (nd (Au 12 l.line) (.node x1 y1 l1 c1 (.node x2 y2 l2 c2 .nil))) outer cur wh inn f).2:=by
  rw[J5 K.fns (Au 12 l.line) _ z59a z59a z59a,Kp z59a];rw[sens_xy' K.fns x1,sens_xy' K.fns x2,Jx];rw[sens_xy' K.fns x1 y1 l1 c1 (.node x2 y2 l2 c2 .nil),Jx];rw[Kr K.fns (nd l1 c1) hwf.Qk,Kr K.fns (nd l2 c2) hwf.1.Qk]
 rw[h12];have hv12:Bh D w (Au 12 l.line) (.iface 310 (C3 b2)) [o,p]:=Bh.new (l:=Au 12 l.line) z59a Jc A9 ⟨o,p,rfl,rfl⟩;have HC:=A0 (o5 K (Au 12 l.line) (.node x1 y1 l1 c1 (.node x2 y2 l2 c2 .nil)) rfl ⟨ih.1,ih.2.1,trivial⟩ hw12 D w outer cur _ wh inn f rc _ [o,p] hst hv12 ⟨o,Cx,[p],rfl,B9,B8,⟨p,Gl,[],rfl,D7,Bm,rfl⟩⟩);have Ed:=A0 (fun W g (hs:K.St D W (outer++cur) (bl++[outer.length]) wh inn g rc) (hbd:A2 D w W)=>ih.2.2.1 D W outer cur _ wh inn g rc a ks3 hs (hn3.Bf hbd) (Du.Bf hbd));have d0:=A7 hb 0 _ rfl;have ld:=A6 hb;have HBk:=A0 hb;have D4:=fun(v:Value) (w:World)=>B6 (P:=Tryz.prog) (t:=268) (T:=143) (xT:=142) (z:=.pointer none) Tryz.underlying143 (by kernel_rfl) z4ta v w;have Dp:=fun(v:Value) (w:World)=>B6 (P:=Tryz.prog) (t:=268) (T:=145) (xT:=142) (z:=.pointer none) Tryz.underlying145 (by kernel_rfl) z4ta v w;have Ej:=fun(v:Value) (w:World)=>B6 (P:=Tryz.prog) (t:=268) (T:=253) (xT:=142) (z:=.pointer none) Tryz.underlying253 (by kernel_rfl) z4ta v w;have F9:=fun(v:Value) (w:World)=>B6 (P:=Tryz.prog) (t:=268) (T:=255) (xT:=142) (z:=.pointer none) Tryz.underlying255 (by kernel_rfl) z4ta v w;have G6:=fun(v:Value) (w:World)=>B6 (P:=Tryz.prog) (t:=268) (T:=257) (xT:=142) (z:=.pointer none) Tryz.underlying257 (by kernel_rfl) z4ta v w;have I7:=fun(v:Value) (w:World)=>B6 (P:=Tryz.prog) (t:=268) (T:=259) (xT:=142) (z:=.pointer none) Tryz.underlying259 (by kernel_rfl) z4ta v w;have Jg:=fun(v:Value) (w:World)=>B6 (P:=Tryz.prog) (t:=268) (T:=264) (xT:=142) (z:=.pointer none) Tryz.underlying264 (by kernel_rfl) z4ta v w;have ta7:=fun(v:Value) (w:World)=>B6 (P:=Tryz.prog) (t:=268) (T:=265) (xT:=142) (z:=.pointer none) Tryz.underlying265 (by kernel_rfl) z4ta v w;have ta8:=fun(v:Value) (w:World)=>Ds (P:=Tryz.prog) (xT:=142) Tryz.underlying268 v w;clear hst hb e1 e2 hk hr B9 B8 hz ih hwf hnd Bq Bw Fy hv12 A9 h12 hw12 D7 Bm hzz hn3 Du hzzz;exact z1ba
def Part(K:CC)(l:A3)(c:BT A3):Prop:=(Gi l.kd=true->Fq K l c)/\((l.kd=31\/l.kd=32)->Cq (Ka K) c)
theorem Z1(fns:List (Nm×Nat)){l:A3}(c:BT A3)(h:l.kd=31)(outer cur:List Nm)(wh:Nat)(inn:Bool)(f:C4):Ba fns (nd l c) outer cur wh inn f=(cur,(Ba fns c (outer++cur) [] wh inn f).2):=by
 rw[nd,Ba,if_pos h,Ba]
theorem Aiz(fns:List (Nm×Nat)){l:A3}(c:BT A3)(h:l.kd=32)(outer cur:List Nm)(wh:Nat)(inn:Bool)(f:C4):Ba fns (nd l c) outer cur wh inn f=(cur,(Ba fns c (outer++cur) [] (wh+1) inn f).2):=by
 rw[nd,Ba,if_neg z4sa,if_pos h,Ba]
theorem Bh.Qh{D:Nat->Prop}{w:World}{l:A3}{t:TypeId}{x:Value}{ks:List Value}(h:Bh D w l (.iface t x) ks):l.kd≠31/\l.kd≠32:=by
 unfold Bh at h;split at h
 ·obtain⟨⟨_,_,_,e⟩,_⟩:=h;cases e
 ·omega
theorem Bh.Od{D:Nat->Prop}{w:World}{l:A3}{a:Option Addr}{n m:Nat}{ks:List Value}(h:Bh D w l (.slice a n m) ks):(l.kd=31\/l.kd=32)/\Cr D w 142 1 (.slice a n m) ks.length ks:=by
 unfold Bh at h;split at h
 ·rename_i h1;exact⟨h1,h.2⟩
 ·obtain⟨b,cs,e,_⟩:=h;cases e
theorem Wf.Li{x y:Nat}{l:A3}{c r:BT A3}(h:Wf 2 (.node x y l c r)):(l.kd≠31->Gi l.kd=true/\Wf 0 c)/\(l.kd=31\/l.kd=32->l.kd=31/\Wf 1 c):=by
 rcases h.2 with⟨_,h1,h2⟩|⟨_,h1,h2⟩|⟨h1,_⟩|⟨h1,_⟩|⟨h1,_⟩|⟨h1,_⟩|⟨h1,_⟩
 ·exact⟨fun _=>⟨h1,h2⟩,fun e=>by have:=Oa h1;omega⟩
 ·exact⟨fun e=>absurd h1 e,fun _=>⟨h1,h2⟩⟩
 all_goals omega
theorem Wf.Pj{x y:Nat}{l:A3}{c r:BT A3}(h:Wf 3 (.node x y l c r)):(l.kd≠32->Gi l.kd=true/\Wf 0 c)/\(l.kd=31\/l.kd=32->l.kd=32/\Wf 1 c):=by
 rcases h.2 with⟨_,h1,h2⟩|⟨h1,_⟩|⟨_,h1,h2⟩|⟨h1,_⟩|⟨h1,_⟩|⟨h1,_⟩|⟨h1,_⟩
 ·exact⟨fun _=>⟨h1,h2⟩,fun e=>by have:=Oa h1;omega⟩
 ·omega
 ·exact⟨fun e=>absurd h1 e,fun _=>⟨h1,h2⟩⟩
 all_goals omega
theorem Wf.Rh{l:A3}{c:BT A3}(h:Gi l.kd=true)(hc:Wf 0 c):Wf 0 (nd l c):=Wf.ex h hc
theorem z5na {P:Prop} (h:P:=by simp only[bsize];omega):P:=h
theorem Aae(K:CC)(l:A3)(c:BT A3)(hk:l.kd=22)(ih:Cq (Part K) c)(hwf:Wf 2 c):Ka K l c:=by
 intro D w outer cur bl wh inn f rc v ks hst hn hr Bq Bw Fy;obtain⟨hlo,lcb,hncb⟩:=hst.lo;unfold Bh at hn;rw[if_neg z4sa]at hn;obtain⟨b,cs,rfl,hD,hb,hl⟩:=hn;have e1:Cc l.kd=253:=by rw[hk];rfl
 have e2:D8 l.kd=314:=by rw[hk];rfl
 rw[e1];rw[e2]at hb;unfold Cm at hl;simp only[hk]at hl;obtain⟨t,x,s1,n1,m1,s2,n2,m2,rfl,hks⟩:=hl;have hnd:=J5 K.fns l c z4sa z4sa z4sa outer cur wh inn f;rw[Kp z4sa]at hnd;rw[hnd];have d0:=A7 hb 1 _ rfl;have ld:=A6 hb;have HBk:=A0 hb;rw[Br]at Bq Bw Fy;have D4:=fun(v:Value) (w:World)=>B6 (P:=Tryz.prog) (t:=253) (T:=143) (xT:=142) (z:=.pointer none) Tryz.underlying143 (by kernel_rfl) z4ta v w;have Dp:=fun(v:Value) (w:World)=>B6 (P:=Tryz.prog) (t:=253) (T:=145) (xT:=142) (z:=.pointer none) Tryz.underlying145 (by kernel_rfl) z4ta v w;have Ej:=fun(v:Value) (w:World)=>Ds (P:=Tryz.prog) (xT:=142) Tryz.underlying253 v w;rcases hks with⟨rfl,Az⟩|rfl
 ·obtain⟨x1,y1,l1,c1,r1,Cx,rfl,B9,B8,hz⟩:=hr.cons';obtain⟨x2,y2,l2,c2,r2,Gl,rfl,D7,Bm,hzz⟩:=hz.cons';obtain rfl:=hzz.nil';injection Az with q1 q2 q3;subst q1 q2 q3;obtain⟨Dm,Fc⟩:=hwf.Li.1 B9.Qh.1;obtain⟨C7,B1⟩:=D7.Od;obtain⟨h31,_⟩:=hwf.1.Li.2 C7;simp only[bsize]at Bq Bw Fy;have hse:Ba K.fns (.node x1 y1 l1 c1 (.node x2 y2 l2 c2 .nil)) outer cur wh inn f=(cur,(Ba K.fns c2 (outer++cur) [] wh inn (Ba K.fns (nd l1 c1) outer cur wh inn f).2).2):=by
   rw[sens_xy' K.fns x1,Kr K.fns _ (Wf.Rh Dm Fc),Jx,Z1 K.fns c2 h31]
  rw[hse];have HC:=A0 (ih.1.1 Dm D w outer cur _ wh inn f rc _ Cx hst B9 B8);have Ed:=A0 (fun W g (hs:K.St D W (outer++cur) (bl++[outer.length]) wh inn g rc) (hbd:A2 D w W)=>R9 K c2 (ih.2.1.2 C7) D W (outer++cur) (bl++[outer.length]) wh inn g rc s1 n1 m1 Gl hs (B1.Bf hbd) (Bm.Bf hbd) z4sa z4za z4sa);have HC3:=A0 (fun W g (hs:K.St D W (outer++cur) (bl++[outer.length]) wh inn g rc)=>R9 K .nil trivial D W (outer++cur) (bl++[outer.length]) wh inn g rc none 0 0 [] hs (Om _ _ _ _) rfl z5na (by simp only[bsize];simp;omega) z5na);clear hst hb e1 e2 hk hr B9 B8 hz ih hwf hnd Bq Bw Fy D7 Bm hzz Dm Fc C7 B1 h31 hse;unfold C3;go_enter Tryz.func192,Tryz.ntmps192;go_wp2_with fail
  refine(HC.o).mono ?_;rintro e w1 ⟨rfl,Ai,A1⟩;have A8:=A0 Ai;have A4:Hid (A2 D w w1):=A1;clear Ai A1 d0 ld;have Bd:=(A4.o.block b hD).trans HBk.o;have d1:=A7 Bd 2 _ rfl;have ld:=A6 Bd;clear Bd;go_wp2_with fail
  refine(Ed.o _ _ A8.o A4.o).mono ?_;rintro e w2 ⟨rfl,Az,A9⟩;have Ah:=A0 Az;have Aa:Hid (A2 D w w2):=A4.o.trans A9;clear Az A9 d1 ld;have Cv:=(Aa.o.block b hD).trans HBk.o;have d2:=A7 Cv 3 _ rfl;have ld:=A6 Cv;clear Cv;go_wp2_with fail
  refine(HC3.o _ _ Ah.o).mono ?_;rintro e w3 ⟨rfl,C0,Ar⟩;have Be:=A0 C0;have Ay:Hid (A2 D w w3):=Aa.o.trans Ar;clear C0 Ar ;go_wp2;go_end0;rw[Ba]at Be;exact z4qa
 ·obtain⟨x1,y1,l1,c1,r1,Cx,rfl,B9,B8,hz⟩:=hr.cons';obtain⟨x2,y2,l2,c2,r2,Gl,rfl,D7,Bm,hzz⟩:=hz.cons';obtain⟨x3,y3,l3,c3,r3,ks3,rfl,hn3,Du,hzzz⟩:=hzz.cons';obtain rfl:=hzzz.nil';obtain⟨Dm,Fc⟩:=hwf.Li.1 B9.Qh.1;obtain⟨C7,B1⟩:=D7.Od;obtain⟨h31,_⟩:=hwf.1.Li.2 C7;obtain⟨hk3,Cj⟩:=hn3.Od;obtain⟨h31',_⟩:=hwf.1.1.Li.2 hk3;simp only[bsize]at Bq Bw Fy;have hse:Ba K.fns (.node x1 y1 l1 c1 (.node x2 y2 l2 c2 (.node x3 y3 l3 c3 .nil))) outer cur wh inn f=(cur,(Ba K.fns c3 (outer++cur) [] wh inn (Ba K.fns c2 (outer++cur) [] wh inn (Ba K.fns (nd l1 c1) outer cur wh inn f).2).2).2):=by
   rw[sens_xy' K.fns x1,Kr K.fns _ (Wf.Rh Dm Fc),sens_xy' K.fns x2,Z1 K.fns c2 h31,Jx,Z1 K.fns c3 h31']
  rw[hse];have HC:=A0 (ih.1.1 Dm D w outer cur _ wh inn f rc _ Cx hst B9 B8);have Ed:=A0 (fun W g (hs:K.St D W (outer++cur) (bl++[outer.length]) wh inn g rc) (hbd:A2 D w W)=>R9 K c2 (ih.2.1.2 C7) D W (outer++cur) (bl++[outer.length]) wh inn g rc s1 n1 m1 Gl hs (B1.Bf hbd) (Bm.Bf hbd) z4sa z4za z4sa);have HC3:=A0 (fun W g (hs:K.St D W (outer++cur) (bl++[outer.length]) wh inn g rc) (hbd:A2 D w W)=>R9 K c3 (ih.2.2.1.2 hk3) D W (outer++cur) (bl++[outer.length]) wh inn g rc s2 n2 m2 ks3 hs (Cj.Bf hbd) (Du.Bf hbd) z4sa z4za z4sa);clear hst hb e1 e2 hk hr B9 B8 hz ih hwf hnd Bq Bw Fy D7 Bm hzz Dm Fc C7 B1 h31 hse hn3 Du hzzz hk3 Cj h31';unfold C3;go_enter Tryz.func192,Tryz.ntmps192;go_wp2_with fail
  refine(HC.o).mono ?_;rintro e w1 ⟨rfl,Ai,A1⟩;have A8:=A0 Ai;have A4:Hid (A2 D w w1):=A1;clear Ai A1 d0 ld;have Bd:=(A4.o.block b hD).trans HBk.o;have d1:=A7 Bd 2 _ rfl;have ld:=A6 Bd;clear Bd;go_wp2_with fail
  refine(Ed.o _ _ A8.o A4.o).mono ?_;rintro e w2 ⟨rfl,Az,A9⟩;have Ah:=A0 Az;have Aa:Hid (A2 D w w2):=A4.o.trans A9;clear Az A9 d1 ld;have Cv:=(Aa.o.block b hD).trans HBk.o;have d2:=A7 Cv 3 _ rfl;have ld:=A6 Cv;clear Cv;go_wp2_with fail
  refine(HC3.o _ _ Ah.o Aa.o).mono ?_;rintro e w3 ⟨rfl,C0,Ar⟩;have Be:=A0 C0;have Ay:Hid (A2 D w w3):=Aa.o.trans Ar;clear C0 Ar ;go_wp2;go_end0;exact z4qa
theorem Aak(K:CC)(l:A3)(c:BT A3)(hk:l.kd=23)(ih:Cq (Part K) c)(hwf:Wf 3 c):Ka K l c:=by
 intro D w outer cur bl wh inn f rc v ks hst hn hr Bq Bw Fy;obtain⟨hlo,lcb,hncb⟩:=hst.lo;unfold Bh at hn;rw[if_neg z4sa]at hn;obtain⟨b,cs,rfl,hD,hb,hl⟩:=hn;have e1:Cc l.kd=255:=by rw[hk];rfl
 have e2:D8 l.kd=317:=by rw[hk];rfl
 rw[e1];rw[e2]at hb;unfold Cm at hl;simp only[hk]at hl;obtain⟨t,x,s1,n1,m1,rfl,rfl⟩:=hl;have hnd:=J5 K.fns l c z4sa z4sa z4sa outer cur wh inn f;rw[Kp z4sa]at hnd;rw[hnd];have d0:=A7 hb 1 _ rfl;have ld:=A6 hb;have HBk:=A0 hb;rw[Br]at Bq Bw Fy;have D4:=fun(v:Value) (w:World)=>B6 (P:=Tryz.prog) (t:=255) (T:=143) (xT:=142) (z:=.pointer none) Tryz.underlying143 (by kernel_rfl) z4ta v w;have Dp:=fun(v:Value) (w:World)=>B6 (P:=Tryz.prog) (t:=255) (T:=145) (xT:=142) (z:=.pointer none) Tryz.underlying145 (by kernel_rfl) z4ta v w;have Ej:=fun(v:Value) (w:World)=>B6 (P:=Tryz.prog) (t:=255) (T:=253) (xT:=142) (z:=.pointer none) Tryz.underlying253 (by kernel_rfl) z4ta v w;have F9:=fun(v:Value) (w:World)=>Ds (P:=Tryz.prog) (xT:=142) Tryz.underlying255 v w;obtain⟨x1,y1,l1,c1,r1,Cx,rfl,B9,B8,hz⟩:=hr.cons';obtain⟨x2,y2,l2,c2,r2,Gl,rfl,D7,Bm,hzz⟩:=hz.cons';obtain rfl:=hzz.nil';obtain⟨Dm,Fc⟩:=hwf.Pj.1 B9.Qh.2;obtain⟨C7,B1⟩:=D7.Od;obtain⟨h32,_⟩:=hwf.1.Pj.2 C7;simp only[bsize]at Bq Bw Fy;have hse:Ba K.fns (.node x1 y1 l1 c1 (.node x2 y2 l2 c2 .nil)) outer cur wh inn f=(cur,(Ba K.fns c2 (outer++cur) [] (wh+1) inn (Ba K.fns (nd l1 c1) outer cur wh inn f).2).2):=by
  rw[sens_xy' K.fns x1,Kr K.fns _ (Wf.Rh Dm Fc),Jx,Aiz K.fns c2 h32]
 rw[hse];have HC:=A0 (ih.1.1 Dm D w outer cur _ wh inn f rc _ Cx hst B9 B8);have Ed:=A0 (fun W g (hs:K.St D W (outer++cur) (bl++[outer.length]) (wh+1) inn g rc) (hbd:A2 D w W)=>R9 K c2 (ih.2.1.2 C7) D W (outer++cur) (bl++[outer.length]) (wh+1) inn g rc s1 n1 m1 Gl hs (B1.Bf hbd) (Bm.Bf hbd) z4sa z4za z4sa);have hwh:wh+1<=700000:=by omega
 clear hst hb e1 e2 hk hr B9 B8 hz ih hwf hnd Bq Bw Fy D7 Bm hzz Dm Fc C7 B1 h32 hse;unfold C3;go_enter Tryz.func192,Tryz.ntmps192;go_wp2_with fail
 refine(HC.o).mono ?_;rintro e w1 ⟨rfl,Ai,A1⟩;have A8:=A0 Ai;have A4:Hid (A2 D w w1):=A1;clear Ai A1 d0 ld;have Bd:=(A4.o.block b hD).trans HBk.o;have ld:=A6 Bd;clear Bd;obtain⟨na,nn,nc,ba,bn,bc,la,ln,lc,ls,hv⟩:=A8.o.st;have lcb1:=A6 hv.cell;have HV:=A0 hv;have HP:=A0 (Akq hv.Zd (by rw[hv.lsl];omega) (some ⟨b,0,none⟩) z4wa);clear hv;go_wp2_with fail
 refine HP.o.mono ?_;rintro e w2 ⟨rfl,hp2⟩;obtain⟨k1,k2⟩:=HV.o.Yt _ z4sa hp2;have Ah:=A0 (A8.o.next k1 k2);have Aa:Hid (A2 D w w2):=A4.o.trans k2;have Cv:=(Aa.o.block b hD).trans HBk.o;clear ld k1 k2 hp2 lcb1;have d2:=A7 Cv 2 _ rfl;have ld:=A6 Cv;clear Cv;go_wp2_with fail
 refine(Ed.o _ _ Ah.o Aa.o).mono ?_;rintro e w3 ⟨rfl,C0,Ar⟩;have Be:=A0 C0;have Ay:Hid (A2 D w w3):=Aa.o.trans Ar;clear C0 Ar d2 ld;obtain⟨na3,nn3,nc3,ba3,bn3,bc3,la3,ln3,lc3,ls3,hv3⟩:=Be.o.st;have lcb3:=A6 hv3.cell;have HV3:=A0 hv3;have hl3:=hv3.lsl;have Bc:=A0 (Akm hv3.Zd z4sa wh z4sa hl3 z4wa);clear hv3;go_wp2_with fail
 refine Bc.o.mono ?_;rintro e w4 ⟨rfl,hp4⟩;obtain⟨k3,k4⟩:=HV3.o.Aar wh z4sa hp4;have El:=A0 (Be.o.next k3 k4);have Cs:Hid (A2 D w w4):=Ay.o.trans k4;clear k3 k4 hp4;exact z49a
theorem A45(K:CC):∀f:BT A3,bsize f<=500000->(Wf 1 f->Cq (Ka K) f)/\(Wf 2 f->Cq (Part K) f)/\(Wf 3 f->Cq (Part K) f):=by
 intro f;induction f with
 | nil=>intro _;exact⟨fun _=>trivial,fun _=>trivial,fun _=>trivial⟩
 | node x y l c r Cb Bn=>
  intro hs;rw[bsize]at hs;obtain⟨i1,i2,i3⟩:=Cb z4sa;obtain⟨j1,j2,j3⟩:=Bn z4sa;refine⟨fun h=>⟨?_,j1 h.1⟩,fun h=>⟨⟨fun hx=>?_,fun hx=>i1 (h.Li.2 hx).2⟩,j2 h.1⟩,fun h=>⟨⟨fun hx=>?_,fun hx=>i1 (h.Pj.2 hx).2⟩,j3 h.1⟩⟩
  ·rcases h.2 with⟨h0,_⟩|⟨h0,_⟩|⟨h0,_⟩|⟨_,h1,h2⟩|⟨_,h1,h2⟩|⟨_,h1,h2⟩|⟨h0,_⟩
   ·omega
   ·omega
   ·omega
   ·exact Aae K l c h1 (i2 h2) h2
   ·exact Aak K l c h1 (i3 h2) h2
   ·have hx:=Xd K c h2 z4sa;unfold N9 at h1;simp only[Bool.or_eq_true,Bool.and_eq_true,decide_eq_true_eq,beq_iff_eq]at h1;have hc:l.kd=21\/l.kd=24\/l.kd=25\/l.kd=26\/l.kd=27\/l.kd=28\/l.kd=29\/l.kd=30:=by omega
    rcases hc with e|e|e|e|e|e|e|e
    ·exact Aaf K l c e hx h2
    ·exact Aai K l c e hx h2
    ·exact Aaa K l c e
    ·exact Aab K l c e
    ·exact Aag K l c e hx h2
    ·exact Aaj K l c e hx h2
    ·exact Aah K l c e hx h2
    ·exact Aac K l c e hx h2
   ·omega
  ·have hw:=h.Li.1 (Oa hx).1;exact(Xd K (nd l c) (Wf.Rh hw.1 hw.2) (by rw[Br];omega)).1
  ·have hw:=h.Pj.1 (Oa hx).2.1;exact(Xd K (nd l c) (Wf.Rh hw.1 hw.2) (by rw[Br];omega)).1
theorem U9(ps:List (Nat×List UInt8)):∀(i:Nat) (h:i<ps.length),(Kq ps)[i*2]?=some (.int .i64 (ps[i].1:Nat))/\(Kq ps)[i*2+1]?=some (.string ⟨ps[i].2.toArray⟩):=by
 induction ps with
 | nil=>intro i h;simp at h
 | cons p r ih=>
  intro i h;have e:Kq (p::r)=Gd p.1::L9 p.2::Kq r:=by simp[Kq]
  rw[e];cases i with
  | zero=>exact⟨rfl,rfl⟩
  | succ i=>
   rw[show(i+1)*2=i*2+2 by omega,show i*2+2+1=i*2+1+2 by omega];exact ih i z5ta
theorem F1.A32{D:Nat->Prop}{cb te:Nat}{w:World}{ns:List Nm}{bk:List Nat}{wh:Nat}{inn:Bool}{f:C4}{rc:Nat}{fa:Option Addr}{fn fc:Nat}(h:F1 D cb te w ns bk wh inn f rc fa fn fc)(o:Obj):F1 (fun g=>D g\/g=w.heap.size) cb te (w.alloc o) ns bk wh inn f rc fa fn fc:=by
 obtain⟨na,nn,nc,ba,bn,bc,la,ln,lc,ls,h⟩:=h;have hk:∀g,g<w.heap.size->(w.alloc o).heap[g]?=w.heap[g]?:=fun g hg=>Below.heap_alloc _ _ _ hg;have hc:=A6 h.cell;refine⟨na,nn,nc,ba,bn,bc,la,ln,lc,ls,(hk cb hc).trans h.cell,B2 h.names (fun g _ hl=>hk g hl),B2 h.blocks (fun g _ hl=>hk g hl),B2 h.loops (fun g _ hl=>hk g hl),h.lsl,?_,?_,?_,?_,h.Bz,?_⟩
 ·rintro(e|e)
  ·exact h.Gu e
  ·omega
 ·intro g hg;have:=Bg h.names g hg;exact⟨fun e=>by rcases e with e|e;exact(h.Cp g hg).1 e;omega,(h.Cp g hg).2⟩
 ·intro g hg;have:=Bg h.blocks g hg;exact⟨fun e=>by rcases e with e|e;exact(h.G4 g hg).1 e;omega,(h.G4 g hg).2⟩
 ·intro g hg;have:=Bg h.loops g hg;exact⟨fun e=>by rcases e with e|e;exact(h.Jf g hg).1 e;omega,(h.Jf g hg).2⟩
 ·rintro g (e|e)
  ·have:=h.lo g e;simp;omega
  ·simp;omega
theorem F1.weak{D E:Nat->Prop}{cb te:Nat}{w:World}{ns:List Nm}{bk:List Nat}{wh:Nat}{inn:Bool}{f:C4}{rc:Nat}{fa:Option Addr}{fn fc:Nat}(h:F1 D cb te w ns bk wh inn f rc fa fn fc)(he:∀g,E g->D g):F1 E cb te w ns bk wh inn f rc fa fn fc:=by
 obtain⟨na,nn,nc,ba,bn,bc,la,ln,lc,ls,h⟩:=h;exact⟨na,nn,nc,ba,bn,bc,la,ln,lc,ls,h.cell,h.names,h.blocks,h.loops,h.lsl,fun e=>h.Gu (he _ e),fun g hg=>⟨fun e=>(h.Cp g hg).1 (he g e),(h.Cp g hg).2⟩,fun g hg=>⟨fun e=>(h.G4 g hg).1 (he g e),(h.G4 g hg).2⟩,fun g hg=>⟨fun e=>(h.Jf g hg).1 (he g e),(h.Jf g hg).2⟩,h.Bz,fun g hg=>h.lo g (he g hg)⟩
theorem Afc{w:World}{fns:List (Nm×Nat)}{fa:Option Addr}{k:Nat}{s:Nm}{p:Option Addr}(h:Mp w fns fa k s p):(p=none/\decide (s∈(fns.take k).map (·.1))=false)\/((∃pb,p=some ⟨pb,0,none⟩)/\decide (s∈(fns.take k).map (·.1))=true):=by
 rcases h with⟨e,hn⟩|⟨i,hi,pb,pa,pc,hik,e,_,es,_⟩
 ·left;refine⟨e,decide_eq_false (fun hm=>?_)⟩;obtain⟨j,hj,hjk,e2⟩:=A1u.1 hm;exact hn j hjk hj e2
 ·right;exact⟨⟨pb,e⟩,decide_eq_true (A1u.2 ⟨i,hi,hik,es⟩)⟩
theorem z00a {P:Prop} (h:P:=by
  have HF1:=A0 Im;clear Im;obtain⟨na2,nn2,nc2,ba2,bn2,bc2,la2,Gc,lc2,ls2,Fk⟩:=Ah.o.st;obtain⟨c0,c1,c2,c3,c4,c5,c6,c7,fz,lb⟩:=Nk Fk.cell;have HV2:=A0 Fk;clear Fk;have Cv:=(Aa.o.block b hD).trans HBlk.o;obtain⟨d0,d1,d2,d3,fd,ld⟩:=Dt Cv;clear Cv;go_wp2_with fail
  have hs2c:F1 D K.cb K.te ((w2.setCell ⟨K.cb,1,none⟩ (.int .i64 ((rc:Int)+1))).setCell ⟨K.cb,5,none⟩ (.bool true)) cur [0] 0 true f1 (rc+1) K.fa K.fn K.fc:=by
   refine⟨na2,nn2,nc2,ba2,bn2,bc2,la2,Gc,lc2,ls2,HV2.o.put true f1 (rc+1) z4sa ?_ (fun g _ hne=>by rw[Below.heap_setCell _ _ _ _ z5ha,Below.heap_setCell _ _ _ _ z5ha]) z57a⟩;have:=heap_set (j:=5) (heap_set (j:=1) HV2.o.cell (.int .i64 ((rc:Int)+1))) (.bool true);simpa using this
  have hb2c:A2 D w2 ((w2.setCell ⟨K.cb,1,none⟩ (.int .i64 ((rc:Int)+1))).setCell ⟨K.cb,5,none⟩ (.bool true)):=A2.set (p:=⟨K.cb,5,none⟩) (A2.set (p:=⟨K.cb,1,none⟩) (A2.refl _ _) hncb _) hncb _;refine(Tb hs2c z4wa).mono ?_;rintro e w3 ⟨rfl,C0,Ar⟩;have Ay:Hid (A2 D w w3):=Aa.o.trans (hb2c.trans Ar);have Be:Hid (K.St D w3 cur ([0]++[cur.length]) 0 true f1 (rc+1)):=⟨C0,HSt.o.fr.keep Ay.o⟩;clear C0 Ar hs2c hb2c c0 c1 c2 c3 c4 c5 c6 c7 fz lb d0 d1 d2 d3 fd ld HV2 Ah;have Eh:=(Ay.o.block b hD).trans HBlk.o;obtain⟨d0,d1,d2,d3,fd,ld⟩:=Dt Eh;clear Eh;go_wp2;go_loopg [46] l.ps.length (fun k v wr=>∃(i:Nat) (pcur:List Nm) (fl:C4),v=.int .i64 i/\i+k=l.ps.length/\pcur.length=i/\K.St D wr (cur++pcur) ([0]++[cur.length]) 0 true fl (rc+1)/\Gw (l.ps.drop i) pcur fl=Gw l.ps [] f1/\A2 D w wr)
  case atStart=>exact⟨0,[],f1,rfl,by omega,rfl,by rw[List.append_nil];exact Be.o,rfl,Ay.o⟩
  case round=>
   clear Be Ay d0 d1 d2 d3 fd ld Aa;obtain⟨i,pcur,fl,rfl,hik,hpc,hst,hpf,hbel⟩:=hrel;have HStR:=A0 hst;have HPf:=A0 hpf;have HBelR:=A0 hbel;obtain⟨hloR,lcbR,_⟩:=hst.lo;clear hst hpf hbel;by_cases hlt:i<l.ps.length
   ·obtain⟨g,rfl,_,hcapP,lg,hcell⟩:=Hg (HPrm.o.Bf HBelR.o).1 z4sa;obtain⟨q0,q1⟩:=U9 l.ps i hlt;have y0:=hcell _ _ q0;have y1:=hcell _ _ q1;have HStep:=A0 (A30 l.ps i hlt pcur fl);generalize l.ps[i]=pp at *;have HPr:=A0 (HStR.o.st.A32 (.cells #[.int .i64 (pp.1:Nat),.string ⟨pp.2.toArray⟩] 148));have HCell:=A0 (heap_alloc_new wr (.cells #[.int .i64 (pp.1:Nat),.string ⟨pp.2.toArray⟩] 148));clear hcell q0 q1;go_wp2_with fail
    refine(Vy HPr.o pp.1 pp.2).mono ?_;rintro e w5 ⟨rfl,Ch,Dd⟩;have hc5:=(Dd.block wr.heap.size (.inr rfl)).trans HCell.o;obtain⟨z0,z1,fz5,lz⟩:=Ja hc5;have Ek:Hid (A2 D wr w5):=A2.trans ((A2.refl D wr).alloc hloR _) (Dd.weak (fun g hg=>.inl hg));obtain⟨na5,nn5,nc5,ba5,bn5,bc5,la5,ln5,lc5,ls5,Ir⟩:=Ch;have lcb5:=A6 Ir.cell;have HV5:=A0 (Ir.keep (w':=w5.drew) (fun _ _=>rfl) (Nat.le_refl _));have Ep:=A0 (Ur HV5.o.Lj (by rw[Og,List.length_append];omega) ⟨pp.2.toArray⟩ z4wa);clear Dd hc5 Ir y0 y1 HPr;generalize wr.heap.size=tb5 at *;go_wp2;go_region_law (refine Fg rfl 137 _ _ rfl #[.pointer (some ⟨K.cb,2,none⟩),.string ⟨pp.2.toArray⟩] (by kernel_rfl) Ep.o ?_;rintro e w6 ⟨rfl,hp6⟩;refine⟨_,rfl,?_⟩)
    all_goals
     obtain⟨k1,k2⟩:=HV5.o.Yu pp.2 z6fa hp6;have HS6:=A0 (k1.weak (E:=D) (fun g hg=>.inl hg));have Jh:Hid (A2 D w w6):=HBelR.o.trans (Ek.o.trans (A2.weak (D:=fun g=>D g\/g=tb5) ⟨k2.os,k2.tape,k2.output,k2.size,k2.block⟩ (fun g hg=>.inl hg)));clear k1 k2 hp6 HV5 Ep;go_wp2;go_roundg (gk-1)
     case measure=>omega
     case rel=>
      refine⟨i+1,pcur++[pp.2],_,rfl,by omega,by simp;omega,⟨by rw[←List.append_assoc];exact HS6.o,HSt.o.fr.keep Jh.o⟩,?_,Jh.o⟩;rw[←HPf.o,HStep.o]
   ·have hend:(pcur,fl)=Gw l.ps [] f1:=by rw[←HPf.o,A2z l.ps i z4sa]
    have HEnd:=A0 hend;have hbkR:=(HBelR.o.block b hD).trans HBlk.o;obtain⟨d0,d1,d2,d3,fd,ld⟩:=Dt hbkR;clear hbkR hend;go_wp2_with fail
    refine(HRun.o wr pcur fl HStR.o HBelR.o z4sa).mono ?_;rintro e w7 ⟨rfl,G2,He⟩;have HS7:=A0 G2;have HB7:Hid (A2 D w w7):=HBelR.o.trans He;clear G2 He;go_wp2_with fail
    refine(T9 HS7.o.st z4wa).mono ?_;rintro e w8 ⟨rfl,hs8,hb8⟩;rw[List.take_left]at hs8;have HB8:Hid (A2 D w w8):=HB7.o.trans hb8;obtain⟨na8,nn8,nc8,ba8,bn8,bc8,la8,ln8,lc8,ls8,hv8⟩:=hs8;obtain⟨e0,e1,e2,e3,e4,e5,e6,e7,fe,le⟩:=Nk hv8.cell;have HV8:=A0 hv8;clear hb8 hv8;go_wp2;go_end0;have Dl:A2 D w8 (w8.setCell ⟨K.cb,5,none⟩ (.bool false)):=A2.set (p:=⟨K.cb,5,none⟩) (A2.refl _ _) hncb _;rw[HF1.o,←HEnd.o];refine⟨rfl,⟨⟨na8,nn8,nc8,ba8,bn8,bc8,la8,ln8,lc8,ls8,HV8.o.put false _ (rc+1) HV8.o.Bz.2.2.2 ?_ (fun g _ hne=>Below.heap_setCell _ _ _ _ z5ha) z57a⟩,HSt.o.fr.keep (HB8.o.trans Dl)⟩,HB8.o.trans Dl⟩;have:=heap_set (j:=5) HV8.o.cell (.bool false);simpa using this):P:=h
theorem A9q(K:CC)(l:A3)(c:BT A3)(hok:Cq (Ka K) c)(D:Nat->Prop)(w:World)(cur:List Nm)(f:C4)(rc:Nat)(b:Nat)(pa:Option Addr)(pn pc:Nat)(va:Option Addr)(vn vc:Nat)(ks:List Value)
  (hst:K.St D w cur [0] 0 false f rc) (hrc:rc<K.fns.length) (hD:D b) (hblk:w.heap[b]?=some (.cells #[.int .i64 (l.line:Nat),.string ⟨l.s.toArray⟩,.slice pa pn pc,.slice va vn vc] 218 (0,0)))
  (hprm:Cr D w 148 2 (.slice pa pn pc) l.ps.length (Kq l.ps)) (hown:Cr D w 142 1 (.slice va vn vc) ks.length ks) (hrep:Al D w c ks) (A1:cur.length+l.ps.length+bsize c<=600000) :
  Calls Tryz.prog 234 #[.pointer (some ⟨K.cb,0,none⟩),.pointer (some ⟨b,0,none⟩)] w fun e w'=>e=.returned (.tuple #[])/\K.St D w' cur [0] 0 false (Ba K.fns c cur (Gw l.ps [] (Cy (decide (l.s∈(K.fns.take rc).map (·.1))) 3 l.line f)).1 0 true (Gw l.ps [] (Cy (decide (l.s∈(K.fns.take rc).map (·.1))) 3 l.line f)).2).2 (rc+1)/\A2 D w w':=by
 obtain⟨hlo,lcb,hncb⟩:=hst.lo;have hpn:pn=l.ps.length:=(Cf hprm.1).1;subst hpn;have hcb:K.cb≠b:=fun e=>hncb (by rw[e];exact hD);obtain⟨p,hp⟩:=hst.fr.find l.s rc z4sa;have HNm:=A0 (fun(n:Nat)=>p7 (hst.drewN n).fr rc z4sa l.s p hp);have hseen:=Afc hp;have hcap:=hst.fr.cap;have hlen:=hst.fr.len;have hfew:=hst.fr.Bz;have HSt:=A0 hst;have HBlk:=A0 hblk;have HPrm:=A0 hprm;have HRun:=A0 (fun(W:World) (pcur:List Nm) (g:C4) (hs:K.St D W (cur++pcur) ([0]++[cur.length]) 0 true g (rc+1)) (hbd:A2 D w W) (hpl:pcur.length<=l.ps.length)=>x7 K c hok D W cur pcur [0] 0 true g (rc+1) va vn vc ks hs (hown.Bf hbd) (hrep.Bf hbd) z6fa z4za z4sa);obtain⟨na,nn,nc,ba,bn,bc,la,ln,lc,ls,hv⟩:=hst.st;obtain⟨c0,c1,c2,c3,c4,c5,c6,c7,fz,lb⟩:=Nk hv.cell;obtain⟨d0,d1,d2,d3,fd,ld⟩:=Dt hblk;have hcap2:rc<=K.fc:=by omega
 rw[hlen]at c0;have hrl:rc<=K.fns.length:=by omega
 clear hst hblk hprm hown hrep hp hv hcap hlen;generalize hsq:decide (l.s∈(K.fns.take rc).map (·.1))=sq at *;have HSq:=A0 hsq;clear hsq;go_enter Tryz.func234,Tryz.ntmps234;go_wp2;go_quiet ((go_at_call 263;exact Calls.quiet_of_same (HNm.o _)))
 rcases hseen with⟨rfl,hsv⟩|⟨⟨pb,rfl⟩,hsv⟩
 ·have Ah:Hid (K.St D (w.drewN nq) cur [0] 0 false (Cy sq 3 l.line f) rc):=by rw[hsv,Pv];exact HSt.o.drewN nq
  have Aa:=A0 (Dk D w nq);clear c0 c1 c2 c3 c4 c5 c6 c7 fz lb d0 d1 d2 d3 fd ld hsv;generalize w.drewN nq=w2 at *;generalize Im:Cy sq 3 l.line f=f1 at *;exact z00a
 ·have A8:=A0 (HSt.o.drewN nq);have A4:=A0 (Dk D w nq);have Ji:Hid ((w.drewN nq).heap[b]?=_):=HBlk.o;clear c0 c1 c2 c3 c4 c5 c6 c7 fz lb d0 d1 d2 d3 fd ld;generalize w.drewN nq=w1 at *;obtain⟨d0,d1,d2,d3,fd,ld⟩:=Dt Ji.o;subst hsv;go_wp2_with fail
  refine(O7 A8.o.st 3 l.line).mono ?_;rintro e w2 ⟨rfl,Az,A9⟩;have Ah:=A0 (A8.o.next Az A9);have Aa:Hid (A2 D w w2):=A4.o.trans A9;clear Az A9 d0 d1 d2 d3 fd ld A8 A4 Ji;generalize Im:Cy true 3 l.line f=f1 at *;exact z00a
theorem z3ja {P:Prop} (h:P:=by
  (try unfold N9 at h1);simp only[Bool.or_eq_true,Bool.and_eq_true,decide_eq_true_eq,beq_iff_eq]at h1;omega):P:=h
theorem Wf.top{x y:Nat}{l:A3}{c r:BT A3}(h:Wf 4 (.node x y l c r)):(l.kd=20->Wf 1 c)/\(l.kd≠20->Wf 1 (nd l c)/\((22<=l.kd/\l.kd<=30)\/l.kd=21)):=by
 rcases h.2 with⟨h0,_⟩|⟨h0,_⟩|⟨h0,_⟩|⟨_,h1,h2⟩|⟨_,h1,h2⟩|⟨_,h1,h2⟩|⟨_,h1,h2⟩
 ·omega
 ·omega
 ·omega
 ·exact⟨fun e=>by omega,fun _=>⟨⟨trivial,.inr (.inr (.inr (.inl ⟨.inl rfl,h1,h2⟩)))⟩,by omega⟩⟩
 ·exact⟨fun e=>by omega,fun _=>⟨⟨trivial,.inr (.inr (.inr (.inr (.inl ⟨.inl rfl,h1,h2⟩))))⟩,by omega⟩⟩
 ·refine⟨fun e=>(by rw[e]at h1;cases h1),fun _=>⟨⟨trivial,.inr (.inr (.inr (.inr (.inr (.inl ⟨.inl rfl,h1,h2⟩)))))⟩,?_⟩⟩;exact z3ja
 ·exact⟨fun _=>h2,fun e=>absurd h1 e⟩
theorem z4ba {P:Prop} (h:P:=by
  exact⟨rfl,A8.o,A4.o⟩):P:=h
theorem Aad(K:CC)(l:A3)(c:BT A3)(hk:l.kd=20)(hok:Cq (Ka K) c)(D:Nat->Prop)(w:World)(cur:List Nm)(f:C4)(rc:Nat)(v:Value)(ks:List Value)(hst:K.St D w cur [0] 0 false f rc)(hrc:rc<K.fns.length)(hn:Bh D w l v ks)(hr:Al D w c ks)(A1:cur.length+l.ps.length+bsize c<=600000) :
  Calls Tryz.prog 192 #[.pointer (some ⟨K.cb,0,none⟩),v] w fun e w'=>e=.returned (.tuple #[])/\K.St D w' cur [0] 0 false (Ba K.fns c cur (Gw l.ps [] (Cy (decide (l.s∈(K.fns.take rc).map (·.1))) 3 l.line f)).1 0 true (Gw l.ps [] (Cy (decide (l.s∈(K.fns.take rc).map (·.1))) 3 l.line f)).2).2 (rc+1)/\A2 D w w':=by
 obtain⟨hlo,lcb,hncb⟩:=hst.lo;unfold Bh at hn;rw[if_neg z4sa]at hn;obtain⟨b,cs,rfl,hD,hb,hl⟩:=hn;have e1:Cc l.kd=143:=by rw[hk];rfl
 have e2:D8 l.kd=218:=by rw[hk];rfl
 rw[e1];rw[e2]at hb;unfold Cm at hl;simp only[hk]at hl;obtain⟨ps,sl,rfl,ho,hpo⟩:=hl;obtain⟨va,vn,vc,rfl⟩:∃va vn vc,sl=.slice va vn vc:=Nu ho.1;obtain⟨pa,pn,pc,rfl⟩:∃va vn vc,ps=.slice va vn vc:=Nu hpo.1;have HC:=A0 (A9q K l c hok D w cur f rc b pa pn pc va vn vc ks hst hrc hD hb hpo ho hr A1);have ld:=A6 hb;have D4:=fun(v:Value) (w:World)=>Ds (P:=Tryz.prog) (xT:=142) Tryz.underlying143 v w;clear hst hb e1 e2 hk hr ho hpo;unfold C3;go_enter Tryz.func192,Tryz.ntmps192;go_wp2_with fail
 refine HC.o.mono ?_;rintro e w1 ⟨rfl,Ai,A1⟩;have A8:=A0 Ai;have A4:=A0 A1;clear Ai A1;go_wp2;go_end0;exact z4ba
theorem z63a {P:Prop} (h:P:=by simp only[List.length_nil];omega):P:=h
theorem Aao(K:CC)(c:BT A3)(hwf:Wf 4 c)(hfns:K.fns=Bx c)(D:Nat->Prop)(w:World)(f:C4)(va:Option Addr)(vn vc:Nat)(ks:List Value)
  (hst:K.St D w [] [0] 0 false f 0) (hown:Cr D w 142 1 (.slice va vn vc) ks.length ks) (hrep:Al D w c ks) (A1:bsize c<=400000) :
  Calls Tryz.prog 134 #[.pointer (some ⟨K.cb,0,none⟩),.slice va vn vc] w fun e w'=>e=.returned (.tuple #[])/\(∃cn rc,K.St D w' cn [0] 0 false (Dq K.fns c [] [] f) rc)/\A2 D w w':=by
 have hvn:vn=ks.length:=(Cf hown.1).1;subst hvn;have HSt0:=A0 hst;have HOwn:=A0 hown;have HRep:=A0 hrep;have hlen:=hrep.len;have HLen:=A0 hlen;have hls:=Ni c;have hkl:ks.length<=700000:=by omega
 have HFns:=A0 hfns;have HWf:=A0 hwf;clear hst hown hrep hlen hfns hwf;go_enter Tryz.func134,Tryz.ntmps134;go_wp2;go_loopg [8] ks.length (fun k v wr=>∃(i n:Nat) (cn:List Nm) (fl:C4),v=.int .i64 i/\i+k=ks.length/\cn.length+bsize (C2 i c)<=bsize c/\K.St D wr cn [0] 0 false fl n/\K.fns.drop n=Bx (C2 i c)/\Dq K.fns (C2 i c) ((K.fns.take n).map (·.1)) cn fl=Dq K.fns c [] [] f/\A2 D w wr)
 case atStart=>exact⟨0,0,[],f,rfl,by omega,by rw[show C2 0 c=c from by cases c <;> rfl];simp,HSt0.o,HFns.o,rfl,A2.refl _ _⟩
 case round=>
  clear HSt0;obtain⟨i,n,cn,fl,rfl,hik,hcn,hst,hdr,hse,hbel⟩:=hrel;have HSt:=A0 hst;have HSe:=A0 hse;have HBel:=A0 hbel;have HDr:=A0 hdr;clear hst hse hbel hdr;by_cases hlt:i<ks.length
  ·have hr:=HRep.o.Bf HBel.o;obtain⟨x,y,l,cc,r,hd,v,ks',hv,hn,hrk⟩:=Al.at' i c ks hr z5ca;obtain⟨g,rfl,_,hcap,lg,hcell⟩:=Hg (HOwn.o.Bf HBel.o).1 z4sa;have d0:=hcell i v hv;have hdn:=Wb i c;have hsz:bsize (C2 i c)=bsize (nd l cc)+bsize r:=by rw[hd,Br,bsize]
   have hnds:=Br l cc;have hds:=O8 i c x y l cc r hd;have HDs:=A0 hds;have hw4:Wf 4 (.node x y l cc r):=by have:=Wf.drop 4 i c HWf.o;rw[hd]at this;exact this
   by_cases h20:l.kd=20
   ·obtain⟨hnl,hnf,hdr',htk⟩:=Acv (HDr.o.trans ((congrArg Bx hd).trans (A0w x y l cc r h20)));have HDr':=A0 hdr';have HC:=A0 (Aad K l cc h20 ((A45 K cc z4sa).1 (hw4.top.1 h20)) D wr cn fl n v ks' HSt.o hnl hn hrk z4sa);have HNx:=A0 ((congrArg (fun q=>Dq K.fns q ((K.fns.take n).map (·.1)) cn fl) hd).symm.trans HSe.o);have HFn:=A0 (Aiu K.fns x y l cc r ((K.fns.take n).map (·.1)) cn fl h20);have HTk:=A0 htk;clear hr hd hv hn hrk hcell hds hw4 hnf hdr' htk;go_wp2_with fail
    refine HC.o.mono ?_;rintro e w1 ⟨rfl,Ai,A1⟩;have A8:=A0 Ai;have A4:Hid (A2 D w w1):=HBel.o.trans A1;clear Ai A1;go_wp2;go_roundg (gk-1)
    case measure=>omega
    case rel=>exact⟨i+1,n+1,cn,_,rfl,by omega,by rw[HDs.o];omega,A8.o,by rw[HDs.o];exact HDr'.o,by rw[HDs.o,HTk.o,←HNx.o,HFn.o],A4.o⟩
   ·have Jd:=(hw4.top.2 h20).1;have HC:=A0 (((A45 K (nd l cc) z4sa).1 Jd).1 D wr [] cn [] 0 false fl n v ks' HSt.o hn hrk (by simp only[List.nil_append];omega) z63a z4sa);have hnil:Ba K.fns (.node x y l cc .nil) [] cn 0 false fl=Ba K.fns (nd l cc) [] cn 0 false fl:=Jx K.fns x y l cc [] cn 0 false fl;have hsx:=((congrArg (fun q=>Dq K.fns q ((K.fns.take n).map (·.1)) cn fl) hd).symm.trans HSe.o);rw[Aix K.fns x y l cc r _ cn fl h20,hnil]at hsx;have HSx:=A0 hsx;have HF2:=A0 ((HDr.o.trans (congrArg Bx hd)).trans (A0y x y l cc r h20));have hcl:=A3f K.fns (nd l cc) [] cn 0 false fl;clear hr hd hv hn hrk hcell hds hw4 Jd hnil hsx;go_wp2_with fail
    refine HC.o.mono ?_;rintro e w1 ⟨rfl,Ai,A1⟩;have A8:=A0 Ai;have A4:Hid (A2 D w w1):=HBel.o.trans A1;clear Ai A1;go_wp2;go_roundg (gk-1)
    case measure=>omega
    case rel=>exact⟨i+1,n,(Ba K.fns (nd l cc) [] cn 0 false fl).1,_,rfl,by omega,by rw[HDs.o];omega,A8.o,by rw[HDs.o];exact HF2.o,by rw[HDs.o];exact HSx.o,A4.o⟩
  ·have HE:Hid (fl=Dq K.fns c [] [] f):=by
    exact z0pa
   go_wp2;go_end0;rw[←HE.o];exact⟨rfl,⟨cn,n,HSt.o⟩,HBel.o⟩
theorem A9e(K:CC)(c:BT A3)(hwf:Wf 4 c)(hfns:K.fns=Bx c)(D:Nat->Prop)(w:World)(f:C4)(va:Option Addr)(vn vc:Nat)(ks:List Value)
  (hst:K.St D w [] [] 0 false f 0) (hown:Cr D w 142 1 (.slice va vn vc) ks.length ks) (hrep:Al D w c ks) (A1:bsize c<=400000) :
  Calls Tryz.prog 80 #[.pointer (some ⟨K.cb,0,none⟩),.slice va vn vc] w fun e w'=>e=.returned (.tuple #[])/\(∃cn bk rc,K.St D w' cn bk 0 false (Dq K.fns c [] [] f) rc)/\A2 D w w':=by
 have HO:=A0 (Tb hst.st z4wa);have HSt:=A0 hst;have HRun:=A0 (fun(W:World) (hs:K.St D W [] [0] 0 false f 0) (hbd:A2 D w W)=>Aao K c hwf hfns D W f va vn vc ks hs (hown.Bf hbd) (hrep.Bf hbd) A1);clear hst hown hrep;go_enter Tryz.func80,Tryz.ntmps80;go_wp2_with fail
 refine HO.o.mono ?_;rintro e w1 ⟨rfl,Ai,A1⟩;have A8:=A0 (HSt.o.next Ai A1);have A4:=A0 A1;clear Ai A1;go_wp2_with fail
 refine(HRun.o _ A8.o A4.o).mono ?_;rintro e w2 ⟨rfl,⟨cn,rc,Az⟩,A9⟩;have Ah:=A0 Az;have Aa:Hid (A2 D w w2):=A4.o.trans A9;clear Az A9;go_wp2_with fail
 refine(T9 (bk:=[]) (p:=0) Ah.o.st (Nat.zero_le _)).mono ?_;rintro e w3 ⟨rfl,C0,Ar⟩;have Be:=A0 (Ah.o.next C0 Ar);have Ay:Hid (A2 D w w3):=Aa.o.trans Ar;clear C0 Ar;go_wp2;go_end0;exact⟨rfl,⟨_,_,_,Be.o⟩,Ay.o⟩
theorem Adh:(Tryz.prog.info? 143).map (fun i=>(i.zero,i.size,i.bytes))=some (some (.pointer none),1,8):=by kernel_rfl
def Zr(D:Nat->Prop)(w:World)(p:Nm×Nat)(v:Value):Prop:=∃pb pa pc,v=.pointer (some ⟨pb,0,none⟩)/\D pb/\pb<w.heap.size/\w.cell? ⟨pb,1,none⟩=some (.string ⟨p.1.toArray⟩)/\w.cell? ⟨pb,2,none⟩=some (.slice pa p.2 pc)
def A5n(D:Nat->Prop)(c:BT A3)(nk:Nat)(w:World)(k:Nat)(v3 v13:Value)(wr:World):Prop:=
 ∃(i:Nat) (fs:List (Nm×Nat)) (fa:Option Addr) (fn fc:Nat) (ps:List Value),v3=.slice fa fn fc/\v13=.int .i64 i/\i+k=nk/\Bx c=fs++Bx (C2 i c)/\fs.length<=i/\wr.ownsRow 0 143 1 (.slice fa fn fc) ps.length ps/\ps.length=fs.length/\
  (∀j (h:j<fs.length),∃v,ps[j]?=some v/\Zr D w fs[j] v)/\(∀g,(Value.slice fa fn fc).ownBlock=some g->w.heap.size<=g)/\Below w.heap.size w wr
def A5m(D:Nat->Prop)(c:BT A3)(w:World)(e:Ending)(w':World):Prop:=
 ∃fa fn fc,e=.returned (.slice fa fn fc)/\Below w.heap.size w w'/\Ik (fun g=>D g\/(Value.slice fa fn fc).ownBlock=some g) w' (Bx c) fa fn fc/\(∀g,(Value.slice fa fn fc).ownBlock=some g->w.heap.size<=g/\g<w'.heap.size)
theorem A33{kd:Nat}(h:(22<=kd/\kd<=30)\/kd=21):Cc kd≠143:=by
 have h9:kd=21\/kd=22\/kd=23\/kd=24\/kd=25\/kd=26\/kd=27\/kd=28\/kd=29\/kd=30:=by omega
 rcases h9 with e|e|e|e|e|e|e|e|e|e <;> (subst e;decide)
theorem A12(c:BT A3)(hwf:Wf 4 c)(D:Nat->Prop)(w:World)(pb:Nat)(va:Option Addr)(vn vc:Nat)(ks:List Value)(hpb:w.heap[pb]?=some (.cells #[.slice va vn vc] 140 (0,0)))
  (hown:Cr D w 142 1 (.slice va vn vc) ks.length ks) (hrep:Al D w c ks) (A1:bsize c<=90000) :
  Calls Tryz.prog 52 #[.pointer (some ⟨pb,0,none⟩)] w (A5m D c w):=by
 have hvn:vn=ks.length:=(Cf hown.1).1;subst hvn;have c0:=A7 hpb 0 _ rfl;have lp:=A6 hpb;have HOwn:=A0 hown;have HRep:=A0 hrep;have hlen:=hrep.len;have HLen:=A0 hlen;have hls:=Ni c;have hkl:ks.length<=90000:=by omega
 have HWf:=A0 hwf;clear hown hrep hlen hwf hpb;go_enter Tryz.func52,Tryz.ntmps52;go_wp2;go_loopg [3,13] ks.length (fun k v3 v13 wr=>A5n D c ks.length w k v3 v13 wr)
 case atStart=>exact⟨0,[],none,0,0,[],rfl,rfl,by omega,rfl,Nat.le_refl _,World.ownsRow_nil _ _ _ _,rfl,fun j h=>by simp at h,by simp[Value.ownBlock],Below.refl _ _⟩
 case round=>
  obtain⟨i,fs,fa,fn,fc,ps,rfl,rfl,hik,hfs,hfl,hro,hpl,hat,hlo,hbel⟩:=hrel;have HFs:=A0 hfs;have HRo:=A0 hro;have HAt:=A0 hat;have HLo:=A0 hlo;have HBel:=A0 hbel;have HPl:=A0 hpl;clear hfs hro hat hlo hbel;by_cases hlt:i<ks.length
  ·obtain⟨x,y,l,cc,r,hd,v,ks',hv,hn,hrk⟩:=Al.at' i c ks HRep.o z5ca;obtain⟨g,rfl,_,hcap,lg,hcell⟩:=Hg HOwn.o.1 z4sa;have d0:=(World.cell?_of_block (HBel.o.block g lg)).trans (hcell i v hv);have lg2:g<wr.heap.size:=Nat.lt_of_lt_of_le lg HBel.o.size;have hds:=O8 i c x y l cc r hd;have HDs:=A0 hds;have hw4:Wf 4 (.node x y l cc r):=by have:=Wf.drop 4 i c HWf.o;rw[hd]at this;exact this
   by_cases h20:l.kd=20
   ·unfold Bh at hn;rw[if_neg z4sa]at hn;obtain⟨b,cs,rfl,hD,hb,hl⟩:=hn;have e1:Cc l.kd=143:=by rw[h20];rfl
    rw[e1]at d0;unfold Cm at hl;simp only[h20]at hl;obtain⟨pp,sl,rfl,_,hpo⟩:=hl;obtain⟨pa,pn,pc,rfl⟩:∃va vn vc,pp=.slice va vn vc:=Nu hpo.1;have hpn:pn=l.ps.length:=(Cf hpo.1).1;have HFnA:Hid (Zr D w (l.s,l.ps.length) (.pointer (some ⟨b,0,none⟩))):=by
     refine⟨b,pa,pc,rfl,hD,A6 hb,A7 hb 1 _ rfl,?_⟩;have:=A7 hb 2 _ rfl;rw[hpn]at this;exact this
    have HFx:Hid (Bx c=(fs++[(l.s,l.ps.length)])++Bx (C2 (i+1) c)):=by
     show _=_;rw[HFs.o,hd,A0w x y l cc r h20,hds];simp
    have ta:=fun(v:Value) (w:World)=>Ds (P:=Tryz.prog) (xT:=142) Tryz.underlying143 v w;have hrow:=HRo.o;have hpl2:ps.length<=90000:=by omega
    clear hcell hd hv hrk hds hw4 e1 h20 hb hpo hpn hpl;unfold C3 at d0;go_wp2_with (at_builtin;refine Ju wr #[.pointer (some ⟨b,0,none⟩)] 143 rfl (.tmp 23) (.tmp 25) 129 rfl 0 1 8 (.pointer none) Tryz.underlying129 Adh rfl z4sa (.slice fa fn fc) ps.length ps rfl rfl hrow rfl (fun u hu=>by simp at hu;rw[hu];rfl) z4sa z4sa (Nat.zero_le _) ?_;intro g2 cap2 w2 hown2 hgrow2 hat2 Io)
    have hsz:=HBel.o.size;go_roundg (gk-1)
    case measure=>omega
    case rel=>
     refine⟨i+1,fs++[(l.s,l.ps.length)],some ⟨g2,0,none⟩,ps.length+1,cap2,ps++[.pointer (some ⟨b,0,none⟩)],rfl,rfl,by omega,HFx.o,by simp;omega,by simpa using hown2,by simp[HPl.o],?_,?_,?_⟩
     ·intro j hj;by_cases hjl:j<fs.length
      ·obtain⟨v,k1,k2⟩:=HAt.o j hjl;refine⟨v,?_,by rw[List.getElem_append_left hjl];exact k2⟩;rw[List.getElem?_append_left (by rw[HPl.o];exact hjl)];exact k1
      ·have hje:j=fs.length:=by simp at hj;omega
       subst hje;refine⟨_,?_,by rw[List.getElem_append_right (Nat.le_refl _)];simpa using HFnA.o⟩;rw[List.getElem?_append_right (by rw[HPl.o];exact Nat.le_refl _),HPl.o];simp
     ·intro k hk;simp only[Value.ownBlock,Option.some.injEq]at hk;rw[←hk];rcases hat2 with h|h
      ·exact HLo.o g2 h
      ·omega
     ·exact⟨hgrow2.os.trans HBel.o.os,hgrow2.tape.trans HBel.o.tape,hgrow2.output.trans HBel.o.output,Nat.le_trans hsz hgrow2.size,fun k hk=>(hgrow2.block k z4sa (fun e=>by have:=HLo.o k e.symm;omega)).trans (HBel.o.block k hk)⟩
   ·have hk:=(hw4.top.2 h20).2;unfold Bh at hn;rw[if_neg z4sa]at hn;obtain⟨b,cs,rfl,hD,hb,hl⟩:=hn;have HFx:Hid (Bx c=fs++Bx (C2 (i+1) c)):=by
     show _=_;rw[HFs.o,hd,A0y x y l cc r h20,hds]
    have hpt:=A33 hk;have ta:=fun(v:Value) (w:World)=>B6 (P:=Tryz.prog) (t:=Cc l.kd) (T:=143) (xT:=142) (z:=.pointer none) Tryz.underlying143 (by kernel_rfl) hpt v w;clear hcell hd hv hrk hds hw4 h20 hb hl hk hpt hpl;generalize Cc l.kd=tt at *;go_wp2;go_roundg (gk-1)
    case measure=>omega
    case rel=>exact⟨i+1,fs,fa,fn,fc,ps,rfl,rfl,by omega,HFx.o,by omega,HRo.o,HPl.o,HAt.o,HLo.o,HBel.o⟩
  ·have hfn:fn=ps.length:=(Cf HRo.o).1;have hcp:=Afm HRo.o;have HE:Hid (Bx c=fs):=by
    show _=_;have h0:C2 i c=.nil:=by
     exact z1qa
    have:=HFs.o;rw[h0]at this;simpa [Bx]using this
   go_wp2;go_ret;refine⟨fa,fn,fc,rfl,HBel.o,?_,fun g hg=>⟨HLo.o g hg,Bg HRo.o g hg⟩⟩;rw[HE.o];refine⟨by rw[hfn,HPl.o],by omega,by omega,fun j hj=>?_⟩;obtain⟨v,k1,pb',pa,pc,rfl,k2,k3,k4,k5⟩:=HAt.o j hj;obtain⟨g,hfa,_,_,lg,hcell⟩:=Hg HRo.o z4sa;have hsz:=HBel.o.size;refine⟨g,pb',pa,pc,hfa,.inr (by rw[hfa];rfl),lg,hcell j _ k1,.inl k2,by omega,(World.cell?_of_block (HBel.o.block pb' k3)).trans k4,(World.cell?_of_block (HBel.o.block pb' k3)).trans k5⟩
theorem A9v{w:World}{fa:Option Addr}{fn fc:Nat}:F1 (fun g=>g<w.heap.size) w.heap.size 213 (w.alloc (.cells #[.slice fa fn fc,.int .i64 0,.slice none 0 0,.slice none 0 0,.slice none 0 0,.bool false,.int .i64 0,.int .i64 0] 213)) [] [] 0 false (0,0) 0 fa fn fc:=by
 refine⟨none,0,0,none,0,0,none,0,0,[],heap_alloc_new _ _,World.ownsRow_nil _ _ _ _,World.ownsRow_nil _ _ _ _,World.ownsRow_nil _ _ _ _,rfl,by omega,?_,?_,?_,by simp,fun g hg=>by simp;omega⟩;all_goals intro g hg;simp[Value.ownBlock]at hg
theorem A9a(c:BT A3)(hwf:Wf 4 c)(D:Nat->Prop)(w:World)(pb:Nat)(va:Option Addr)(vn vc:Nat)(ks:List Value)(hpb:w.heap[pb]?=some (.cells #[.slice va vn vc] 140 (0,0)))
  (hown:Cr D w 142 1 (.slice va vn vc) ks.length ks) (hrep:Al D w c ks) (A1:bsize c<=90000) :
  Calls Tryz.prog 51 #[.pointer (some ⟨pb,0,none⟩)] w fun e w'=>e=.returned (.agg #[.int .i64 ((Dq (Bx c) c [] [] (0,0)).1:Nat),.int .i64 ((Dq (Bx c) c [] [] (0,0)).2:Nat)])/\Below w.heap.size w w':=by
 have lp:=A6 hpb;have hk1:∀g,D g->g<w.heap.size->(w.alloc (.cells #[.int .i64 0,.int .i64 0] 50)).heap[g]?=w.heap[g]?/\(D g/\g<w.heap.size):=fun g hg hl=>⟨Below.heap_alloc _ _ _ hl,hg,hl⟩;have HC:=A0 (A12 c hwf (fun g=>D g/\g<w.heap.size) (w.alloc (.cells #[.int .i64 0,.int .i64 0] 50)) pb va vn vc ks (alloc_old hpb) (hown.keep hk1) (Al.keep hk1 _ _ hrep) A1);have HPb:=A0 hpb;have HOwn:=A0 hown;have HRep:=A0 hrep;have HWf:=A0 hwf;clear hpb hown hrep hwf hk1;go_enter Tryz.func51,Tryz.ntmps51;go_wp2_with fail
 refine HC.o.mono ?_;rintro e w2 ⟨fa,fn,fc,rfl,A9,hfn,hrow⟩;have Eg:=Fu A9 (heap_alloc_new w (.cells #[.int .i64 0,.int .i64 0] 50));have hP2:=Fu A9 (alloc_old (o':=.cells #[.int .i64 0,.int .i64 0] 50) HPb.o);have Aa:Hid (Below w.heap.size w w2):=Below.trans (Below.alloc (Below.refl _ _) (Nat.le_refl _) _) (A9.mono z4wa);have ls2:=A9.size;rw[World.size_alloc]at ls2;have c0:=A7 hP2 0 _ rfl;have lp2:=A6 hP2;have Dv:=A0 Eg;have HK:Hid ((⟨w2.heap.size,213,Bx c,fa,fn,fc⟩:CC).St (fun g=>g<w2.heap.size) (w2.alloc (.cells #[.slice fa fn fc,.int .i64 0,.slice none 0 0,.slice none 0 0,.slice none 0 0,.bool false,.int .i64 0,.int .i64 0] 213)) [] [] 0 false (0,0) 0):=by
  refine⟨A9v,?_⟩;have h1:Ik (fun g=>g<w2.heap.size) w2 (Bx c) fa fn fc:=by
   refine⟨hfn.len,hfn.Bz,hfn.cap,fun i hi=>?_⟩;obtain⟨g,pb',pa,pc,e1,_,e3,e4,_,e6,e7,e8⟩:=hfn.at' i hi;exact⟨g,pb',pa,pc,e1,e3,e3,e4,e6,e6,e7,e8⟩
  exact h1.keep ⟨rfl,rfl,rfl,by simp,fun k hk=>Below.heap_alloc _ _ _ hk⟩
 have C7:∀g,D g->g<w.heap.size->(w2.alloc (.cells #[.slice fa fn fc,.int .i64 0,.slice none 0 0,.slice none 0 0,.slice none 0 0,.bool false,.int .i64 0,.int .i64 0] 213)).heap[g]?=w.heap[g]?/\g<w2.heap.size:=fun g hg hl=>⟨(Below.heap_alloc _ _ _ z4sa).trans (Aa.o.block g hl),by omega⟩;have HRun:=A0 (A9e ⟨w2.heap.size,213,Bx c,fa,fn,fc⟩ c HWf.o rfl _ _ (0,0) va vn vc ks HK.o (HOwn.o.keep C7) (Al.keep C7 _ _ HRep.o) z4sa);clear A9 hfn hrow Eg hP2 C7 HC HK;go_wp2_with fail
 refine HRun.o.mono ?_;rintro e w3 ⟨rfl,⟨cn,bk,rc,C0⟩,Ar⟩;obtain⟨na,nn,nc,ba,bn,bc,la,ln,lc,ls,hv⟩:=C0.st;obtain⟨y0,y1,y2,y3,y4,y5,y6,y7,fy,ly⟩:=Nk hv.cell;have Ie:=(Ar.block w.heap.size z4sa).trans (alloc_old (o':=.cells #[.slice fa fn fc,.int .i64 0,.slice none 0 0,.slice none 0 0,.slice none 0 0,.bool false,.int .i64 0,.int .i64 0] 213) Dv.o);obtain⟨z0,z1,fz,lz⟩:=Ja Ie;have ls3:=Ar.size;rw[World.size_alloc]at ls3;have Ay:Hid (Below w.heap.size w w3):=⟨Ar.os.trans Aa.o.os,Ar.tape.trans Aa.o.tape,Ar.output.trans Aa.o.output,by omega,fun k hk=>(Ar.block k z4sa).trans ((Below.heap_alloc _ _ _ z4sa).trans (Aa.o.block k hk))⟩;clear C0 hv Ie Ar c0;generalize hfl:Dq (Bx c) c [] [] (0,0)=fl at *;have HFl:=A0 hfl;clear hfl;go_wp2;refine bodyPost_ret (v:=.agg #[.int .i64 (fl.1:Nat),.int .i64 (fl.2:Nat)]) (by simp[results,Tryz.results51,go_sem,z0,z1]) rfl ⟨by rw[HFl.o],?_⟩;repeat (first|exact Ay.o|refine Below.alloc ?_ z4za _|refine Below.setCell ?_ z4wa _|refine Below.drew ?_)
end
end Go.Proofs.YtjdlndhfaaolaaaGreatDoor
