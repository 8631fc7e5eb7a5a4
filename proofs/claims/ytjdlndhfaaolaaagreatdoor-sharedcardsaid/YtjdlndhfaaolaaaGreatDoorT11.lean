import Derived.Test.YtjdlndhfaaolaaaGreatDoorT10
set_option maxHeartbeats 20000000
namespace Go.Proofs.YtjdlndhfaaolaaaGreatDoor
section
set_option maxRecDepth 100000
open Go.RowKit
variable {b tb cap te:Nat}{ts:List Tk}{w:World}{s:PS}
theorem Ao8{s:PS}(h:kT s=0):At s=s:=by unfold At;rw[if_pos h]
theorem Acn(s:PS)(h:s.bad≠0->s.ts=[Ig]):kT (Eh s)=0:=by
 unfold Eh;split
 ·rfl
 ·rename_i h0;unfold kT B9;rw[h h0];rfl
theorem Ix(h:PR b tb cap te ts w s)(k:Nat) :
  Calls Tryz.prog 182 #[.pointer (some ⟨b,0,none⟩),.int .i64 (k:Nat)] w fun e w'=>∃kk ln nn S,e=.returned (.agg #[.int .i64 kk,.int .i64 ln,.string ⟨S.toArray⟩,.int .i64 nn])/\((Bi k s).bad=0->Vc s ln nn S/\kT s=k)/\PR b tb cap te ts w' (Bi k s)/\A9 b w w':=by
 have HH:=A0 h;have hk40:=h.Rq;have HSt:Hid (s.bad≠0->s.ts=[Ig]):=h.Mf;have HFb:Hid (s.bad=0->1<=(B9 s).line):=fun e=>(h.lines e).1;clear h;by_cases hc:kT s=k
 ·have t:((kT s:Int) !=(k:Int))=false:=by rw[hc];simp
  have HW:Hid (Bi k s=At s):=by show _=_;unfold Bi;rw[if_pos hc]
  have HC:=A0 hc;clear hc;go_enter Tryz.func182,Tryz.ntmps182;go_wp2_with fail
  refine(Dt (HH.o.alloc _)).mono ?_;rintro e w1 ⟨rfl,h1,A1⟩;have H1:=A0 h1;have hR:=Fu A1 (heap_alloc_new w (.cells #[.int .i64 0,.int .i64 0,.string ⟨#[]⟩,.int .i64 0] 198));have HR:=A0 hR;have Du:=A5 hR;have B6:Hid (A9 b w w1):=((A9.refl b w).alloc _).trans (Below.only A1);have lb:=HH.o.lt;clear h1 A1 hR;go_wp2_with fail
  refine(Hf H1.o).mono ?_;rintro e w2 ⟨ln,nn,S,rfl,htk,h2,Be⟩;have Ej:=Be.blk HR.o z51a;obtain⟨x0,x1,x2,x3,fx,lx⟩:=E4 Ej;have Bm:Hid (A9 b w w2):=B6.o.trans Be;have H2:=A0 h2;have HTk:=A0 htk;clear h2 htk Ej Be;go_wp2;refine bodyPost_ret (v:=.agg #[.int .i64 (kT s:Nat),.int .i64 ln,.string ⟨S.toArray⟩,.int .i64 nn]) (by simp[results,Tryz.results182,go_sem,x0,x1,x2,x3]) rfl ?_;rw[HW.o];refine⟨_,_,_,_,rfl,fun _=>⟨HTk.o,HC.o⟩,?_,A9.I5 Bm.o (Nat.le_refl _) _ _ _ _⟩;exact PR.keep H2.o (He z51a _ _ _ _) (He z51a _ _ _ _)
 ·have t:((kT s:Int) !=(k:Int))=true:=by simp;omega
  have HW:Hid (Bi k s=Eh s):=by show _=_;unfold Bi;rw[if_neg hc]
  have HZ:Hid (At (Eh s)=Eh s):=Ao8 (Acn s HSt.o);have HN:Hid ((Eh s).bad≠0):=by
   show _≠_;unfold Eh;split
   ·have:=HFb.o (by assumption);simp only;omega
   ·assumption
  clear hc;go_enter Tryz.func182,Tryz.ntmps182;go_wp2_with fail
  refine(Dt (HH.o.alloc _)).mono ?_;rintro e w1 ⟨rfl,h1,A1⟩;have H1:=A0 h1;have hR:=Fu A1 (heap_alloc_new w (.cells #[.int .i64 0,.int .i64 0,.string ⟨#[]⟩,.int .i64 0] 198));have HR:=A0 hR;have Du:=A5 hR;have B6:Hid (A9 b w w1):=((A9.refl b w).alloc _).trans (Below.only A1);have lb:=HH.o.lt;clear h1 A1 hR;go_wp2_with fail
  refine(A0b H1.o).mono ?_;rintro e w3 ⟨rfl,h3,Cv⟩;have C8:=A0 (Cv.blk HR.o z51a);have Cp:Hid (A9 b w w3):=B6.o.trans Cv;have H3:=A0 h3;clear h3 Cv;go_wp2_with fail
  refine(Hf H3.o).mono ?_;rintro e w2 ⟨ln,nn,S,rfl,htk,h2,Be⟩;rw[HZ.o]at h2;have Ej:=Be.blk C8.o z51a;obtain⟨x0,x1,x2,x3,fx,lx⟩:=E4 Ej;have Bm:Hid (A9 b w w2):=Cp.o.trans Be;have H2:=A0 h2;clear h2 htk Ej Be;go_wp2;refine bodyPost_ret (v:=.agg #[.int .i64 (kT (Eh s):Nat),.int .i64 ln,.string ⟨S.toArray⟩,.int .i64 nn]) (by simp[results,Tryz.results182,go_sem,x0,x1,x2,x3]) rfl ?_;rw[HW.o];refine⟨_,_,_,_,rfl,fun e=>absurd e HN.o,?_,A9.I5 Bm.o (Nat.le_refl _) _ _ _ _⟩;exact PR.keep H2.o (He z51a _ _ _ _) (He z51a _ _ _ _)
theorem Mp(h:PR b tb cap te ts w s)(k:Nat) :
  Calls Tryz.prog 231 #[.pointer (some ⟨b,0,none⟩),.int .i64 (k:Nat)] w fun e w'=>e=.returned (.bool (kT s==k))/\PR b tb cap te ts w' (Hw k s)/\A9 b w w':=by
 have HH:=A0 h;have hk40:=h.Rq;clear h;by_cases hc:kT s=k
 ·have t:((kT s:Int) !=(k:Int))=false:=by rw[hc];simp
  have HW:Hid (Hw k s=At s):=by show _=_;unfold Hw;rw[if_pos hc]
  have HC:Hid ((kT s==k)=true):=by show _=_;simpa using hc
  clear hc;go_enter Tryz.func231,Tryz.ntmps231;go_wp2_with fail
  refine(Dt HH.o).mono ?_;rintro e w1 ⟨rfl,h1,A1⟩;have H1:=A0 h1;have B6:Hid (A9 b w w1):=Below.only A1;clear h1 A1;go_wp2_with fail
  refine(Hf H1.o).mono ?_;rintro e w2 ⟨ln,nn,S,rfl,htk,h2,Be⟩;have Bm:Hid (A9 b w w2):=B6.o.trans Be;have H2:=A0 h2;clear h2 htk Be;go_wp2;go_ret;exact⟨Sa HC.o.symm,by rw[HW.o];exact H2.o,Bm.o⟩
 ·have t:((kT s:Int) !=(k:Int))=true:=by simp;omega
  have HW:Hid (Hw k s=s):=by show _=_;unfold Hw;rw[if_neg hc]
  have HC:Hid ((kT s==k)=false):=by show _=_;simpa using hc
  clear hc;go_enter Tryz.func231,Tryz.ntmps231;go_wp2_with fail
  refine(Dt HH.o).mono ?_;rintro e w1 ⟨rfl,h1,A1⟩;have H1:=A0 h1;have B6:Hid (A9 b w w1):=Below.only A1;clear h1 A1;go_wp2;go_ret;exact⟨Sa HC.o.symm,by rw[HW.o];exact H1.o,B6.o⟩
theorem Ty(h:PR b tb cap te ts w s) :
  Calls Tryz.prog 183 #[.pointer (some ⟨b,0,none⟩)] w fun e w'=>∃ln S,e=.returned (.agg #[.int .i64 ln,.string ⟨S.toArray⟩])/\((Bi 1 s).bad=0->ln=(B9 s).line/\S=(B9 s).s)/\PR b tb cap te ts w' (Bi 1 s)/\A9 b w w':=by
 have HH:=A0 h;have lb:=h.lt;have HG:Hid ((Bi 1 s).bad=0->s.bad=0):=by
  intro e;by_cases h0:s.bad=0
  ·exact h0
  ·exfalso;apply h0;have hk:kT s≠1:=by unfold kT B9;rw[h.Mf h0];decide
   unfold Bi at e;rw[if_neg hk]at e;unfold Eh at e;rw[if_neg h0]at e;exact e
 clear h;go_enter Tryz.func183,Tryz.ntmps183;go_wp2_with fail
 refine(Ix (HH.o.alloc _) 1).mono ?_;rintro e w1 ⟨kk,ln,nn,S,rfl,htk,h1,C3⟩;have hR:=C3.blk (heap_alloc_new w (.cells #[.int .i64 0,.string ⟨#[]⟩] 148)) z51a;have x0:=A2 hR 0 _ rfl;have x1:=A2 hR 1 _ rfl;have fx:=Bh hR;have lx:=A5 hR;have B6:Hid (A9 b w w1):=((A9.refl b w).alloc _).trans C3;have H1:=A0 h1;have HTk:=A0 htk;clear h1 htk hR C3;go_wp2;refine bodyPost_ret (v:=.agg #[.int .i64 ln,.string ⟨S.toArray⟩]) (by simp[results,Tryz.results183,go_sem,x0,x1,lx]) rfl ?_;refine⟨_,_,rfl,fun e=>?_,PR.alloc (PR.keep H1.o ?_ ?_) _,A9.alloc (A9.set (p:=⟨w.heap.size,1,none⟩) (A9.set (p:=⟨w.heap.size,0,none⟩) B6.o (.inr (Nat.le_refl _)) _) (.inr (Nat.le_refl _)) _) _⟩
 ·have:=(HTk.o e).1 (HG.o e);exact⟨this.1,this.2.1⟩
 ·rw[Below.heap_setCell _ _ _ _ (by show b≠w.heap.size;omega),Below.heap_setCell _ _ _ _ (by show b≠w.heap.size;omega)]
 ·rw[Below.heap_setCell _ _ _ _ (by show tb≠w.heap.size;omega),Below.heap_setCell _ _ _ _ (by show tb≠w.heap.size;omega)]
end
section
open Go.RowKit
open Go.Deep (BT)
def Ck(kd:Nat):TypeId:=
 match kd with
 | 1=>220|2=>229|3=>233|4=>233|5=>237|6=>238|7=>301|8=>241
 | 9=>296|10=>304|11=>307|12=>310|13=>244|14=>244
 | 20=>143|21=>145|22=>253|23=>255|24=>257|25=>259|26=>264
 | 27=>265|28=>268|29=>268|30=>270|_=>248
def Dn(kd:Nat):TypeId:=
 match kd with
 | 1=>228|2=>232|3=>236|4=>236|5=>450|6=>240|7=>303|8=>243
 | 9=>300|10=>306|11=>309|12=>312|13=>246|14=>246
 | 20=>218|21=>152|22=>314|23=>317|24=>318|25=>367|26=>368
 | 27=>267|28=>322|29=>322|30=>272|_=>295
def Ge(n:Nat):Value:=.int .i64 (n:Nat)
def L6(s:List UInt8):Value:=.string ⟨s.toArray⟩
def Ch(b:Nat):Value:=.pointer (some ⟨b,0,none⟩)
def Ki(ps:List (Nat×List UInt8)):List Value:=ps.flatMap fun p=>[Ge p.1,L6 p.2]
def Cy(D:Nat->Prop)(w:World)(l:A6)(cs:Array Value)(ks:List Value):Prop:=
 match l.kd with
 | 1=>cs=#[.int .i64 l.n]/\ks=[]
 | 2=>cs=#[L6 l.s]/\ks=[]
 | 3=>cs=#[.bool true]/\ks=[]
 | 4=>cs=#[.bool false]/\ks=[]
 | 5=>cs=#[]/\ks=[]
 | 6=>cs=#[Ge l.line,L6 l.s]/\ks=[]
 | 7=>∃sl,cs=#[Ge l.line,L6 l.s,sl]/\Cz D w 150 1 sl ks.length ks
 | 8=>∃a,cs=#[a]/\ks=[a]
 | 9=>∃sl,cs=#[Ge l.line,sl]/\Cz D w 150 1 sl ks.length ks
 | 10=>∃a,cs=#[Ge l.line,a]/\ks=[a]
 | 11=>∃a b,cs=#[Ge l.line,a,b]/\ks=[a,b]
 | 12=>∃a b,cs=#[Ge l.line,a,b]/\ks=[a,b]
 | 13=>∃a,cs=#[Ge l.line,.int .i64 28,a]/\ks=[a]
 | 14=>∃a,cs=#[Ge l.line,.int .i64 35,a]/\ks=[a]
 | 20=>∃ps sl,cs=#[Ge l.line,L6 l.s,ps,sl]/\Cz D w 142 1 sl ks.length ks/\Cz D w 148 2 ps l.ps.length (Ki l.ps)
 | 21=>∃a,cs=#[Ge l.line,L6 l.s,a]/\ks=[a]
 | 22=>∃t x a1 n1 c1 a2 n2 c2,cs=#[Ge l.line,.iface t x,.slice a1 n1 c1,.slice a2 n2 c2]/\((ks=[.iface t x,.slice a1 n1 c1]/\Value.slice a2 n2 c2=.slice none 0 0)\/ks=[.iface t x,.slice a1 n1 c1,.slice a2 n2 c2])
 | 23=>∃t x a1 n1 c1,cs=#[Ge l.line,.iface t x,.slice a1 n1 c1]/\ks=[.iface t x,.slice a1 n1 c1]
 | 24=>∃a,cs=#[Ge l.line,a]/\((ks=[]/\a=.nilIface)\/ks=[a])
 | 25=>cs=#[Ge l.line]/\ks=[]
 | 26=>cs=#[Ge l.line]/\ks=[]
 | 27=>∃a,cs=#[Ge l.line,a]/\ks=[a]
 | 28=>∃b2 a,cs=#[.iface 238 (Ch b2),a]/\D b2/\w.heap[b2]?=some (.cells #[Ge l.line,L6 l.s] 240 (0,0))/\ks=[a]
 | 29=>∃b2 o p a,cs=#[.iface 310 (Ch b2),a]/\D b2/\w.heap[b2]?=some (.cells #[Ge l.line,o,p] 312 (0,0))/\ks=[o,p,a]
 | 30=>∃a,cs=#[a]/\ks=[a]
 | kd=>∃a b,cs=#[Ge l.line,.int .i64 ((kd-100:Nat):Nat),a,b]/\ks=[a,b]
def Bx(D:Nat->Prop)(w:World)(l:A6)(v:Value)(ks:List Value):Prop:=
 if l.kd=31\/l.kd=32 then(∃a n c,v=.slice a n c)/\Cz D w 142 1 v ks.length ks
 else ∃b cs,v=.iface (Ck l.kd) (Ch b)/\D b/\w.heap[b]?=some (.cells cs (Dn l.kd) (0,0))/\Cy D w l cs ks
def Ao(D:Nat->Prop)(w:World):BT A6->List Value->Prop
 | .nil,vs=>vs=[]
 | .node _ _ l ch sib,vs=>∃v ks rest,vs=v::rest/\Bx D w l v ks/\Ao D w ch ks/\Ao D w sib rest
variable {D D':Nat->Prop} {w w':World}
theorem Cy.keep(hk:∀g,D g->g<w.heap.size->w'.heap[g]?=w.heap[g]?/\D' g){l:A6}{cs:Array Value}{ks:List Value}(h:Cy D w l cs ks):Cy D' w' l cs ks:=by
 unfold Cy at h ⊢;split at h <;> try exact h
 ·obtain⟨sl,e,o⟩:=h;exact⟨sl,e,o.keep hk⟩
 ·obtain⟨sl,e,o⟩:=h;exact⟨sl,e,o.keep hk⟩
 ·obtain⟨ps,sl,e,o,p⟩:=h;exact⟨ps,sl,e,o.keep hk,p.keep hk⟩
 ·obtain⟨b2,a,e,d,hb,k⟩:=h;exact⟨b2,a,e,(hk _ d (A5 hb)).2,(hk _ d (A5 hb)).1.trans hb,k⟩
 ·obtain⟨b2,o,p,a,e,d,hb,k⟩:=h;exact⟨b2,o,p,a,e,(hk _ d (A5 hb)).2,(hk _ d (A5 hb)).1.trans hb,k⟩
theorem Bx.keep(hk:∀g,D g->g<w.heap.size->w'.heap[g]?=w.heap[g]?/\D' g){l:A6}{v:Value}{ks:List Value}(h:Bx D w l v ks):Bx D' w' l v ks:=by
 unfold Bx at h ⊢;split at h
 ·rename_i h1;rw[if_pos h1];exact⟨h.1,h.2.keep hk⟩
 ·rename_i h1;rw[if_neg h1];obtain⟨b,cs,e,d,hb,k⟩:=h;exact⟨b,cs,e,(hk _ d (A5 hb)).2,(hk _ d (A5 hb)).1.trans hb,k.keep hk⟩
theorem Ao.keep(hk:∀g,D g->g<w.heap.size->w'.heap[g]?=w.heap[g]?/\D' g):∀(f:BT A6) (vs:List Value),Ao D w f vs->Ao D' w' f vs:=by
 intro f;induction f with
 | nil=>intro vs h;exact h
 | node x y l ch sib Ds D9=>
  intro vs h;obtain⟨v,ks,rest,rfl,h1,h2,h3⟩:=h;exact⟨v,ks,rest,rfl,h1.keep hk,Ds _ h2,D9 _ h3⟩
theorem Ao.app:∀(f g:BT A6) (c1 c2:List Value),Ao D w f c1->Ao D w g c2->Ao D w (C4 f g) (c1++c2):=by
 intro f;induction f with
 | nil=>intro g c1 c2 h1 h2;rw[Ao]at h1;subst h1;exact h2
 | node x y l ch sib Ds D9=>
  intro g c1 c2 h1 h2;obtain⟨v,ks,rest,rfl,k1,k2,k3⟩:=h1;rw[C4];exact⟨v,ks,rest++c2,rfl,k1,k2,D9 g rest c2 k3 h2⟩
theorem Ao.len:∀(f:BT A6) (vs:List Value),Ao D w f vs->vs.length=Az f:=by
 intro f;induction f with
 | nil=>intro vs h;rw[Ao]at h;subst h;rfl
 | node x y l ch sib Ds D9=>
  intro vs h;obtain⟨v,ks,rest,rfl,k1,k2,k3⟩:=h;rw[Az,List.length_cons,D9 rest k3]
theorem Ao.one{l:A6}{ch:BT A6}{v:Value}{ks:List Value}(h1:Bx D w l v ks)(h2:Ao D w ch ks):Ao D w (nd l ch) [v]:=⟨v,ks,[],rfl,h1,h2,rfl⟩
theorem Bx.new{l:A6}{b:Nat}{cs:Array Value}{ks:List Value}(h:¬(l.kd=31\/l.kd=32))(hD:D b)(hb:w.heap[b]?=some (.cells cs (Dn l.kd) (0,0)))(hl:Cy D w l cs ks):Bx D w l (.iface (Ck l.kd) (Ch b)) ks:=by
 unfold Bx;rw[if_neg h];exact⟨b,cs,rfl,hD,hb,hl⟩
theorem Ao.only{b n:Nat}(hb:b<n)(ho:A9 b w w'){f:BT A6}{vs:List Value}(h:Ao (fun g=>n<=g) w f vs):Ao (fun g=>n<=g) w' f vs:=
 Ao.keep (fun g hg hl=>⟨ho.block g hl z51a,hg⟩) _ _ h
theorem Ao.weak{n m:Nat}(hm:m<=n){f:BT A6}{vs:List Value}(h:Ao (fun g=>n<=g) w f vs):Ao (fun g=>m<=g) w f vs:=
 Ao.keep (fun g hg _=>⟨rfl,by omega⟩) _ _ h
theorem Ao.later{b n m:Nat}(hm:m<=n)(hb:b<n)(ho:A9 b w w'){f:BT A6}{vs:List Value}(h:Ao (fun g=>n<=g) w f vs):Ao (fun g=>m<=g) w' f vs:=(h.only hb ho).weak hm
def Ho(b tb cap te:Nat)(ts:List Tk)(w:World)(r:BT A6×PS)(e:Ending)(w':World):Prop:=
 ∃t x,e=.returned (.iface t x)/\PR b tb cap te ts w' r.2/\A9 b w w'/\(r.2.bad=0->Ao (fun g=>w.heap.size<=g) w' r.1 [.iface t x])
def Sx(T:TypeId)(b tb cap te:Nat)(ts:List Tk)(w:World)(r:BT A6×PS)(e:Ending)(w':World):Prop:=
 ∃va vn vc cs,e=.returned (.slice va vn vc)/\Cz (fun g=>w.heap.size<=g) w' T 1 (.slice va vn vc) cs.length cs/\PR b tb cap te ts w' r.2/\A9 b w w'/\(r.2.bad=0->Ao (fun g=>w.heap.size<=g) w' r.1 cs)
structure Iq (b tb cap te : Nat) (ts : List Tk) (n : Nat) : Prop where
 expr:∀w s a r,a<=6->PR b tb cap te ts w s->Ai n 0 a .nil s=some r->Calls Tryz.prog 232 #[.pointer (some ⟨b,0,none⟩),.int .i64 ((a+1:Nat):Nat)] w (Ho b tb cap te ts w r)
 unary:∀w s r,PR b tb cap te ts w s->Ai n 2 0 .nil s=some r->Calls Tryz.prog 261 #[.pointer (some ⟨b,0,none⟩)] w (Ho b tb cap te ts w r)
 atom:∀w s r,PR b tb cap te ts w s->Ai n 4 0 .nil s=some r->Calls Tryz.prog 296 #[.pointer (some ⟨b,0,none⟩)] w (Ho b tb cap te ts w r)
 list:∀w s a r,PR b tb cap te ts w s->Ai n 5 a .nil s=some r->Calls Tryz.prog 309 #[.pointer (some ⟨b,0,none⟩),.int .i64 (a:Nat)] w (Sx 150 b tb cap te ts w r)
 block:∀w s r,PR b tb cap te ts w s->Ai n 7 0 .nil s=some r->Calls Tryz.prog 185 #[.pointer (some ⟨b,0,none⟩)] w (Sx 142 b tb cap te ts w r)
 stmt:∀w s r,PR b tb cap te ts w s->Ai n 9 0 .nil s=some r->Calls Tryz.prog 132 #[.pointer (some ⟨b,0,none⟩)] w (Ho b tb cap te ts w r)
theorem Hr{b tb cap te:Nat}{ts:List Tk}{w W:World}{r:BT A6×PS}{l:A6}{ch:BT A6}{cs:Array Value}{t tt:TypeId}{ks:List Value}(hr:PR b tb cap te ts W r.2)(ho:A9 b w W)(e1:r.1=nd l ch)(h31:¬(l.kd=31\/l.kd=32))(ht:t=Ck l.kd)(htt:tt=Dn l.kd)
  (hl:r.2.bad=0->Cy (fun g=>w.heap.size<=g) W l cs ks/\Ao (fun g=>w.heap.size<=g) W ch ks) :
  Ho b tb cap te ts w r (.returned (.iface t (.pointer (some ⟨W.heap.size,0,none⟩)))) (W.alloc (.cells cs tt)):=by
 subst htt;refine⟨t,_,rfl,hr.alloc _,ho.alloc _,fun h=>?_⟩;rw[e1,ht];obtain⟨h1,h2⟩:=hl h;have hk:∀g,w.heap.size<=g->g<W.heap.size->(W.alloc (.cells cs (Dn l.kd))).heap[g]?=W.heap[g]?/\w.heap.size<=g:=fun g hg hl=>⟨Below.heap_alloc _ _ _ hl,hg⟩;exact Ao.one (Bx.new h31 ho.size (heap_alloc_new W _) (h1.keep hk)) (Ao.keep hk _ _ h2)
end
section
set_option maxRecDepth 100000
open Go.RowKit
open Go.Deep (BT)
theorem z0xa {P:Prop} (h:P:=by
  go_wp2;go_ret;exact⟨rfl,rfl⟩):P:=h
theorem A3d(k:Nat)(hk:k<=40)(w:World):Calls Tryz.prog 262 #[.int .i64 (k:Nat)] w fun e w'=>e=.returned (.int .i64 (rowOf k:Nat))/\w'=w:=by
 by_cases hc:k=40\/k=39\/k=27\/k=29\/k=30\/k=31\/k=32\/k=33\/k=34\/k=35\/k=36\/k=37\/k=38
 ·rcases hc with rfl|rfl|rfl|rfl|rfl|rfl|rfl|rfl|rfl|rfl|rfl|rfl|rfl;all_goals
   go_enter Tryz.func262,Tryz.ntmps262;exact z0xa
 ·have h0:rowOf k=0:=by
   unfold rowOf;rw[if_neg z51a,if_neg z51a,if_neg z51a,if_neg z51a,if_neg z51a,if_neg z51a]
  have hn:∀c:Int,c=40\/c=39\/c=27\/c=29\/c=30\/c=31\/c=32\/c=33\/c=34\/c=35\/c=36\/c=37\/c=38->((k:Int)==c)=false:=by
   intro c h;rw[beq_eq_false_iff_ne];omega
  have t1:=hn 40 z51a;have t2:=hn 39 z51a;have t3:=hn 27 z51a;have t4:=hn 29 z51a;have t5:=hn 30 z51a;have t6:=hn 31 z51a;have t7:=hn 32 z51a;have t8:=hn 33 z51a;have t9:=hn 34 z51a;have t10:=hn 35 z51a;have t11:=hn 36 z51a;have t12:=hn 37 z51a;have t13:=hn 38 z51a;clear hn hc;have H0:=A0 h0;clear h0;go_enter Tryz.func262,Tryz.ntmps262;go_wp2;go_ret;exact⟨by rw[H0.o];rfl,rfl⟩
theorem cf0(k n l:Int)(S:ByteArray)(w:World):(Instr.field 198 (.agg #[.int .i64 k,.int .i64 l,.string S,.int .i64 n]) 0).run Tryz.prog w=.ok (.int .i64 k) w:=by kernel_rfl
theorem Lb(k n l:Int)(S:ByteArray)(w:World):(Instr.field 198 (.agg #[.int .i64 k,.int .i64 l,.string S,.int .i64 n]) 1).run Tryz.prog w=.ok (.int .i64 l) w:=by kernel_rfl
theorem cf2(k n l:Int)(S:ByteArray)(w:World):(Instr.field 198 (.agg #[.int .i64 k,.int .i64 l,.string S,.int .i64 n]) 2).run Tryz.prog w=.ok (.string S) w:=by kernel_rfl
theorem cf3(k n l:Int)(S:ByteArray)(w:World):(Instr.field 198 (.agg #[.int .i64 k,.int .i64 l,.string S,.int .i64 n]) 3).run Tryz.prog w=.ok (.int .i64 n) w:=by kernel_rfl
theorem Qz(s:PS):(At s).bad=s.bad:=by unfold At;split <;> rfl
theorem ke{k c:Nat}{d:Int}(hd:(c:Int)=d)(h:k=c):((k:Int)==d)=true:=by subst hd h;simp
theorem kn{k c:Nat}{d:Int}(hd:(c:Int)=d)(h:k≠c):((k:Int)==d)=false:=by subst hd;rw[beq_eq_false_iff_ne];omega
theorem Wk{s:PS}(h:s.bad=0->1<=(B9 s).line):(Eh s).bad≠0:=by
 unfold Eh;split
 ·have:=h (by assumption);simp only;omega
 ·assumption
theorem z5ha {P:Prop} (h:P:=by simp[Bb]):P:=h
theorem Afr{b tb cap te:Nat}{ts:List Tk}{n:Nat}(w:World)(s:PS)(r:BT A6×PS)(h6:kT s≠1)(h7:kT s≠18)(h8:kT s≠22)(h9:kT s≠16)(h10:kT s≠17)(hs:PR b tb cap te ts w s)(hp:Ai (n+1) 4 0 .nil s=some r) :
  Calls Tryz.prog 313 #[.pointer (some ⟨b,0,none⟩)] w (Ho b tb cap te ts w r):=by
 have HS:=A0 hs;have hf0:=cf0;have hf2:=cf2;have hf3:=cf3;by_cases h2:kT s=2
 ·have HR:=A0 (A2b h2 hp);have t2:((kT s:Int)==2)=true:=ke (c:=2) rfl h2;clear hp hs h6 h7 h8 h9 h10 h2;go_enter Tryz.func313,Tryz.ntmps313;go_wp2_with fail
  refine(Dt HS.o).mono ?_;rintro e w1 ⟨rfl,h1,A1⟩;have H1:=A0 h1;have B6:Hid (A9 b w w1):=Below.only A1;clear h1 A1;go_wp2_with fail
  refine(Hf H1.o).mono ?_;rintro e w2 ⟨ln,nn,S,rfl,htk,h2,Be⟩;have Bm:Hid (A9 b w w2):=B6.o.trans Be;have H2:=A0 h2;have HTk:=A0 htk;clear h2 htk Be;go_wp2;go_ret;rw[HR.o];refine Hr (l:=⟨1,(B9 s).line,[],(B9 s).n,[]⟩) (ch:=.nil) (ks:=[]) H2.o Bm.o rfl z56a rfl rfl (fun hb=>⟨⟨?_,rfl⟩,rfl⟩);rw[Qz]at hb;rw[(HTk.o hb).2.2]
 by_cases h3:kT s=3
 ·have HR:=A0 (A2v h3 hp);have t2:((kT s:Int)==2)=false:=kn (c:=2) rfl h2;have t3:((kT s:Int)==3)=true:=ke (c:=3) rfl h3;clear hp hs h6 h7 h8 h9 h10 h3;go_enter Tryz.func313,Tryz.ntmps313;go_wp2_with fail
  refine(Dt HS.o).mono ?_;rintro e w1 ⟨rfl,h1,A1⟩;have H1:=A0 h1;have B6:Hid (A9 b w w1):=Below.only A1;clear h1 A1;go_wp2_with fail
  refine(Hf H1.o).mono ?_;rintro e w2 ⟨ln,nn,S,rfl,htk,h2,Be⟩;have Bm:Hid (A9 b w w2):=B6.o.trans Be;have H2:=A0 h2;have HTk:=A0 htk;clear h2 htk Be;go_wp2;go_ret;rw[HR.o];refine Hr (l:=⟨2,(B9 s).line,(B9 s).s,0,[]⟩) (ch:=.nil) (ks:=[]) H2.o Bm.o rfl z56a rfl rfl (fun hb=>⟨⟨?_,rfl⟩,rfl⟩);rw[Qz]at hb;rw[(HTk.o hb).2.1];rfl
 by_cases h13:kT s=13
 ·have HR:=A0 (A2w h13 hp);have t2:((kT s:Int)==2)=false:=kn (c:=2) rfl h2;have t3:((kT s:Int)==3)=false:=kn (c:=3) rfl h3;have t13:((kT s:Int)==13)=true:=ke (c:=13) rfl h13;clear hp hs h6 h7 h8 h9 h10 h13;go_enter Tryz.func313,Tryz.ntmps313;go_wp2_with fail
  refine(Dt HS.o).mono ?_;rintro e w1 ⟨rfl,h1,A1⟩;have H1:=A0 h1;have B6:Hid (A9 b w w1):=Below.only A1;clear h1 A1;go_wp2_with fail
  refine(Hf H1.o).mono ?_;rintro e w2 ⟨ln,nn,S,rfl,htk,h2,Be⟩;have Bm:Hid (A9 b w w2):=B6.o.trans Be;have H2:=A0 h2;have HTk:=A0 htk;clear h2 htk Be;go_wp2;go_ret;rw[HR.o];refine Hr (l:=Bb 3 (B9 s).line) (ch:=.nil) (ks:=[]) H2.o Bm.o rfl z5ha rfl rfl (fun hb=>⟨⟨?_,rfl⟩,rfl⟩);rfl
 by_cases h14:kT s=14
 ·have HR:=A0 (A26 h14 hp);have t2:((kT s:Int)==2)=false:=kn (c:=2) rfl h2;have t3:((kT s:Int)==3)=false:=kn (c:=3) rfl h3;have t13:((kT s:Int)==13)=false:=kn (c:=13) rfl h13;have t14:((kT s:Int)==14)=true:=ke (c:=14) rfl h14;clear h13;clear hp hs h6 h7 h8 h9 h10 h14;go_enter Tryz.func313,Tryz.ntmps313;go_wp2_with fail
  refine(Dt HS.o).mono ?_;rintro e w1 ⟨rfl,h1,A1⟩;have H1:=A0 h1;have B6:Hid (A9 b w w1):=Below.only A1;clear h1 A1;go_wp2_with fail
  refine(Hf H1.o).mono ?_;rintro e w2 ⟨ln,nn,S,rfl,htk,h2,Be⟩;have Bm:Hid (A9 b w w2):=B6.o.trans Be;have H2:=A0 h2;have HTk:=A0 htk;clear h2 htk Be;go_wp2;go_ret;rw[HR.o];refine Hr (l:=Bb 4 (B9 s).line) (ch:=.nil) (ks:=[]) H2.o Bm.o rfl z5ha rfl rfl (fun hb=>⟨⟨?_,rfl⟩,rfl⟩);rfl
 by_cases h15:kT s=15
 ·have HR:=A0 (A2l h15 hp);have t2:((kT s:Int)==2)=false:=kn (c:=2) rfl h2;have t3:((kT s:Int)==3)=false:=kn (c:=3) rfl h3;have t13:((kT s:Int)==13)=false:=kn (c:=13) rfl h13;have t14:((kT s:Int)==14)=false:=kn (c:=14) rfl h14;have t15:((kT s:Int)==15)=true:=ke (c:=15) rfl h15;clear hp hs h6 h7 h8 h9 h10 h15;go_enter Tryz.func313,Tryz.ntmps313;go_wp2_with fail
  refine(Dt HS.o).mono ?_;rintro e w1 ⟨rfl,h1,A1⟩;have H1:=A0 h1;have B6:Hid (A9 b w w1):=Below.only A1;clear h1 A1;go_wp2_with fail
  refine(Hf H1.o).mono ?_;rintro e w2 ⟨ln,nn,S,rfl,htk,h2,Be⟩;have Bm:Hid (A9 b w w2):=B6.o.trans Be;have H2:=A0 h2;have HTk:=A0 htk;clear h2 htk Be;go_wp2;go_ret;rw[HR.o];refine Hr (l:=Bb 5 (B9 s).line) (ch:=.nil) (ks:=[]) H2.o Bm.o rfl z5ha rfl rfl (fun hb=>⟨⟨?_,rfl⟩,rfl⟩);rfl
 have HR:=A0 (Xm h2 h3 h13 h14 h15 h6 h7 h8 h9 h10 hp);have t2:((kT s:Int)==2)=false:=kn (c:=2) rfl h2;have t3:((kT s:Int)==3)=false:=kn (c:=3) rfl h3;have t13:((kT s:Int)==13)=false:=kn (c:=13) rfl h13;have t14:((kT s:Int)==14)=false:=kn (c:=14) rfl h14;have t15:((kT s:Int)==15)=false:=kn (c:=15) rfl h15;have HFb:Hid (s.bad=0->1<=(B9 s).line):=fun e=>(hs.lines e).1;clear hp hs h6 h7 h8 h9 h10 h2 h3 h13 h14 h15;go_enter Tryz.func313,Tryz.ntmps313;go_wp2_with fail
 refine(Dt HS.o).mono ?_;rintro e w1 ⟨rfl,h1,A1⟩;have H1:=A0 h1;have B6:Hid (A9 b w w1):=Below.only A1;clear h1 A1;go_wp2_with fail
 refine(A0b H1.o).mono ?_;rintro e w2 ⟨rfl,h2,Be⟩;have Bm:Hid (A9 b w w2):=B6.o.trans Be;have H2:=A0 h2;clear h2 Be;go_wp2;go_ret;rw[HR.o];refine⟨_,_,rfl,PR.alloc H2.o _,Bm.o.alloc _,fun hb=>absurd hb ?_⟩;show(Eh s).bad≠0;exact Wk HFb.o
end
end Go.Proofs.YtjdlndhfaaolaaaGreatDoor
