import Derived.Test.YtjdlndhfaaolaaaGreatDoorV10
set_option maxHeartbeats 20000000
namespace Go.Proofs.YtjdlndhfaaolaaaGreatDoor
section
open Go.RowKit
open Go.Deep (BT)
def Cg(kd:Nat):TypeId:=
 match kd with
 | 1=>220|2=>229|3=>233|4=>233|5=>237|6=>238|7=>301|8=>241
 | 9=>296|10=>304|11=>307|12=>310|13=>244|14=>244
 | 20=>143|21=>145|22=>253|23=>255|24=>257|25=>259|26=>264
 | 27=>265|28=>268|29=>268|30=>270|_=>248
def Dk(kd:Nat):TypeId:=
 match kd with
 | 1=>228|2=>232|3=>236|4=>236|5=>450|6=>240|7=>303|8=>243
 | 9=>300|10=>306|11=>309|12=>312|13=>246|14=>246
 | 20=>218|21=>152|22=>314|23=>317|24=>318|25=>367|26=>368
 | 27=>267|28=>322|29=>322|30=>272|_=>295
def Gd(n:Nat):Value:=.int .i64 (n:Nat)
def Ld(s:List UInt8):Value:=.string ⟨s.toArray⟩
def Cc(b:Nat):Value:=.pointer (some ⟨b,0,none⟩)
def Kt(ps:List (Nat×List UInt8)):List Value:=ps.flatMap fun p=>[Gd p.1,Ld p.2]
def Cv(D:Nat->Prop)(w:World)(l:A6)(cs:Array Value)(ks:List Value):Prop:=
 match l.kd with
 | 1=>cs=#[.int .i64 l.n]/\ks=[]
 | 2=>cs=#[Ld l.s]/\ks=[]
 | 3=>cs=#[.bool true]/\ks=[]
 | 4=>cs=#[.bool false]/\ks=[]
 | 5=>cs=#[]/\ks=[]
 | 6=>cs=#[Gd l.line,Ld l.s]/\ks=[]
 | 7=>∃sl,cs=#[Gd l.line,Ld l.s,sl]/\Cw D w 150 1 sl ks.length ks
 | 8=>∃a,cs=#[a]/\ks=[a]
 | 9=>∃sl,cs=#[Gd l.line,sl]/\Cw D w 150 1 sl ks.length ks
 | 10=>∃a,cs=#[Gd l.line,a]/\ks=[a]
 | 11=>∃a b,cs=#[Gd l.line,a,b]/\ks=[a,b]
 | 12=>∃a b,cs=#[Gd l.line,a,b]/\ks=[a,b]
 | 13=>∃a,cs=#[Gd l.line,.int .i64 28,a]/\ks=[a]
 | 14=>∃a,cs=#[Gd l.line,.int .i64 35,a]/\ks=[a]
 | 20=>∃ps sl,cs=#[Gd l.line,Ld l.s,ps,sl]/\Cw D w 142 1 sl ks.length ks/\Cw D w 148 2 ps l.ps.length (Kt l.ps)
 | 21=>∃a,cs=#[Gd l.line,Ld l.s,a]/\ks=[a]
 | 22=>∃t x a1 n1 c1 a2 n2 c2,cs=#[Gd l.line,.iface t x,.slice a1 n1 c1,.slice a2 n2 c2]/\((ks=[.iface t x,.slice a1 n1 c1]/\Value.slice a2 n2 c2=.slice none 0 0)\/ks=[.iface t x,.slice a1 n1 c1,.slice a2 n2 c2])
 | 23=>∃t x a1 n1 c1,cs=#[Gd l.line,.iface t x,.slice a1 n1 c1]/\ks=[.iface t x,.slice a1 n1 c1]
 | 24=>∃a,cs=#[Gd l.line,a]/\((ks=[]/\a=.nilIface)\/ks=[a])
 | 25=>cs=#[Gd l.line]/\ks=[]
 | 26=>cs=#[Gd l.line]/\ks=[]
 | 27=>∃a,cs=#[Gd l.line,a]/\ks=[a]
 | 28=>∃b2 a,cs=#[.iface 238 (Cc b2),a]/\D b2/\w.heap[b2]?=some (.cells #[Gd l.line,Ld l.s] 240 (0,0))/\ks=[a]
 | 29=>∃b2 o p a,cs=#[.iface 310 (Cc b2),a]/\D b2/\w.heap[b2]?=some (.cells #[Gd l.line,o,p] 312 (0,0))/\ks=[o,p,a]
 | 30=>∃a,cs=#[a]/\ks=[a]
 | kd=>∃a b,cs=#[Gd l.line,.int .i64 ((kd-100:Nat):Nat),a,b]/\ks=[a,b]
def Bs(D:Nat->Prop)(w:World)(l:A6)(v:Value)(ks:List Value):Prop:=
 if l.kd=31\/l.kd=32 then(∃a n c,v=.slice a n c)/\Cw D w 142 1 v ks.length ks
 else ∃b cs,v=.iface (Cg l.kd) (Cc b)/\D b/\w.heap[b]?=some (.cells cs (Dk l.kd) (0,0))/\Cv D w l cs ks
def An(D:Nat->Prop)(w:World):BT A6->List Value->Prop
 | .nil,vs=>vs=[]
 | .node _ _ l ch sib,vs=>∃v ks rest,vs=v::rest/\Bs D w l v ks/\An D w ch ks/\An D w sib rest
variable {D D':Nat->Prop} {w w':World}
theorem Cv.keep(hk:∀g,D g->g<w.heap.size->w'.heap[g]?=w.heap[g]?/\D' g){l:A6}{cs:Array Value}{ks:List Value}(h:Cv D w l cs ks):Cv D' w' l cs ks:=by
 unfold Cv at h ⊢;split at h <;> try exact h
 ·obtain⟨sl,e,o⟩:=h;exact⟨sl,e,o.keep hk⟩
 ·obtain⟨sl,e,o⟩:=h;exact⟨sl,e,o.keep hk⟩
 ·obtain⟨ps,sl,e,o,p⟩:=h;exact⟨ps,sl,e,o.keep hk,p.keep hk⟩
 ·obtain⟨b2,a,e,d,hb,k⟩:=h;exact⟨b2,a,e,(hk _ d (A5 hb)).2,(hk _ d (A5 hb)).1.trans hb,k⟩
 ·obtain⟨b2,o,p,a,e,d,hb,k⟩:=h;exact⟨b2,o,p,a,e,(hk _ d (A5 hb)).2,(hk _ d (A5 hb)).1.trans hb,k⟩
theorem Bs.keep(hk:∀g,D g->g<w.heap.size->w'.heap[g]?=w.heap[g]?/\D' g){l:A6}{v:Value}{ks:List Value}(h:Bs D w l v ks):Bs D' w' l v ks:=by
 unfold Bs at h ⊢;split at h
 ·rename_i h1;rw[if_pos h1];exact⟨h.1,h.2.keep hk⟩
 ·rename_i h1;rw[if_neg h1];obtain⟨b,cs,e,d,hb,k⟩:=h;exact⟨b,cs,e,(hk _ d (A5 hb)).2,(hk _ d (A5 hb)).1.trans hb,k.keep hk⟩
theorem An.keep(hk:∀g,D g->g<w.heap.size->w'.heap[g]?=w.heap[g]?/\D' g):∀(f:BT A6) (vs:List Value),An D w f vs->An D' w' f vs:=by
 intro f;induction f with
 | nil=>intro vs h;exact h
 | node x y l ch sib Dr D8=>
  intro vs h;obtain⟨v,ks,rest,rfl,h1,h2,h3⟩:=h;exact⟨v,ks,rest,rfl,h1.keep hk,Dr _ h2,D8 _ h3⟩
theorem An.app:∀(f g:BT A6) (c1 c2:List Value),An D w f c1->An D w g c2->An D w (Bu f g) (c1++c2):=by
 intro f;induction f with
 | nil=>intro g c1 c2 h1 h2;rw[An]at h1;subst h1;exact h2
 | node x y l ch sib Dr D8=>
  intro g c1 c2 h1 h2;obtain⟨v,ks,rest,rfl,k1,k2,k3⟩:=h1;rw[Bu];exact⟨v,ks,rest++c2,rfl,k1,k2,D8 g rest c2 k3 h2⟩
theorem An.len:∀(f:BT A6) (vs:List Value),An D w f vs->vs.length=Ax f:=by
 intro f;induction f with
 | nil=>intro vs h;rw[An]at h;subst h;rfl
 | node x y l ch sib Dr D8=>
  intro vs h;obtain⟨v,ks,rest,rfl,k1,k2,k3⟩:=h;rw[Ax,List.length_cons,D8 rest k3]
theorem An.one{l:A6}{ch:BT A6}{v:Value}{ks:List Value}(h1:Bs D w l v ks)(h2:An D w ch ks):An D w (nd l ch) [v]:=⟨v,ks,[],rfl,h1,h2,rfl⟩
theorem Bs.new{l:A6}{b:Nat}{cs:Array Value}{ks:List Value}(h:¬(l.kd=31\/l.kd=32))(hD:D b)(hb:w.heap[b]?=some (.cells cs (Dk l.kd) (0,0)))(hl:Cv D w l cs ks):Bs D w l (.iface (Cg l.kd) (Cc b)) ks:=by
 unfold Bs;rw[if_neg h];exact⟨b,cs,rfl,hD,hb,hl⟩
theorem An.only{b n:Nat}(hb:b<n)(ho:A9 b w w'){f:BT A6}{vs:List Value}(h:An (fun g=>n<=g) w f vs):An (fun g=>n<=g) w' f vs:=
 An.keep (fun g hg hl=>⟨ho.block g hl z4va,hg⟩) _ _ h
theorem An.weak{n m:Nat}(hm:m<=n){f:BT A6}{vs:List Value}(h:An (fun g=>n<=g) w f vs):An (fun g=>m<=g) w f vs:=
 An.keep (fun g hg _=>⟨rfl,by omega⟩) _ _ h
theorem An.later{b n m:Nat}(hm:m<=n)(hb:b<n)(ho:A9 b w w'){f:BT A6}{vs:List Value}(h:An (fun g=>n<=g) w f vs):An (fun g=>m<=g) w' f vs:=(h.only hb ho).weak hm
def Hp(b tb cap te:Nat)(ts:List Tk)(w:World)(r:BT A6×PS)(e:Ending)(w':World):Prop:=
 ∃t x,e=.returned (.iface t x)/\PR b tb cap te ts w' r.2/\A9 b w w'/\(r.2.bad=0->An (fun g=>w.heap.size<=g) w' r.1 [.iface t x])
def Tm(T:TypeId)(b tb cap te:Nat)(ts:List Tk)(w:World)(r:BT A6×PS)(e:Ending)(w':World):Prop:=
 ∃va vn vc cs,e=.returned (.slice va vn vc)/\Cw (fun g=>w.heap.size<=g) w' T 1 (.slice va vn vc) cs.length cs/\PR b tb cap te ts w' r.2/\A9 b w w'/\(r.2.bad=0->An (fun g=>w.heap.size<=g) w' r.1 cs)
structure Is (b tb cap te : Nat) (ts : List Tk) (n : Nat) : Prop where
 expr:∀w s a r,a<=6->PR b tb cap te ts w s->Ah n 0 a .nil s=some r->Calls Tryz.prog 232 #[.pointer (some ⟨b,0,none⟩),.int .i64 ((a+1:Nat):Nat)] w (Hp b tb cap te ts w r)
 unary:∀w s r,PR b tb cap te ts w s->Ah n 2 0 .nil s=some r->Calls Tryz.prog 261 #[.pointer (some ⟨b,0,none⟩)] w (Hp b tb cap te ts w r)
 atom:∀w s r,PR b tb cap te ts w s->Ah n 4 0 .nil s=some r->Calls Tryz.prog 296 #[.pointer (some ⟨b,0,none⟩)] w (Hp b tb cap te ts w r)
 list:∀w s a r,PR b tb cap te ts w s->Ah n 5 a .nil s=some r->Calls Tryz.prog 309 #[.pointer (some ⟨b,0,none⟩),.int .i64 (a:Nat)] w (Tm 150 b tb cap te ts w r)
 block:∀w s r,PR b tb cap te ts w s->Ah n 7 0 .nil s=some r->Calls Tryz.prog 185 #[.pointer (some ⟨b,0,none⟩)] w (Tm 142 b tb cap te ts w r)
 stmt:∀w s r,PR b tb cap te ts w s->Ah n 9 0 .nil s=some r->Calls Tryz.prog 132 #[.pointer (some ⟨b,0,none⟩)] w (Hp b tb cap te ts w r)
theorem Ht{b tb cap te:Nat}{ts:List Tk}{w W:World}{r:BT A6×PS}{l:A6}{ch:BT A6}{cs:Array Value}{t tt:TypeId}{ks:List Value}(hr:PR b tb cap te ts W r.2)(ho:A9 b w W)(e1:r.1=nd l ch)(h31:¬(l.kd=31\/l.kd=32))(ht:t=Cg l.kd)(htt:tt=Dk l.kd)
  (hl:r.2.bad=0->Cv (fun g=>w.heap.size<=g) W l cs ks/\An (fun g=>w.heap.size<=g) W ch ks) :
  Hp b tb cap te ts w r (.returned (.iface t (.pointer (some ⟨W.heap.size,0,none⟩)))) (W.alloc (.cells cs tt)):=by
 subst htt;refine⟨t,_,rfl,hr.alloc _,ho.alloc _,fun h=>?_⟩;rw[e1,ht];obtain⟨h1,h2⟩:=hl h;have hk:∀g,w.heap.size<=g->g<W.heap.size->(W.alloc (.cells cs (Dk l.kd))).heap[g]?=W.heap[g]?/\w.heap.size<=g:=fun g hg hl=>⟨Below.heap_alloc _ _ _ hl,hg⟩;exact An.one (Bs.new h31 ho.size (heap_alloc_new W _) (h1.keep hk)) (An.keep hk _ _ h2)
end
section
set_option maxRecDepth 100000
open Go.RowKit
open Go.Deep (BT)
theorem A3i(k:Nat)(hk:k<=40)(w:World):Calls Tryz.prog 262 #[.int .i64 (k:Nat)] w fun e w'=>e=.returned (.int .i64 (rowOf k:Nat))/\w'=w:=by
 by_cases hc:k=40\/k=39\/k=27\/k=29\/k=30\/k=31\/k=32\/k=33\/k=34\/k=35\/k=36\/k=37\/k=38
 ·rcases hc with rfl|rfl|rfl|rfl|rfl|rfl|rfl|rfl|rfl|rfl|rfl|rfl|rfl;all_goals
   go_enter Tryz.func262,Tryz.ntmps262;exact z03a
 ·have h0:rowOf k=0:=by
   unfold rowOf;rw[if_neg z4va,if_neg z4va,if_neg z4va,if_neg z4va,if_neg z4va,if_neg z4va]
  have hn:∀c:Int,c=40\/c=39\/c=27\/c=29\/c=30\/c=31\/c=32\/c=33\/c=34\/c=35\/c=36\/c=37\/c=38->((k:Int)==c)=false:=by
   intro c h;rw[beq_eq_false_iff_ne];omega
  have t1:=hn 40 z4va;have t2:=hn 39 z4va;have t3:=hn 27 z4va;have t4:=hn 29 z4va;have t5:=hn 30 z4va;have t6:=hn 31 z4va;have t7:=hn 32 z4va;have t8:=hn 33 z4va;have t9:=hn 34 z4va;have t10:=hn 35 z4va;have t11:=hn 36 z4va;have t12:=hn 37 z4va;have t13:=hn 38 z4va;clear hn hc;have H0:=A0 h0;clear h0;go_enter Tryz.func262,Tryz.ntmps262;go_wp2;go_ret;exact⟨by rw[H0.o];rfl,rfl⟩
theorem cf0(k n l:Int)(S:ByteArray)(w:World):(Instr.field 198 (.agg #[.int .i64 k,.int .i64 l,.string S,.int .i64 n]) 0).run Tryz.prog w=.ok (.int .i64 k) w:=by kernel_rfl
theorem Li(k n l:Int)(S:ByteArray)(w:World):(Instr.field 198 (.agg #[.int .i64 k,.int .i64 l,.string S,.int .i64 n]) 1).run Tryz.prog w=.ok (.int .i64 l) w:=by kernel_rfl
theorem cf2(k n l:Int)(S:ByteArray)(w:World):(Instr.field 198 (.agg #[.int .i64 k,.int .i64 l,.string S,.int .i64 n]) 2).run Tryz.prog w=.ok (.string S) w:=by kernel_rfl
theorem cf3(k n l:Int)(S:ByteArray)(w:World):(Instr.field 198 (.agg #[.int .i64 k,.int .i64 l,.string S,.int .i64 n]) 3).run Tryz.prog w=.ok (.int .i64 n) w:=by kernel_rfl
theorem Re(s:PS):(As s).bad=s.bad:=by unfold As;split <;> rfl
theorem ke{k c:Nat}{d:Int}(hd:(c:Int)=d)(h:k=c):((k:Int)==d)=true:=by subst hd h;simp
theorem kn{k c:Nat}{d:Int}(hd:(c:Int)=d)(h:k≠c):((k:Int)==d)=false:=by subst hd;rw[beq_eq_false_iff_ne];omega
theorem Wu{s:PS}(h:s.bad=0->1<=(B6 s).line):(Eg s).bad≠0:=by
 unfold Eg;split
 ·have:=h (by assumption);simp only;omega
 ·assumption
theorem z5aa {P:Prop} (h:P:=by simp[B7]):P:=h
theorem Ag3{b tb cap te:Nat}{ts:List Tk}{n:Nat}(w:World)(s:PS)(r:BT A6×PS)(h6:kT s≠1)(h7:kT s≠18)(h8:kT s≠22)(h9:kT s≠16)(h10:kT s≠17)(hs:PR b tb cap te ts w s)(hp:Ah (n+1) 4 0 .nil s=some r) :
  Calls Tryz.prog 313 #[.pointer (some ⟨b,0,none⟩)] w (Hp b tb cap te ts w r):=by
 have HS:=A0 hs;have hf0:=cf0;have hf2:=cf2;have hf3:=cf3;by_cases h2:kT s=2
 ·have HR:=A0 (A2l h2 hp);have t2:((kT s:Int)==2)=true:=ke (c:=2) rfl h2;clear hp hs h6 h7 h8 h9 h10 h2;go_enter Tryz.func313,Tryz.ntmps313;go_wp2_with fail
  refine(Ds HS.o).mono ?_;rintro e w1 ⟨rfl,h1,A1⟩;have H1:=A0 h1;have B3:Hid (A9 b w w1):=Below.only A1;clear h1 A1;go_wp2_with fail
  refine(Hg H1.o).mono ?_;rintro e w2 ⟨ln,nn,S,rfl,htk,h2,Bb⟩;have Bh:Hid (A9 b w w2):=B3.o.trans Bb;have H2:=A0 h2;have HTk:=A0 htk;clear h2 htk Bb;go_wp2;go_ret;rw[HR.o];refine Ht (l:=⟨1,(B6 s).line,[],(B6 s).n,[]⟩) (ch:=.nil) (ks:=[]) H2.o Bh.o rfl z50a rfl rfl (fun hb=>⟨⟨?_,rfl⟩,rfl⟩);rw[Re]at hb;rw[(HTk.o hb).2.2]
 by_cases h3:kT s=3
 ·have HR:=A0 (A35 h3 hp);have t2:((kT s:Int)==2)=false:=kn (c:=2) rfl h2;have t3:((kT s:Int)==3)=true:=ke (c:=3) rfl h3;clear hp hs h6 h7 h8 h9 h10 h3;go_enter Tryz.func313,Tryz.ntmps313;go_wp2_with fail
  refine(Ds HS.o).mono ?_;rintro e w1 ⟨rfl,h1,A1⟩;have H1:=A0 h1;have B3:Hid (A9 b w w1):=Below.only A1;clear h1 A1;go_wp2_with fail
  refine(Hg H1.o).mono ?_;rintro e w2 ⟨ln,nn,S,rfl,htk,h2,Bb⟩;have Bh:Hid (A9 b w w2):=B3.o.trans Bb;have H2:=A0 h2;have HTk:=A0 htk;clear h2 htk Bb;go_wp2;go_ret;rw[HR.o];refine Ht (l:=⟨2,(B6 s).line,(B6 s).s,0,[]⟩) (ch:=.nil) (ks:=[]) H2.o Bh.o rfl z50a rfl rfl (fun hb=>⟨⟨?_,rfl⟩,rfl⟩);rw[Re]at hb;rw[(HTk.o hb).2.1];rfl
 by_cases h13:kT s=13
 ·have HR:=A0 (A36 h13 hp);have t2:((kT s:Int)==2)=false:=kn (c:=2) rfl h2;have t3:((kT s:Int)==3)=false:=kn (c:=3) rfl h3;have t13:((kT s:Int)==13)=true:=ke (c:=13) rfl h13;clear hp hs h6 h7 h8 h9 h10 h13;go_enter Tryz.func313,Tryz.ntmps313;go_wp2_with fail
  refine(Ds HS.o).mono ?_;rintro e w1 ⟨rfl,h1,A1⟩;have H1:=A0 h1;have B3:Hid (A9 b w w1):=Below.only A1;clear h1 A1;go_wp2_with fail
  refine(Hg H1.o).mono ?_;rintro e w2 ⟨ln,nn,S,rfl,htk,h2,Bb⟩;have Bh:Hid (A9 b w w2):=B3.o.trans Bb;have H2:=A0 h2;have HTk:=A0 htk;clear h2 htk Bb;go_wp2;go_ret;rw[HR.o];refine Ht (l:=B7 3 (B6 s).line) (ch:=.nil) (ks:=[]) H2.o Bh.o rfl z5aa rfl rfl (fun hb=>⟨⟨?_,rfl⟩,rfl⟩);rfl
 by_cases h14:kT s=14
 ·have HR:=A0 (A2g h14 hp);have t2:((kT s:Int)==2)=false:=kn (c:=2) rfl h2;have t3:((kT s:Int)==3)=false:=kn (c:=3) rfl h3;have t13:((kT s:Int)==13)=false:=kn (c:=13) rfl h13;have t14:((kT s:Int)==14)=true:=ke (c:=14) rfl h14;clear h13;clear hp hs h6 h7 h8 h9 h10 h14;go_enter Tryz.func313,Tryz.ntmps313;go_wp2_with fail
  refine(Ds HS.o).mono ?_;rintro e w1 ⟨rfl,h1,A1⟩;have H1:=A0 h1;have B3:Hid (A9 b w w1):=Below.only A1;clear h1 A1;go_wp2_with fail
  refine(Hg H1.o).mono ?_;rintro e w2 ⟨ln,nn,S,rfl,htk,h2,Bb⟩;have Bh:Hid (A9 b w w2):=B3.o.trans Bb;have H2:=A0 h2;have HTk:=A0 htk;clear h2 htk Bb;go_wp2;go_ret;rw[HR.o];refine Ht (l:=B7 4 (B6 s).line) (ch:=.nil) (ks:=[]) H2.o Bh.o rfl z5aa rfl rfl (fun hb=>⟨⟨?_,rfl⟩,rfl⟩);rfl
 by_cases h15:kT s=15
 ·have HR:=A0 (A2v h15 hp);have t2:((kT s:Int)==2)=false:=kn (c:=2) rfl h2;have t3:((kT s:Int)==3)=false:=kn (c:=3) rfl h3;have t13:((kT s:Int)==13)=false:=kn (c:=13) rfl h13;have t14:((kT s:Int)==14)=false:=kn (c:=14) rfl h14;have t15:((kT s:Int)==15)=true:=ke (c:=15) rfl h15;clear hp hs h6 h7 h8 h9 h10 h15;go_enter Tryz.func313,Tryz.ntmps313;go_wp2_with fail
  refine(Ds HS.o).mono ?_;rintro e w1 ⟨rfl,h1,A1⟩;have H1:=A0 h1;have B3:Hid (A9 b w w1):=Below.only A1;clear h1 A1;go_wp2_with fail
  refine(Hg H1.o).mono ?_;rintro e w2 ⟨ln,nn,S,rfl,htk,h2,Bb⟩;have Bh:Hid (A9 b w w2):=B3.o.trans Bb;have H2:=A0 h2;have HTk:=A0 htk;clear h2 htk Bb;go_wp2;go_ret;rw[HR.o];refine Ht (l:=B7 5 (B6 s).line) (ch:=.nil) (ks:=[]) H2.o Bh.o rfl z5aa rfl rfl (fun hb=>⟨⟨?_,rfl⟩,rfl⟩);rfl
 have HR:=A0 (Xy h2 h3 h13 h14 h15 h6 h7 h8 h9 h10 hp);have t2:((kT s:Int)==2)=false:=kn (c:=2) rfl h2;have t3:((kT s:Int)==3)=false:=kn (c:=3) rfl h3;have t13:((kT s:Int)==13)=false:=kn (c:=13) rfl h13;have t14:((kT s:Int)==14)=false:=kn (c:=14) rfl h14;have t15:((kT s:Int)==15)=false:=kn (c:=15) rfl h15;have HFb:Hid (s.bad=0->1<=(B6 s).line):=fun e=>(hs.lines e).1;clear hp hs h6 h7 h8 h9 h10 h2 h3 h13 h14 h15;go_enter Tryz.func313,Tryz.ntmps313;go_wp2_with fail
 refine(Ds HS.o).mono ?_;rintro e w1 ⟨rfl,h1,A1⟩;have H1:=A0 h1;have B3:Hid (A9 b w w1):=Below.only A1;clear h1 A1;go_wp2_with fail
 refine(A0n H1.o).mono ?_;rintro e w2 ⟨rfl,h2,Bb⟩;have Bh:Hid (A9 b w w2):=B3.o.trans Bb;have H2:=A0 h2;clear h2 Bb;go_wp2;go_ret;rw[HR.o];refine⟨_,_,rfl,PR.alloc H2.o _,Bh.o.alloc _,fun hb=>absurd hb ?_⟩;show(Eg s).bad≠0;exact Wu HFb.o
end
end Go.Proofs.YtjdlndhfaaolaaaGreatDoor
