import Derived.Test.YtjdlndhfaaolaaaGreatDoorR02
import Derived.Test.YtjdlndhfaaolaaaGreatDoorR05
set_option maxHeartbeats 20000000
namespace Go.Proofs.YtjdlndhfaaolaaaGreatDoor
section
open Go.RowKit
open Go.Deep (BT)
structure A1 (b : Nat) (w w' : World) : Prop where
 os:w'.os=w.os
 tape:w'.tape=w.tape
 output:w'.output=w.output
 size:w.heap.size<=w'.heap.size
 block:∀k,k<w.heap.size->k≠b->w'.heap[k]?=w.heap[k]?
theorem A1.refl(b:Nat)(w:World):A1 b w w:=⟨rfl,rfl,rfl,Nat.le_refl _,fun _ _ _=>rfl⟩
theorem A1.trans{b:Nat}{x y z:World}(h:A1 b x y)(k:A1 b y z):A1 b x z:=
 ⟨k.os.trans h.os,k.tape.trans h.tape,k.output.trans h.output,Nat.le_trans h.size k.size,fun i hi hb=>(k.block i (Nat.lt_of_lt_of_le hi h.size) hb).trans (h.block i hi hb)⟩
theorem Below.only{b:Nat}{w w':World}(h:Below w.heap.size w w'):A1 b w w':=⟨h.os,h.tape,h.output,h.size,fun k hk _=>h.block k hk⟩
theorem A1.drew{b:Nat}{x w:World}(h:A1 b x w):A1 b x w.drew:=⟨h.os,h.tape,h.output,h.size,h.block⟩
theorem A1.alloc{b:Nat}{x w:World}(h:A1 b x w)(o:Obj):A1 b x (w.alloc o):=
 h.trans ⟨rfl,rfl,rfl,by simp,fun k hk _=>Below.heap_alloc _ _ _ hk⟩
theorem A1.set{b:Nat}{x w:World}(h:A1 b x w){p:Addr}(hp:p.block=b\/x.heap.size<=p.block)(u:Value):A1 b x (w.setCell p u):=
 ⟨h.os,h.tape,h.output,by simp[World.setCell];exact h.size,fun k hk hb=>(Below.heap_setCell _ _ _ _ (by rcases hp with e|e <;> omega)).trans (h.block k hk hb)⟩
theorem A1.grown{b:Nat}{x w w':World}{row:Option Nat}(h:A1 b x w)(hg:w.grownBy w' row)(hr:∀k,row=some k->k=b\/x.heap.size<=k):A1 b x w':=
 ⟨hg.os.trans h.os,hg.tape.trans h.tape,hg.output.trans h.output,Nat.le_trans h.size hg.size,fun k hk hb=>(hg.block k (Nat.lt_of_lt_of_le hk h.size) (fun e=>by rcases hr k e.symm with e|e <;> omega)).trans (h.block k hk hb)⟩
def Dy(kd:Nat):List UInt8:=
 if kd=1 then [105,110,116] else if kd=2 then [116,101,120,116] else if kd=3 then [116,114,117,101] else if kd=4 then [102,97,108,115,101]
 else if kd=5 then [110,117,108,108] else if kd=6 then [110,97,109,101] else if kd=7 then [99,97,108,108] else if kd=9 then [97,114,114,97,121]
 else if kd=10 then [108,101,110] else if kd=11 then [112,117,115,104] else if kd=12 then [105,110,100,101,120] else if kd=13 then [33]
 else if kd=14 then [110,101,103] else if kd=20 then [102,110] else if kd=21 then [108,101,116] else if kd=22 then [105,102]
 else if kd=23 then [119,104,105,108,101] else if kd=24 then [114,101,116,117,114,110] else if kd=25 then [98,114,101,97,107]
 else if kd=26 then [99,111,110,116,105,110,117,101] else if kd=27 then [112,114,105,110,116] else if kd=28 then [115,101,116]
 else if kd=29 then [112,117,116] else if kd=30 then [100,111] else if kd=31\/kd=32 then [98,108,111,99,107] else spell (kd-100)
def Pn(kd:Nat):Bool:=kd !=30&&kd !=31&&kd !=32
def Hv(kd:Nat):Bool:=kd==2||kd==6||kd==7||kd==20||kd==21||kd==28
def C1(D:Nat->Prop)(w:World)(e:TypeId)(size:Nat)(v:Value)(n:Nat)(cs:List Value):Prop:=w.ownsRow 0 e size v n cs/\∀g,v.ownBlock=some g->D g
def Ak(D:Nat->Prop)(w:World):BT A2->List Value->Prop
 | .nil,cs=>cs=[]
 | .node _ _ lab ch sib,cs=>
  if lab.kd=8 then ∃c1 c2,cs=c1++c2/\Ak D w ch c1/\Ak D w sib c2
  else ∃(ln nn:Int) (S:List UInt8) (v pv:Value) (c1 c2:List Value),(∃va vn vc pa pn pc,v=.slice va vn vc/\pv=.slice pa pn pc)/\
   cs=.string ⟨(Dy lab.kd).toArray⟩::.int .i64 ln::.string ⟨S.toArray⟩::.int .i64 nn::v::pv::c2/\
   (Pn lab.kd=true->ln=lab.line)/\(Hv lab.kd=true->S=lab.s)/\(lab.kd=1->nn=lab.n)/\(lab.kd=12->∃a n,v=.slice a n n)/\
   C1 D w 77 6 v (A8 ch) c1/\Ak D w ch c1/\
   (lab.kd=20->∃xs:List (Tk×List UInt8),C1 D w 174 4 pv xs.length (Jc xs)/\xs.map (fun x=>(x.1.line,x.2))=lab.ps)/\
   Ak D w sib c2
theorem C1.keep{D D':Nat->Prop}{w w':World}{e:TypeId}{size:Nat}{v:Value}{n:Nat}{cs:List Value}(h:C1 D w e size v n cs)
  (hk:∀g,D g->g<w.heap.size->w'.heap[g]?=w.heap[g]?/\D' g):C1 D' w' e size v n cs:=
 ⟨Bb h.1 fun g hg hl=>(hk g (h.2 g hg) hl).1,fun g hg=>(hk g (h.2 g hg) (Ca h.1 g hg)).2⟩
theorem Ak.keep{D D':Nat->Prop}{w w':World}(hk:∀g,D g->g<w.heap.size->w'.heap[g]?=w.heap[g]?/\D' g):∀(f:BT A2) (cs:List Value),Ak D w f cs->Ak D' w' f cs:=by
 intro f;induction f with
 | nil=>intro cs h;exact h
 | node x y lab ch sib C2 Bl=>
  intro cs h;rw[Ak]at h ⊢;split at h
  ·rename_i h8;rw[if_pos h8];obtain⟨c1,c2,rfl,h1,h2⟩:=h;exact⟨c1,c2,rfl,C2 c1 h1,Bl c2 h2⟩
  ·rename_i h8;rw[if_neg h8];obtain⟨ln,nn,S,v,pv,c1,c2,hv,rfl,h1,h2,h3,h12,h4,h5,h6,h7⟩:=h;refine⟨ln,nn,S,v,pv,c1,c2,hv,rfl,h1,h2,h3,h12,h4.keep hk,C2 c1 h5,fun e=>?_,Bl c2 h7⟩;obtain⟨xs,k1,k2⟩:=h6 e;exact⟨xs,k1.keep hk,k2⟩
theorem Ak.app{D:Nat->Prop}{w:World}:∀(f g:BT A2) (c1 c2:List Value),Ak D w f c1->Ak D w g c2->Ak D w (B6 f g) (c1++c2):=by
 intro f;induction f with
 | nil=>intro g c1 c2 h1 h2;rw[Ak]at h1;subst h1;exact h2
 | node x y lab ch sib C2 Bl=>
  intro g c1 c2 h1 h2;rw[Ak]at h1;rw[B6,Ak];split at h1
  ·rename_i h8;rw[if_pos h8];obtain⟨d1,d2,rfl,k1,k2⟩:=h1;exact⟨d1,d2++c2,by simp,k1,Bl g d2 c2 k2 h2⟩
  ·rename_i h8;rw[if_neg h8];obtain⟨ln,nn,S,v,pv,d1,d2,hv,rfl,k1,k2,k3,k12,k4,k5,k6,k7⟩:=h1;exact⟨ln,nn,S,v,pv,d1,d2++c2,hv,by simp,k1,k2,k3,k12,k4,k5,k6,Bl g d2 c2 k7 h2⟩
structure Sp (xs : List (Tk × List UInt8)) : Prop where
 ok:U6 xs
 few:xs.length<=100000
 last:∀i (h:i<xs.length),xs[i].1.k=0↔i+1=xs.length
 line:∀x∈xs,1<=x.1.line/\x.1.line<=100000/\x.1.k<=40
structure Dc (b tb cap te : Nat) (xs : List (Tk × List UInt8)) (w : World) (s : PS) (pl : Nat) : Prop where
 toks:Sp xs
 rd:w.heap[b]?=some (.cells #[.slice (some ⟨tb,0,none⟩) xs.length cap,.int .i64 pl,.int .i64 s.bad] te (0,0))
 tok:∃cur,w.heap[tb]?=some (.cells cur 174 (0,0))/\cur.toList.take (xs.length*4)=Jc xs
 ne:tb≠b
 lt:pl<xs.length
 cap:xs.length<=cap
 good:s.bad=0->s.ts=(xs.drop pl).map (·.1)
 bad:s.bad≠0->s.ts=[Iq]/\s.bad<=100000
end
section
open Go.RowKit
variable {b tb cap te:Nat}{xs:List (Tk×List UInt8)}{w:World}{s:PS}{pl:Nat}
theorem U5(xs:List (Tk×List UInt8)):∀(i j:Nat) (h:i<xs.length),j<4->(Jc xs)[i*4+j]?=(H9 xs[i])[j]?:=by
 induction xs with
 | nil=>intro i j h;simp at h
 | cons x r ih=>
  intro i j h hj;have e:Jc (x::r)=H9 x++Jc r:=by simp[Jc]
  rw[e];have hl:(H9 x).length=4:=rfl;cases i with
  | zero=>rw[List.getElem?_append_left (by omega)];simp
  | succ i=>
   rw[List.getElem?_append_right (by omega),hl,show(i+1)*4+j-4=i*4+j by omega];exact ih i j (by simpa using h) hj
theorem Ce{w:World}{g:Nat}{cs:Array Value}{t:TypeId}(h:w.heap[g]?=some (.cells cs t (0,0)))(o:Nat):w.frozen? ⟨g,o,none⟩=false:=by
 simp[World.frozen?,h]
theorem Ac{w:World}{g:Nat}{cs:Array Value}{t:TypeId}{fr:Nat×Nat}(h:w.heap[g]?=some (.cells cs t fr))(o:Nat)(u:Value)(hu:cs[o]?=some u):w.cell? ⟨g,o,none⟩=some u:=by
 rw[cell_of_row w g o cs t fr h];exact hu
theorem Dc.cells(h:Dc b tb cap te xs w s pl) :
  w.cell? ⟨b,0,none⟩=some (.slice (some ⟨tb,0,none⟩) xs.length cap)/\w.cell? ⟨b,1,none⟩=some (.int .i64 pl)/\w.cell? ⟨b,2,none⟩=some (.int .i64 s.bad):=
 ⟨Ac h.rd 0 _ rfl,Ac h.rd 1 _ rfl,Ac h.rd 2 _ rfl⟩
theorem Dc.L6(h:Dc b tb cap te xs w s pl)(i j:Nat)(hi:i<xs.length)(hj:j<4) :
  w.cell? ⟨tb,i*4+j,none⟩=(H9 xs[i])[j]?:=by
 obtain⟨cur,h1,h2⟩:=h.tok;rw[cell_of_row w tb (i*4+j) cur _ _ h1,←U5 xs i j hi hj,←h2,List.getElem?_take,if_pos (by omega),Array.getElem?_toList]
theorem Dc.below{b tb cap te:Nat}{xs:List (Tk×List UInt8)}{w w':World}{s:PS}{pl:Nat}(h:Dc b tb cap te xs w s pl)(hb:Below w.heap.size w w'):Dc b tb cap te xs w' s pl:=by
 obtain⟨cur,h1,h2⟩:=h.tok;exact⟨h.toks,(hb.block b (A5 h.rd)).trans h.rd,⟨cur,(hb.block tb (A5 h1)).trans h1,h2⟩,h.ne,h.lt,h.cap,h.good,h.bad⟩
theorem Dc.hd(h:Dc b tb cap te xs w s pl)(h0:s.bad=0):A6 s=(xs[pl]'h.lt).1:=by
 unfold A6;rw[h.good h0,List.drop_eq_getElem_cons h.lt];rfl
theorem U4(x:Tk×List UInt8):(H9 x).toArray=#[.int .u8 (Bz x.1.k),.string ⟨x.2.toArray⟩,.int .i64 x.1.n,.int .i64 (x.1.line:Nat)]:=rfl
end
section
open Go.RowKit
variable {b tb cap te:Nat}{xs:List (Tk×List UInt8)}{w:World}{s:PS}
theorem heap_set{w:World}{b j:Nat}{cs:Array Value}{t:TypeId}{fr:Nat×Nat}(h:w.heap[b]?=some (.cells cs t fr))(u:Value):(w.setCell ⟨b,j,none⟩ u).heap[b]?=some (.cells (cs.setIfInBounds j u) t fr):=by
 simp[World.setCell,Array.getElem?_modify,h]
theorem Dc.of_heap{b tb cap te:Nat}{xs:List (Tk×List UInt8)}{w w':World}{s:PS}{pl:Nat}(h:Dc b tb cap te xs w s pl)(h1:w'.heap[b]?=w.heap[b]?)(h2:w'.heap[tb]?=w.heap[tb]?):Dc b tb cap te xs w' s pl:=by
 obtain⟨cur,k1,k2⟩:=h.tok;exact⟨h.toks,h1.trans h.rd,⟨cur,h2.trans k1,k2⟩,h.ne,h.lt,h.cap,h.good,h.bad⟩
theorem Dc.drew{pl:Nat}(h:Dc b tb cap te xs w s pl):Dc b tb cap te xs w.drew s pl:=h.of_heap rfl rfl
theorem Dc.Ab3{pl:Nat}(h:Dc b tb cap te xs w s pl)(h0:s.bad=0)(ln:Nat)(hl:ln=(A6 s).line) :
  Dc b tb cap te xs (w.setCell ⟨b,2,none⟩ (.int .i64 (ln:Nat))) (Cm s) pl:=by
 obtain⟨cur,k1,k2⟩:=h.tok;subst hl;have hline:=h.toks.line _ (List.getElem_mem h.lt);rw[←h.hd h0]at hline;have hf:Cm s=⟨[Iq],(A6 s).line⟩:=by unfold Cm;rw[if_pos h0]
 rw[hf];exact⟨h.toks,heap_set h.rd _,⟨cur,(Below.heap_setCell _ _ _ _ h.ne).trans k1,k2⟩,h.ne,h.lt,h.cap,(fun e=>by simp only at e;omega),(fun _=>⟨rfl,hline.2.1⟩)⟩
theorem Dc.E7{pl:Nat}(h:Dc b tb cap te xs w s pl)(hk:kT s≠0):s.bad=0/\pl+1<xs.length:=by
 by_cases h0:s.bad=0
 ·refine⟨h0,?_⟩;have:=h.toks.last pl h.lt;unfold kT at hk;rw[h.hd h0]at hk;have hlt:=h.lt;have hne:pl+1≠xs.length:=fun e=>hk (this.2 e);omega
 ·exfalso;apply hk;unfold kT A6;rw[(h.bad h0).1];rfl
theorem Dc.move{pl:Nat}(h:Dc b tb cap te xs w s pl)(hk:kT s≠0)(q:Int)(hq:q=(pl:Int)+1) :
  Dc b tb cap te xs (w.setCell ⟨b,1,none⟩ (.int .i64 q)) (Aa s) (pl+1):=by
 obtain⟨cur,k1,k2⟩:=h.tok;obtain⟨h0,hlt⟩:=h.E7 hk;subst hq;have ht:Aa s=⟨s.ts.tail,s.bad⟩:=by unfold Aa;rw[if_neg hk]
 rw[ht];refine⟨h.toks,?_,⟨cur,(Below.heap_setCell _ _ _ _ h.ne).trans k1,k2⟩,h.ne,hlt,h.cap,(fun _=>?_),(fun e=>absurd h0 e)⟩
 ·rw[heap_set h.rd];simp
 ·show s.ts.tail=_;rw[h.good h0,List.drop_eq_getElem_cons h.lt];rfl
theorem Wy{pl:Nat}(h:Dc b tb cap te xs w s pl):s.bad<=100000:=by
 by_cases h0:s.bad=0
 ·omega
 ·exact(h.bad h0).2
theorem Ci{w:World}{g:Nat}{a0 a1 a2 a3:Value}{t:TypeId}(h:w.heap[g]?=some (.cells #[a0,a1,a2,a3] t (0,0))) :
  w.cell? ⟨g,0,none⟩=some a0/\w.cell? ⟨g,1,none⟩=some a1/\w.cell? ⟨g,2,none⟩=some a2/\w.cell? ⟨g,3,none⟩=some a3/\(∀o,w.frozen? ⟨g,o,none⟩=false)/\g<w.heap.size:=
 ⟨Ac h 0 _ rfl,Ac h 1 _ rfl,Ac h 2 _ rfl,Ac h 3 _ rfl,Ce h,A5 h⟩
theorem As{w:World}{g:Nat}{a0 a1 a2 a3 a4 a5:Value}{t:TypeId}(h:w.heap[g]?=some (.cells #[a0,a1,a2,a3,a4,a5] t (0,0))) :
  w.cell? ⟨g,0,none⟩=some a0/\w.cell? ⟨g,1,none⟩=some a1/\w.cell? ⟨g,2,none⟩=some a2/\w.cell? ⟨g,3,none⟩=some a3/\w.cell? ⟨g,4,none⟩=some a4/\w.cell? ⟨g,5,none⟩=some a5/\(∀o,w.frozen? ⟨g,o,none⟩=false)/\g<w.heap.size:=
 ⟨Ac h 0 _ rfl,Ac h 1 _ rfl,Ac h 2 _ rfl,Ac h 3 _ rfl,Ac h 4 _ rfl,Ac h 5 _ rfl,Ce h,A5 h⟩
theorem A1.blk{b:Nat}{w w':World}(h:A1 b w w'){g:Nat}{o:Obj}(hg:w.heap[g]?=some o)(hb:g≠b):w'.heap[g]?=some o:=(h.block g (A5 hg) hb).trans hg
theorem Bg{w w':World}(h:Below w.heap.size w w'){g:Nat}{o:Obj}(hg:w.heap[g]?=some o):w'.heap[g]?=some o:=(h.block g (A5 hg)).trans hg
theorem alloc_old{w:World}{g:Nat}{o o':Obj}(hg:w.heap[g]?=some o):(w.alloc o').heap[g]?=some o:=(Below.heap_alloc w o' g (A5 hg)).trans hg
theorem Cn{w:World}{g:Nat}{o:Obj}{p:Addr}{u:Value}(hg:w.heap[g]?=some o)(hp:g≠p.block):(w.setCell p u).heap[g]?=some o:=(Below.heap_setCell w p u g hp).trans hg
theorem Dc.alloc{pl:Nat}(h:Dc b tb cap te xs w s pl)(o:Obj):Dc b tb cap te xs (w.alloc o) s pl:=h.below ((Below.refl _ _).alloc (Nat.le_refl _) _)
theorem Dc.Mx{pl:Nat}(h:Dc b tb cap te xs w s pl):tb<w.heap.size:=by
 obtain⟨cur,k1,_⟩:=h.tok;exact A5 k1
theorem Dc.other{pl:Nat}(h:Dc b tb cap te xs w s pl){p:Addr}(h1:b≠p.block)(h2:tb≠p.block)(u:Value):Dc b tb cap te xs (w.setCell p u) s pl:=
 h.of_heap (Below.heap_setCell _ _ _ _ h1) (Below.heap_setCell _ _ _ _ h2)
def RS(b tb cap te:Nat)(xs:List (Tk×List UInt8))(w:World)(s:PS):Prop:=∃pl,Dc b tb cap te xs w s pl
theorem RS.alloc(h:RS b tb cap te xs w s)(o:Obj):RS b tb cap te xs (w.alloc o) s:=by
 obtain⟨pl,h⟩:=h;exact⟨pl,h.alloc o⟩
theorem RS.drew(h:RS b tb cap te xs w s):RS b tb cap te xs w.drew s:=by
 obtain⟨pl,h⟩:=h;exact⟨pl,h.drew⟩
theorem RS.other(h:RS b tb cap te xs w s){p:Addr}(h1:b≠p.block)(h2:tb≠p.block)(u:Value):RS b tb cap te xs (w.setCell p u) s:=by
 obtain⟨pl,h⟩:=h;exact⟨pl,h.other h1 h2 u⟩
theorem RS.lt(h:RS b tb cap te xs w s):b<w.heap.size/\tb<w.heap.size/\tb≠b:=by
 obtain⟨pl,h⟩:=h;exact⟨A5 h.rd,h.Mx,h.ne⟩
theorem A1.Hp{b:Nat}{x w:World}(h:A1 b x w){g:Nat}(hg:x.heap.size<=g)(u0 u1 u2 u3:Value):A1 b x ((((w.setCell ⟨g,0,none⟩ u0).setCell ⟨g,1,none⟩ u1).setCell ⟨g,2,none⟩ u2).setCell ⟨g,3,none⟩ u3):=(A1.set (p:=⟨g,3,none⟩) (A1.set (p:=⟨g,2,none⟩) (A1.set (p:=⟨g,1,none⟩) (A1.set (p:=⟨g,0,none⟩) h (.inr hg) u0) (.inr hg) u1) (.inr hg) u2) (.inr hg) u3)
theorem RS.Tb(h:RS b tb cap te xs w s){g:Nat}(h1:b≠g)(h2:tb≠g)(u0 u1 u2 u3:Value):RS b tb cap te xs ((((w.setCell ⟨g,0,none⟩ u0).setCell ⟨g,1,none⟩ u1).setCell ⟨g,2,none⟩ u2).setCell ⟨g,3,none⟩ u3) s:=(RS.other (p:=⟨g,3,none⟩) (RS.other (p:=⟨g,2,none⟩) (RS.other (p:=⟨g,1,none⟩) (RS.other (p:=⟨g,0,none⟩) h h1 h2 u0) h1 h2 u1) h1 h2 u2) h1 h2 u3)
theorem Tv{w:World}{k g:Nat}{o:Obj}(hg:w.heap[k]?=some o)(hp:k≠g)(u0 u1 u2 u3:Value):((((w.setCell ⟨g,0,none⟩ u0).setCell ⟨g,1,none⟩ u1).setCell ⟨g,2,none⟩ u2).setCell ⟨g,3,none⟩ u3).heap[k]?=some o:=(Cn (p:=⟨g,3,none⟩) (Cn (p:=⟨g,2,none⟩) (Cn (p:=⟨g,1,none⟩) (Cn (p:=⟨g,0,none⟩) hg hp) hp) hp) hp)
theorem Ab2{w:World}{g:Nat}{z0 z1 z2 z3:Value}{t:TypeId}{fr:Nat×Nat}(hg:w.heap[g]?=some (.cells #[z0,z1,z2,z3] t fr))(u0 u1 u2 u3:Value):((((w.setCell ⟨g,0,none⟩ u0).setCell ⟨g,1,none⟩ u1).setCell ⟨g,2,none⟩ u2).setCell ⟨g,3,none⟩ u3).heap[g]?=some (.cells #[u0,u1,u2,u3] t fr):=by
 have:=(heap_set (j:=3) (heap_set (j:=2) (heap_set (j:=1) (heap_set (j:=0) hg u0) u1) u2) u3);simpa using this
theorem A1.Of{b:Nat}{x w:World}(h:A1 b x w){g:Nat}(hg:x.heap.size<=g)(u0 u1 u2 u3 u4 u5:Value):A1 b x ((((((w.setCell ⟨g,0,none⟩ u0).setCell ⟨g,1,none⟩ u1).setCell ⟨g,2,none⟩ u2).setCell ⟨g,3,none⟩ u3).setCell ⟨g,4,none⟩ u4).setCell ⟨g,5,none⟩ u5):=(A1.set (p:=⟨g,5,none⟩) (A1.set (p:=⟨g,4,none⟩) (A1.set (p:=⟨g,3,none⟩) (A1.set (p:=⟨g,2,none⟩) (A1.set (p:=⟨g,1,none⟩) (A1.set (p:=⟨g,0,none⟩) h (.inr hg) u0) (.inr hg) u1) (.inr hg) u2) (.inr hg) u3) (.inr hg) u4) (.inr hg) u5)
theorem RS.Od(h:RS b tb cap te xs w s){g:Nat}(h1:b≠g)(h2:tb≠g)(u0 u1 u2 u3 u4 u5:Value):RS b tb cap te xs ((((((w.setCell ⟨g,0,none⟩ u0).setCell ⟨g,1,none⟩ u1).setCell ⟨g,2,none⟩ u2).setCell ⟨g,3,none⟩ u3).setCell ⟨g,4,none⟩ u4).setCell ⟨g,5,none⟩ u5) s:=(RS.other (p:=⟨g,5,none⟩) (RS.other (p:=⟨g,4,none⟩) (RS.other (p:=⟨g,3,none⟩) (RS.other (p:=⟨g,2,none⟩) (RS.other (p:=⟨g,1,none⟩) (RS.other (p:=⟨g,0,none⟩) h h1 h2 u0) h1 h2 u1) h1 h2 u2) h1 h2 u3) h1 h2 u4) h1 h2 u5)
theorem Sd{w:World}{k g:Nat}{o:Obj}(hg:w.heap[k]?=some o)(hp:k≠g)(u0 u1 u2 u3 u4 u5:Value):((((((w.setCell ⟨g,0,none⟩ u0).setCell ⟨g,1,none⟩ u1).setCell ⟨g,2,none⟩ u2).setCell ⟨g,3,none⟩ u3).setCell ⟨g,4,none⟩ u4).setCell ⟨g,5,none⟩ u5).heap[k]?=some o:=(Cn (p:=⟨g,5,none⟩) (Cn (p:=⟨g,4,none⟩) (Cn (p:=⟨g,3,none⟩) (Cn (p:=⟨g,2,none⟩) (Cn (p:=⟨g,1,none⟩) (Cn (p:=⟨g,0,none⟩) hg hp) hp) hp) hp) hp) hp)
theorem W6{w:World}{g:Nat}{z0 z1 z2 z3 z4 z5:Value}{t:TypeId}{fr:Nat×Nat}(hg:w.heap[g]?=some (.cells #[z0,z1,z2,z3,z4,z5] t fr))(u0 u1 u2 u3 u4 u5:Value):((((((w.setCell ⟨g,0,none⟩ u0).setCell ⟨g,1,none⟩ u1).setCell ⟨g,2,none⟩ u2).setCell ⟨g,3,none⟩ u3).setCell ⟨g,4,none⟩ u4).setCell ⟨g,5,none⟩ u5).heap[g]?=some (.cells #[u0,u1,u2,u3,u4,u5] t fr):=by
 have:=(heap_set (j:=5) (heap_set (j:=4) (heap_set (j:=3) (heap_set (j:=2) (heap_set (j:=1) (heap_set (j:=0) hg u0) u1) u2) u3) u4) u5);simpa using this
theorem Hq{w:World}{k g:Nat}(hp:k≠g)(u0 u1 u2 u3:Value):((((w.setCell ⟨g,0,none⟩ u0).setCell ⟨g,1,none⟩ u1).setCell ⟨g,2,none⟩ u2).setCell ⟨g,3,none⟩ u3).heap[k]?=w.heap[k]?:=by
 rw[Below.heap_setCell _ _ _ _ (by exact hp)];rw[Below.heap_setCell _ _ _ _ (by exact hp)];rw[Below.heap_setCell _ _ _ _ (by exact hp)];rw[Below.heap_setCell _ _ _ _ (by exact hp)]
theorem Nv{w:World}{k g:Nat}(hp:k≠g)(u0 u1 u2 u3 u4 u5:Value):((((((w.setCell ⟨g,0,none⟩ u0).setCell ⟨g,1,none⟩ u1).setCell ⟨g,2,none⟩ u2).setCell ⟨g,3,none⟩ u3).setCell ⟨g,4,none⟩ u4).setCell ⟨g,5,none⟩ u5).heap[k]?=w.heap[k]?:=by
 rw[Below.heap_setCell _ _ _ _ (by exact hp)];rw[Below.heap_setCell _ _ _ _ (by exact hp)];rw[Below.heap_setCell _ _ _ _ (by exact hp)];rw[Below.heap_setCell _ _ _ _ (by exact hp)];rw[Below.heap_setCell _ _ _ _ (by exact hp)];rw[Below.heap_setCell _ _ _ _ (by exact hp)]
end
end Go.Proofs.YtjdlndhfaaolaaaGreatDoor
