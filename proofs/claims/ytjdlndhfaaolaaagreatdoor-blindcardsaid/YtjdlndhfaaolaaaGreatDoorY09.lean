import Derived.Test.YtjdlndhfaaolaaaGreatDoorY02
import Derived.Test.YtjdlndhfaaolaaaGreatDoorY07
set_option maxHeartbeats 20000000
set_option linter.defProp false
namespace Go.Proofs.YtjdlndhfaaolaaaGreatDoor
section
open Go.RowKit
open Go.Deep (BT)
structure A8 (b : Nat) (w w' : World) : Prop where
 os:w'.os=w.os
 tape:w'.tape=w.tape
 output:w'.output=w.output
 size:w.heap.size<=w'.heap.size
 block:∀k,k<w.heap.size->k≠b->w'.heap[k]?=w.heap[k]?
def A8.refl(b:Nat)(w:World):A8 b w w:=⟨rfl,rfl,rfl,Af _,fun _ _ _=>rfl⟩
def A8.trans{b:Nat}{x y z:World}(h:A8 b x y)(k:A8 b y z):A8 b x z:=
 ⟨k.os.trans h.os,k.tape.trans h.tape,k.output.trans h.output,Fu h.size k.size,fun i hi hb=>(k.block i (Cb hi h.size) hb).trans (h.block i hi hb)⟩
def Below.only{b:Nat}{w w':World}(h:Bw w w'):A8 b w w':=⟨h.os,h.tape,h.output,h.size,fun k hk _=>h.block k hk⟩
def A8.drew{b:Nat}{x w:World}(h:A8 b x w):A8 b x w.drew:=⟨h.os,h.tape,h.output,h.size,h.block⟩
def A8.alloc{b:Nat}{x w:World}(h:A8 b x w)(o:Obj):A8 b x (w.alloc o):=
 h.trans ⟨rfl,rfl,rfl,by simp,fun k hk _=>Ck _ _ _ hk⟩
def A8.set{b:Nat}{x w:World}(h:A8 b x w){p:Addr}(hp:p.block=b\/x.heap.size<=p.block)(u:Value):A8 b x (w.setCell p u):=
 ⟨h.os,h.tape,h.output,by simp[World.setCell];exact h.size,fun k hk hb=>(Bh _ _ _ _ (by rcases hp with e|e <;> omega)).trans (h.block k hk hb)⟩
def A8.grown{b:Nat}{x w w':World}{row:Option Nat}(h:A8 b x w)(hg:w.grownBy w' row)(hr:∀k,row=some k->k=b\/x.heap.size<=k):A8 b x w':=
 ⟨hg.os.trans h.os,hg.tape.trans h.tape,hg.output.trans h.output,Fu h.size hg.size,fun k hk hb=>(hg.block k (Cb hk h.size) (fun e=>by rcases hr k e.symm with e|e <;> omega)).trans (h.block k hk hb)⟩
def Dj(D:Nat->Prop)(w:World)(e:TypeId)(size:Nat)(v:Value)(n:Nat)(cs:List Value):Prop:=w.ownsRow 0 e size v n cs/\∀g,v.ownBlock=some g->D g
def Dj.keep{D D':Nat->Prop}{w w':World}{e:TypeId}{size:Nat}{v:Value}{n:Nat}{cs:List Value}(h:Dj D w e size v n cs)
  (hk:∀g,D g->g<w.heap.size->w'.heap[g]?=w.heap[g]?/\D' g):Dj D' w' e size v n cs:=
 ⟨Bc h.1 fun g hg hl=>(hk g (h.2 g hg) hl).1,fun g hg=>(hk g (h.2 g hg) (Bs h.1 g hg)).2⟩
end
section
open Go.RowKit
def By{w:World}{g:Nat}{cs:Array Value}{t:TypeId}(h:w.heap[g]?=some (.cells cs t (0,0)))(o:Nat):w.frozen? ⟨g,o,none⟩=false:=by
 simp[World.frozen?,h]
def A4{w:World}{g:Nat}{cs:Array Value}{t:TypeId}{fr:Nat×Nat}(h:w.heap[g]?=some (.cells cs t fr))(o:Nat)(u:Value)(hu:cs[o]?=some u):w.cell? ⟨g,o,none⟩=some u:=by
 rw[K2 w g o cs t fr h];exact hu
def heap_set{w:World}{b j:Nat}{cs:Array Value}{t:TypeId}{fr:Nat×Nat}(h:w.heap[b]?=some (.cells cs t fr))(u:Value):(w.setCell ⟨b,j,none⟩ u).heap[b]?=some (.cells (cs.setIfInBounds j u) t fr):=by
 simp[World.setCell,Array.getElem?_modify,h]
def Eo{w:World}{g:Nat}{a0 a1 a2 a3:Value}{t:TypeId}(h:w.heap[g]?=some (.cells #[a0,a1,a2,a3] t (0,0))) :
  w.cell? ⟨g,0,none⟩=some a0/\w.cell? ⟨g,1,none⟩=some a1/\w.cell? ⟨g,2,none⟩=some a2/\w.cell? ⟨g,3,none⟩=some a3/\(∀o,w.frozen? ⟨g,o,none⟩=false)/\g<w.heap.size:=
 ⟨A4 h 0 _ rfl,A4 h 1 _ rfl,A4 h 2 _ rfl,A4 h 3 _ rfl,By h,A6 h⟩
def Xr{w:World}{g:Nat}{a0 a1 a2 a3 a4 a5:Value}{t:TypeId}(h:w.heap[g]?=some (.cells #[a0,a1,a2,a3,a4,a5] t (0,0))) :
  w.cell? ⟨g,0,none⟩=some a0/\w.cell? ⟨g,1,none⟩=some a1/\w.cell? ⟨g,2,none⟩=some a2/\w.cell? ⟨g,3,none⟩=some a3/\w.cell? ⟨g,4,none⟩=some a4/\w.cell? ⟨g,5,none⟩=some a5/\(∀o,w.frozen? ⟨g,o,none⟩=false)/\g<w.heap.size:=
 ⟨A4 h 0 _ rfl,A4 h 1 _ rfl,A4 h 2 _ rfl,A4 h 3 _ rfl,A4 h 4 _ rfl,A4 h 5 _ rfl,By h,A6 h⟩
def A8.blk{b:Nat}{w w':World}(h:A8 b w w'){g:Nat}{o:Obj}(hg:w.heap[g]?=some o)(hb:g≠b):w'.heap[g]?=some o:=(h.block g (A6 hg) hb).trans hg
def Gn{w w':World}(h:Bw w w'){g:Nat}{o:Obj}(hg:w.heap[g]?=some o):w'.heap[g]?=some o:=(h.block g (A6 hg)).trans hg
def alloc_old{w:World}{g:Nat}{o o':Obj}(hg:w.heap[g]?=some o):(w.alloc o').heap[g]?=some o:=(Ck w o' g (A6 hg)).trans hg
def A92{w:World}{g:Nat}{o:Obj}{p:Addr}{u:Value}(hg:w.heap[g]?=some o)(hp:g≠p.block):(w.setCell p u).heap[g]?=some o:=(Bh w p u g hp).trans hg
def A8.Jm{b:Nat}{x w:World}(h:A8 b x w){g:Nat}(hg:x.heap.size<=g)(u0 u1 u2 u3:Value):A8 b x ((((w.setCell ⟨g,0,none⟩ u0).setCell ⟨g,1,none⟩ u1).setCell ⟨g,2,none⟩ u2).setCell ⟨g,3,none⟩ u3):=(A8.set (p:=⟨g,3,none⟩) (A8.set (p:=⟨g,2,none⟩) (A8.set (p:=⟨g,1,none⟩) (A8.set (p:=⟨g,0,none⟩) h (.inr hg) u0) (.inr hg) u1) (.inr hg) u2) (.inr hg) u3)
def Iy{w:World}{k g:Nat}(hp:k≠g)(u0 u1 u2 u3:Value):((((w.setCell ⟨g,0,none⟩ u0).setCell ⟨g,1,none⟩ u1).setCell ⟨g,2,none⟩ u2).setCell ⟨g,3,none⟩ u3).heap[k]?=w.heap[k]?:=by
 rw[Bh _ _ _ _ (by exact hp)];rw[Bh _ _ _ _ (by exact hp)];rw[Bh _ _ _ _ (by exact hp)];rw[Bh _ _ _ _ (by exact hp)]
end
section
def T2(k:Nat):List UInt8->Option (Tk×Nat)
 | []=>some (⟨0,0,[],0⟩,k)
 | c::r=>(Fq (c::r)).map fun x=>(x.1,k+x.2)
def Gs(l:List UInt8):Nat×Option (Tk×Nat):=((Bg false l).2.1,if(Bg false l).2.2 then T2 (Bg false l).1 (l.drop (Bg false l).1) else none)
def Pq(acc:List Tk):Nat ⊕ List Tk->Nat ⊕ List Tk
 | .inl n=>.inl n
 | .inr ts=>.inr (acc++ts)
def Aov(x:Nat ⊕ List Tk):Pq [] x=x:=by cases x <;> rfl
def Aou(a b:List Tk)(x:Nat ⊕ List Tk):Pq a (Pq b x)=Pq (a++b) x:=by cases x <;> simp[Pq]
def Avg{c:UInt8}(r:List UInt8)(h:Ja c=false):Fq (c::r)=none:=by
 have hn:¬(32<=c.toNat/\c.toNat<=126):=by
  intro e;rw[Ja,Sa e.1,Sa e.2]at h;cases h
 have hd:E5 c=false:=by
  rw[E5];by_cases h1:48<=c.toNat
  ·rw[O2 (show ¬c.toNat<=57 by omega)];simp
  ·rw[O2 h1];rfl
 have hl:isLet c=false:=by
  rw[isLet];rw[Zb];constructor
  ·by_cases h1:97<=c.toNat
   ·rw[O2 (show ¬c.toNat<=122 by omega)];simp
   ·rw[O2 h1];rfl
  ·by_cases h1:65<=c.toNat
   ·rw[O2 (show ¬c.toNat<=90 by omega)];simp
   ·rw[O2 h1];rfl
 have hc:∀d:UInt8,32<=d.toNat->d.toNat<=126->(c==d)=false:=by
  intro d h1 h2;rw[Am];intro e;subst e;exact hn ⟨h1,h2⟩
 have Ax:K1 c=0:=by
  unfold K1;simp only[hc 40 z4oa z4oa,hc 41 z4oa z4oa,hc 123 z4oa z4oa,hc 125 z4oa z4oa,hc 91 z4oa z4oa,hc 93 z4oa z4oa,hc 44 z4oa z4oa,hc 59 z4oa z4oa,hc 61 z4oa z4oa,hc 33 z4oa z4oa,hc 60 z4oa z4oa,hc 62 z4oa z4oa,hc 43 z4oa z4oa,hc 45 z4oa z4oa,hc 42 z4oa z4oa,hc 47 z4oa z4oa,hc 37 z4oa z4oa,Py,Oq]
 have Bj:∀d,Mk c d=0:=by
  intro d;unfold Mk;simp only[hc 61 z4oa z4oa,hc 33 z4oa z4oa,hc 60 z4oa z4oa,hc 62 z4oa z4oa,hc 38 z4oa z4oa,hc 124 z4oa z4oa,V2,Py,Oq]
 have hsg:(I9 (c::r))=(0,0):=by
  cases r with
  | nil=>rw[I9,Ax];rfl
  | cons d r=>rw[I9,Bj,Ax];rfl
 rw[Fq];simp only[hd,hl,hc 34 z4oa z4oa,hsg,Py,Oq];rfl
def A77:∀(l:List UInt8) (f ln:Nat) (sd:Bool),l.length<f->
  lex f l ln sd=if(Bg sd l).2.2 then lex (f-(Bg sd l).1) (l.drop (Bg sd l).1) (ln+(Bg sd l).2.1) false else .inl (ln+(Bg sd l).2.1):=by
 intro l;induction l with
 | nil=>
  intro f ln sd hf;obtain⟨f,rfl⟩:∃g,f=g+1:=⟨f-1,by simp at hf;omega⟩;cases sd <;> simp[Bg,lex]
 | cons c r ih=>
  intro f ln sd hf;obtain⟨f,rfl⟩:∃g,f=g+1:=⟨f-1,by simp at hf;omega⟩;have hf':r.length<f:=by simp at hf;omega
  rw[lex];by_cases h10:(c==10)=true
  ·rw[A7 h10];have hk:Bg sd (c::r)=((Bg false r).1+1,(Bg false r).2.1+1,(Bg false r).2.2):=by
    cases sd <;> rw[Bg,A7 h10]
   rw[hk,ih f (ln+1) false hf'];simp only[Ia,Zc,show ∀a,ln+1+a=ln+(a+1) from fun a=>by omega]
  ·rw[A1 h10];by_cases hb:(c !=9&&!(Ja c))=true
   ·rw[A7 hb];have h9:c≠9:=by intro e;subst e;exact absurd hb z4oa
    have hp:Ja c=false:=by
     cases hq:Ja c
     ·rfl
     ·rw[hq]at hb;simp at hb
    cases sd with
    | true=>rw[Bg,A1 h10,A7 hb];rfl
    | false=>
     have h32:c≠32:=by intro e;subst e;exact absurd hp z4oa
     have h47:c≠47:=by intro e;subst e;exact absurd hp z4oa
     have hk:Bg false (c::r)=(0,0,true):=A9a (by simpa using h10) h32 h9 (fun e=>h47 e.1);rw[hk];simp only[P6,Hl,Nat.sub_zero,Ma];rw[lex,A1 h10,A7 hb]
   ·rw[A1 hb];cases sd with
    | true=>
     rw[A7 z4ra,Bg,A1 h10,A1 hb];simp only[X5,Ia,Zc];exact ih f ln true hf'
    | false=>
     by_cases hs:(c==32||c==9)=true
     ·have h47:(c==47)=false:=by
       rw[Am];intro e;subst e;exact absurd hs z4oa
      rw[A7 (by simp only[Zd,Gz];simp only[Gz]at hs;rcases hs with h|h;exact .inr h;exact .inl (.inr h))];rw[Bg,A1 h10,A7 hs];simp only[h47,V2,Bool.or_false,Ia,Zc];exact ih f ln false hf'
     ·by_cases hr:(c==47&&r.head?==some 47)=true
      ·rw[A7 (by rw[hr];simp),Bg,A1 h10,A1 hs,A7 hr];simp only[hr,Zd,Ia,Zc];exact ih f ln true hf'
      ·have hk:Bg false (c::r)=(0,0,true):=by rw[Bg,A1 h10,A1 hs,A1 hr]
       rw[hk];simp only[P6,Hl,Nat.sub_zero,Ma];rw[lex,A1 h10,A1 hb]
def Am2:∀(f:Nat) (l:List UInt8) (g ln:Nat) (sd:Bool),l.length<f->l.length<g->lex f l ln sd=lex g l ln sd:=by
 intro f;induction f with
 | zero=>intro l g ln sd h;omega
 | succ f ih=>
  intro l g ln sd hf hg;obtain⟨g,rfl⟩:∃h,g=h+1:=⟨g-1,by omega⟩;cases l with
  | nil=>rw[lex,lex]
  | cons c r=>
   have h1:r.length<f:=by simp at hf;omega
   have h2:r.length<g:=by simp at hg;omega
   rw[lex,lex];split
   ·exact ih _ _ _ _ h1 h2
   split
   ·rfl
   split
   ·exact ih _ _ _ _ h1 h2
   cases ht:Fq (c::r) with
   | none=>rfl
   | some x=>
    obtain⟨t,n⟩:=x;have hn:=(Z0 c r t n ht).2.2;have hd:((c::r).drop n).length<=r.length:=by simp;omega
    simp only;rw[ih ((c::r).drop n) g ln false z4ma z4ma]
def z6ha {P:Prop} (h:P:=by simpa using hd):P:=h
def A99:∀(l:List UInt8) (sd:Bool),(Bg sd l).2.2=true->∀c r,l.drop (Bg sd l).1=c::r->c≠10/\c≠32/\c≠9/\¬(c=47/\r.head?=some 47):=by
 intro l;induction l with
 | nil=>intro sd _ c r h;simp at h
 | cons d q ih=>
  intro sd h c r hd;cases sd with
  | true=>
   rw[Bg]at h hd;split at h
   ·rename_i h1;rw[A7 h1]at hd;exact ih false h c r z6ha
   ·rename_i h1;rw[A1 h1]at hd;split at h
    ·cases h
    ·rename_i h2;rw[A1 h2]at hd;exact ih true h c r z6ha
  | false=>
   rw[Bg]at h hd;split at h
   ·rename_i h1;rw[A7 h1]at hd;exact ih false h c r z6ha
   ·rename_i h1;rw[A1 h1]at hd;split at h
    ·rename_i h2;rw[A7 h2]at hd;exact ih false h c r z6ha
    ·rename_i h2;rw[A1 h2]at hd;split at h
     ·rename_i h3;rw[A7 h3]at hd;exact ih true h c r z6ha
     ·rename_i h3;rw[A1 h3]at hd;simp only[Hl,V3]at hd;obtain⟨rfl,rfl⟩:=hd;simp only[Gz,Fh,not_or]at h2;simp only[F3,Fh]at h3;exact⟨by simpa using h1,h2.1,h2.2,h3⟩
def z5va {P:Prop} (h:P:=by simp only[Zd,Gz,F3,Fh];rintro((h|h)|h);exact h47 h;exact h9 h;exact h32 h):P:=h
def Amp(l:List UInt8)(ln:Nat)(h:(Gs l).2=none):lex (l.length+1) l ln false=.inl (ln+(Gs l).1):=by
 rw[A77 l _ ln false z4ma];have hle:=(A2b l false).1;unfold Gs at h ⊢;cases hs:(Bg false l).2.2 with
 | false=>simp
 | true=>
  simp only[hs,P6]at h ⊢;cases hd:l.drop (Bg false l).1 with
  | nil=>rw[hd,T2]at h;cases h
  | cons c r=>
   rw[hd,T2]at h;have ht:Fq (c::r)=none:=by
    cases ht:Fq (c::r) with
    | none=>rfl
    | some x=>rw[ht]at h;cases h
   obtain⟨f,hf⟩:∃f,l.length+1-(Bg false l).1=f+1:=⟨l.length-(Bg false l).1,by omega⟩;obtain⟨h10,h32,h9,h47⟩:=A99 l false hs c r hd;rw[hf,lex,A1 (by simpa using h10)];by_cases hp:Ja c=true
   ·rw[A1 (by simp[hp]),A1 z5va,ht]
   ·have hp':Ja c=false:=by simpa using hp
    rw[A7 (by simp[hp',h9])]
def Amq(l:List UInt8)(ln:Nat)(x:Tk×Nat)(h:(Gs l).2=some x):lex (l.length+1) l ln false=(if x.1.k=0 then .inr [⟨0,ln+(Gs l).1,[],0⟩] else Pq [⟨x.1.k,ln+(Gs l).1,x.1.s,x.1.n⟩] (lex ((l.drop x.2).length+1) (l.drop x.2) (ln+(Gs l).1) false))/\x.2<=l.length/\(x.1.k=0->x.1=⟨0,0,[],0⟩)/\(x.1.k≠0->1<=x.2)/\(Gs l).1<=x.2:=by
 rw[A77 l _ ln false z4ma];have hle:=A2b l false;unfold Gs at h ⊢;cases hs:(Bg false l).2.2 with
 | false=>rw[hs]at h;cases h
 | true=>
  simp only[hs,P6]at h ⊢;cases hd:l.drop (Bg false l).1 with
  | nil=>
   rw[hd,T2]at h;obtain rfl:=Dl h;have hl:l.length+1-(Bg false l).1=1:=by
    have:=N3 List.length hd;simp at this;omega
   rw[A7 rfl,hl,lex];exact⟨rfl,hle.1,fun _=>rfl,fun e=>absurd rfl e,hle.2⟩
  | cons c r=>
   have hlen:(c::r).length=l.length-(Bg false l).1:=by rw[←hd];simp
   rw[hd,T2]at h;cases ht:Fq (c::r) with
   | none=>rw[ht]at h;cases h
   | some y=>
    rw[ht]at h;obtain⟨t,n⟩:=y;obtain rfl:(t,(Bg false l).1+n)=x:=Dl h;obtain⟨k1,_,k3⟩:=Z0 c r t n ht;have hn:=Avi (c::r) t n ht;obtain⟨f,hf⟩:∃f,l.length+1-(Bg false l).1=f+1:=⟨l.length-(Bg false l).1,by omega⟩;obtain⟨h10,h32,h9,h47⟩:=A99 l false hs c r hd;refine⟨?_,by simp only;omega,fun e=>absurd e (by simp only;omega),fun _=>by simp only;omega,by simp only;omega⟩;have hp:Ja c=true:=by
     cases hp:Ja c with
     | true=>rfl
     | false=>rw[Avg r hp]at ht;cases ht
    rw[hf,lex,A1 (by simpa using h10),A1 (by simp[hp]),A1 z5va,ht];have hdn:(c::r).drop n=l.drop ((Bg false l).1+n):=by rw[←hd,Uz]
    have hll:(l.drop ((Bg false l).1+n)).length<f:=by
     simp only[Qs];simp only[Il]at hlen;omega
    simp only;rw[Ai,hdn,Am2 f _ ((l.drop ((Bg false l).1+n)).length+1) _ _ hll z4ma];cases lex ((l.drop ((Bg false l).1+n)).length+1) (l.drop ((Bg false l).1+n)) (ln+(Bg false l).2.1) false <;> rfl
end
section
open Go.Deep (BT)
def z5ga {P:Prop} (h:P:=by simpa using hj):P:=h
def A71(s:Nm):∀(l:List Nm),(∀j (h:j<l.length),l[j]≠s)->Mh s l=none:=by
 intro l;induction l with
 | nil=>intro _;rfl
 | cons x r ih=>
  intro h;have h1:=ih (fun j hj=>by have:=h (j+1) z5ga;simpa using this);have h0:=h 0 z4ra;simp only[V1]at h0;rw[Mh,h1];simp[h0]
def Alu(s:Nm):∀(l:List Nm) (i:Nat) (hi:i<l.length),l[i]=s->(∀j (h:j<l.length),i<j->l[j]≠s)->Mh s l=some i:=by
 intro l;induction l with
 | nil=>intro i hi;simp at hi
 | cons x r ih=>
  intro i hi he hn;cases i with
  | zero=>
   have h1:=A71 s r (fun j hj=>by have:=hn (j+1) z5ga z4ma;simpa using this);simp only[V1]at he;rw[Mh,h1];simp[he]
  | succ i=>
   have h1:=ih i (by simpa using hi) (by simpa using he) (fun j hj hij=>by have:=hn (j+1) z5ga z4ma;simpa using this);rw[Mh,h1]
def A64(s:Nm):∀(l:List Nm),(∀j (h:j<l.length),l[j]≠s)->Lm s l=none:=by
 intro l;induction l with
 | nil=>intro _;rfl
 | cons x r ih=>
  intro h;have h1:=ih (fun j hj=>by have:=h (j+1) z5ga;simpa using this);have h0:=h 0 z4ra;simp only[V1]at h0;rw[Lm,A1 h0,h1]
def A65(s:Nm):∀(l:List Nm) (i:Nat) (hi:i<l.length),l[i]=s->(∀j (h:j<l.length),j<i->l[j]≠s)->Lm s l=some i:=by
 intro l;induction l with
 | nil=>intro i hi;simp at hi
 | cons x r ih=>
  intro i hi he hn;cases i with
  | zero=>
   simp only[V1]at he;rw[Lm,A7 he]
  | succ i=>
   have h0:=hn 0 z4ra z4ma;simp only[V1]at h0;have h1:=ih i (by simpa using hi) (by simpa using he) (fun j hj hij=>by have:=hn (j+1) z5ga z4ma;simpa using this);rw[Lm,A1 h0,h1]
def Fg(i:Aa):List Value:=[.n i.op,.i i.arg,.n i.line,.n i.v.k,.bool i.v.y,.i i.v.n,.s i.v.t,.pointer none]
def F7(st:List Aa):List Value:=st.flatMap Fg
def Ako(a b:List Aa):F7 (a++b)=F7 a++F7 b:=by simp[F7]
def Akr(i:Aa):F7 [i]=Fg i:=by simp[F7]
def Akq(st:List Aa):(F7 st).length=st.length*8:=by
 induction st with
 | nil=>rfl
 | cons x r ih=>
  have e:F7 (x::r)=Fg x++F7 r:=by simp[F7]
  rw[e,Ds,ih];have hl:(Fg x).length=8:=rfl;rw[hl,Il];omega
def Sy(a:Int):∀(st:List Aa) (j:Nat),(Gy j a st).length=st.length:=by
 intro st;induction st with
 | nil=>intro j;cases j <;> rfl
 | cons x r ih=>
  intro j;cases j with
  | zero=>rfl
  | succ j=>rw[Gy,Il,ih,Il]
def z5qa {P:Prop} (h:P:=by simpa using h):P:=h
def Akp(a:Int):∀(st:List Aa) (j:Nat),j<st.length->F7 (Gy j a st)=(F7 st).set (j*8+1) (.i a):=by
 intro st;induction st with
 | nil=>intro j h;simp at h
 | cons x r ih=>
  intro j h;have e:F7 (x::r)=Fg x++F7 r:=by simp[F7]
  have hl:(Fg x).length=8:=rfl;cases j with
  | zero=>
   rw[Gy,e,List.set_append_left _ _ z4ma];simp[F7,Fg]
  | succ j=>
   rw[Gy,e];have e2:F7 (x::Gy j a r)=Fg x++F7 (Gy j a r):=by simp[F7]
   rw[e2,ih j z5qa,Aat _ _ z4ma,hl,show(j+1)*8+1-8=j*8+1 by omega]
def Gi:BT A5->Nat->Nat
 | .nil,_=>0
 | .node _ _ l c r,m=>if 2<=m then Gi r (m-1) else bsize (nd l c)
def A1w(m:Nat):Gi .nil m=0:=by cases m <;> rfl
def A1x(c:BT A5):Gi c 1+Gi c 2+Gi c 3<=bsize c:=by
 cases c with
 | nil=>simp[A1w]
 | node x y l c r=>
  have h1:Gi (.node x y l c r) 1=bsize (nd l c):=rfl;have h2:Gi (.node x y l c r) 2=Gi r 1:=rfl;have h3:Gi (.node x y l c r) 3=Gi r 2:=rfl;rw[h1,h2,h3,Cf];simp only[bsize];cases r with
  | nil=>simp[A1w]
  | node x y l c r=>
   have h1:Gi (.node x y l c r) 1=bsize (nd l c):=rfl;have h2:Gi (.node x y l c r) 2=Gi r 1:=rfl;rw[h1,h2,Cf];simp only[bsize];cases r with
   | nil=>simp[A1w]
   | node x y l c r=>
    have h1:Gi (.node x y l c r) 1=bsize (nd l c):=rfl;rw[h1,Cf];simp only[bsize];omega
def Ea(o:Nat)(a:Int)(ln:Nat)(e:Em):(e.step o a ln).st.length=e.st.length+1:=by simp[Em.step]
def A00(v:PV)(e:Em):(e.F5 v).st.length=e.st.length+1:=by simp[Em.F5]
def M5(j:Nat)(e:Em):(e.land j).st.length=e.st.length:=Sy _ _ _
def Yb:∀(l:List Nat) (e:Em),(e.E7 l).st.length=e.st.length:=by
 intro l;induction l with
 | nil=>intro e;rfl
 | cons j r ih=>intro e;rw[Em.E7,ih,M5]
def Aa6(gl:List Nm)(s:Nm)(a b:Nat)(e:Em):(e.var gl s a b).st.length<=e.st.length+1:=by
 unfold Em.var;split
 ·rw[Ea];exact Af _
 ·split
  ·rw[Ea];exact Af _
  ·omega
def Afs(e:Em):e.Ip.st.length<=e.st.length+1:=by
 unfold Em.Ip;split
 ·omega
 ·simp
def Agr(e:Em):e.cnt.st.length<=e.st.length+1:=by
 unfold Em.cnt;split
 ·omega
 ·rw[Ea];exact Af _
def Ai2(fns:List (Nm×Nat))(gl:List Nm)(l:A5)(n s s1 s2 s3:Nat)(k:Nat->Em->Em)(h0:∀e,(k 0 e).st.length<=e.st.length+2*s)(h1:∀e,(k 1 e).st.length<=e.st.length+2*s1)(h2:∀e,(k 2 e).st.length<=e.st.length+2*s2)(h3:∀e,(k 3 e).st.length<=e.st.length+2*s3)(hs:s1+s2+s3<=s)(e:Em) :
  (Aq fns gl l n k e).st.length<=e.st.length+2*(1+s):=by
 have g0:=h0 e;unfold Aq;split;all_goals try (first|(rw[A00];omega)|(rw[Ea];omega)|omega)
 ·have:=Aa6 gl l.s 1 2 e;omega
 ·rw[Ea];show(k 0 e).st.length+1<=_;omega
 ·unfold M3;simp only[M5];have a1:=h1 e;have a2:=h2 ((k 1 e).step 8 0 l.line);rw[Ea]at a2;split
  ·have a3:=h3 (((k 2 ((k 1 e).step 8 0 l.line)).step 6 0 0).land (k 1 e).st.length);rw[M5,Ea]at a3;omega
  ·rw[M5,Ea];omega
 ·unfold Ow;simp only[Em.close,Yb,M5,Ea];have a1:=h1 e.open';have a2:=h2 ((k 1 e.open').step 7 0 l.line);rw[Ea]at a2;have:e.open'.st.length=e.st.length:=rfl;omega
 ·split
  ·rw[Ea];omega
  ·rw[Ea];omega
 ·have:=Afs e;omega
 ·have:=Agr e;omega
 ·have:=Aa6 gl l.s 3 4 (k 0 e);omega
 ·show(k 0 e).st.length<=_;omega
 ·show(k 0 e).st.length<=_;omega
 ·split
  ·unfold Ph;simp only[M5,Ea];have a1:=h1 e;have a2:=h2 ((k 1 e).step (binOp (l.kd-100)) 0 l.line);rw[Ea]at a2;omega
  ·rw[Ea];omega
def z15a {P:Prop} (h:P:=by
  refine⟨fun e=>?_,fun m hm e=>?_⟩
  ·rw[Iq];have a1:=hN e;have a2:=C6.1 (Aq fns gl l (Aj c) (em fns gl c) e);simp only[bsize];omega
  ·by_cases h2:2<=m
   ·have e1:em fns gl (.node x y l c r) m e=em fns gl r (m-1) e:=by rw[em,A7 h2]
    have e2:Gi (.node x y l c r) m=Gi r (m-1):=by rw[Gi,A7 h2]
    rw[e1,e2];exact C6.2 (m-1) z4ma e
   ·have h1:m=1:=by omega
    subst h1;rw[Qh];have e2:Gi (.node x y l c r) 1=bsize (nd l c):=rfl;rw[e2,Cf];have:=hN e;omega):P:=h
def Ox(fns:List (Nm×Nat))(gl:List Nm):∀(c:BT A5),(∀e,(em fns gl c 0 e).st.length<=e.st.length+2*bsize c)/\(∀m,1<=m->∀e,(em fns gl c m e).st.length<=e.st.length+2*Gi c m):=by
 intro c;induction c with
 | nil=>exact⟨fun e=>by rw[em];omega,fun m _ e=>by rw[em];omega⟩
 | node x y l c r D5 C6=>
  have hN:∀e,(Aq fns gl l (Aj c) (em fns gl c) e).st.length<=e.st.length+2*(1+bsize c):=
   fun e=>Ai2 fns gl l (Aj c) (bsize c) (Gi c 1) (Gi c 2) (Gi c 3) (em fns gl c) D5.1 (D5.2 1 z4ma) (D5.2 2 z4ma) (D5.2 3 z4ma) (A1x c) e
  exact z15a
def I0(fns:List (Nm×Nat))(gl:List Nm)(l:A5)(c:BT A5)(e:Em):(Aq fns gl l (Aj c) (em fns gl c) e).st.length<=e.st.length+2*bsize (nd l c):=by
 have:=(Ox fns gl (nd l c)).1 e;rw[A5p]at this;exact this
end
section
open Go.Deep (BT)
variable {fns:List (Nm×Nat)} {gl:List Nm} {l:A5} {n:Nat} {k:Nat->Em->Em} {e:Em}
def A04(hk:l.kd=1):Aq fns gl l n k e=e.F5 ⟨2,false,l.n,[],none⟩:=by simp only[Aq,hk]
def A0a(hk:l.kd=2):Aq fns gl l n k e=e.F5 ⟨3,false,0,l.s,none⟩:=by simp only[Aq,hk]
def A0h(hk:l.kd=3):Aq fns gl l n k e=e.F5 ⟨1,true,0,[],none⟩:=by simp only[Aq,hk]
def A0k(hk:l.kd=4):Aq fns gl l n k e=e.F5 ⟨1,false,0,[],none⟩:=by simp only[Aq,hk]
def A0l(hk:l.kd=5):Aq fns gl l n k e=e.F5 Bb:=by simp only[Aq,hk]
def A0m(hk:l.kd=6):Aq fns gl l n k e=e.var gl l.s 1 2:=by simp only[Aq,hk]
def A0n(hk:l.kd=7):Aq fns gl l n k e=(k 0 e).step 42 (Lo fns l.s) l.line:=by simp only[Aq,hk]
def A0o(hk:l.kd=8):Aq fns gl l n k e=k 0 e:=by simp only[Aq,hk]
def A0p(hk:l.kd=9):Aq fns gl l n k e=(k 0 e).step 36 (n:Nat) l.line:=by simp only[Aq,hk]
def A05(hk:l.kd=10):Aq fns gl l n k e=(k 0 e).step 37 0 l.line:=by simp only[Aq,hk]
def A06(hk:l.kd=11):Aq fns gl l n k e=(k 0 e).step 38 0 l.line:=by simp only[Aq,hk]
def A07(hk:l.kd=12):Aq fns gl l n k e=(k 0 e).step 39 0 l.line:=by simp only[Aq,hk]
def A08(hk:l.kd=13):Aq fns gl l n k e=(k 0 e).step 27 0 l.line:=by simp only[Aq,hk]
def A09(hk:l.kd=14):Aq fns gl l n k e=(k 0 e).step 23 0 l.line:=by simp only[Aq,hk]
def A5j(hk:l.kd=21):Aq fns gl l n k e=((k 0 e).local' l.s).step 3 ((k 0 e).loc.length:Nat) 0:=by simp only[Aq,hk]
def Xy(hk:l.kd=22):Aq fns gl l n k e=M3 l.line n k e:=by simp only[Aq,hk]
def A0b(hk:l.kd=23):Aq fns gl l n k e=Ow l.line k e:=by simp only[Aq,hk]
def Xz(hk:l.kd=24):Aq fns gl l n k e=if n=0 then e.step 43 0 0 else(k 0 e).step 44 0 0:=by simp only[Aq,hk]
def A0c(hk:l.kd=25):Aq fns gl l n k e=e.Ip:=by simp only[Aq,hk]
def A0d(hk:l.kd=26):Aq fns gl l n k e=e.cnt:=by simp only[Aq,hk]
def A0e(hk:l.kd=27):Aq fns gl l n k e=(k 0 e).step 41 0 l.line:=by simp only[Aq,hk]
def A0f(hk:l.kd=28):Aq fns gl l n k e=(k 0 e).var gl l.s 3 4:=by simp only[Aq,hk]
def A0g(hk:l.kd=29):Aq fns gl l n k e=(k 0 e).step 40 0 l.line:=by simp only[Aq,hk]
def A0i(hk:l.kd=30):Aq fns gl l n k e=(k 0 e).step 5 0 0:=by simp only[Aq,hk]
def Vo(hk:l.kd=31):Aq fns gl l n k e=(k 0 e).cut e.loc.length:=by simp only[Aq,hk]
def A0j(hk:l.kd=32):Aq fns gl l n k e=(k 0 e).cut e.loc.length:=by simp only[Aq,hk]
def A0r(hk:l.kd=139\/l.kd=140):Aq fns gl l n k e=Ph (binOp (l.kd-100)) l.line k e:=by
 rcases hk with h|h <;> simp[Aq,h]
def A0q(h1:127<=l.kd)(h2:l.kd<=138):Aq fns gl l n k e=(k 0 e).step (binOp (l.kd-100)) 0 l.line:=by
 have hk:l.kd=127\/l.kd=128\/l.kd=129\/l.kd=130\/l.kd=131\/l.kd=132\/l.kd=133\/l.kd=134\/l.kd=135\/l.kd=136\/l.kd=137\/l.kd=138:=by omega
 rcases hk with h|h|h|h|h|h|h|h|h|h|h|h <;> simp[Aq,h]
end
section
open Go.Deep (BT)
def Ey(e:Em):List Nat:=e.lps.map Prod.fst
def Rw(o:Nat)(a:Int)(ln:Nat)(e:Em):Ey (e.step o a ln)=Ey e:=rfl
def Wo(j:Nat)(e:Em):Ey (e.land j)=Ey e:=rfl
def z41a {P:Prop} (h:P:=by
  intro l;induction l with
  | nil=>intro e;rfl
  | cons j r ih=>intro e;rw[Em.E7,ih];rfl):P:=h
def Yc:∀(l:List Nat) (e:Em),(e.E7 l).lps=e.lps:=by
 exact z41a
def W5:∀(l:List Nat) (e:Em),(e.E7 l).loc=e.loc:=by
 exact z41a
def A9j(gl:List Nm)(s:Nm)(a b:Nat)(e:Em):Ey (e.var gl s a b)=Ey e:=by
 unfold Em.var;split
 ·rfl
 ·split <;> rfl
def z4aa {P:Prop} (h:P:=by
  exact⟨rfl,rfl,rfl⟩):P:=h
def Tc(gl:List Nm)(s:Nm)(a b:Nat)(e:Em):(e.var gl s a b).lps=e.lps/\(e.var gl s a b).loc=e.loc/\(e.var gl s a b).slots=e.slots:=by
 unfold Em.var;split
 ·exact z4aa
 ·split <;> exact⟨rfl,rfl,rfl⟩
def Yy(e:Em):Ey e.Ip=Ey e/\e.Ip.loc=e.loc:=by
 unfold Em.Ip;split
 ·exact⟨rfl,rfl⟩
 ·rename_i s bs r h;exact⟨by simp[Ey,h],rfl⟩
def Yz(e:Em):Ey e.cnt=Ey e/\e.cnt.loc=e.loc:=by
 unfold Em.cnt;split
 ·exact⟨rfl,rfl⟩
 ·exact⟨rfl,rfl⟩
def A5n(fns:List (Nm×Nat))(gl:List Nm)(l:A5)(n:Nat)(k:Nat->Em->Em)(h:∀m e,Ey (k m e)=Ey e)(e:Em):Ey (Aq fns gl l n k e)=Ey e:=by
 have h0:=h 0 e;unfold Aq;split;all_goals try (first|rfl|exact h0)
 ·exact A9j _ _ _ _ _
 ·unfold M3;simp only[];rw[Wo];split
  ·rw[h,Wo,Rw,h,Rw,h]
  ·rw[Wo,Rw,h,Rw,h]
 ·unfold Ow;simp only[];have h1:Ey (((k 2 ((k 1 e.open').step 7 0 l.line)).step 6 (e.st.length:Nat) 0).land (k 1 e.open').st.length)=e.st.length::Ey e:=by
   rw[Wo,Rw,h,Rw,h];rfl
  show((Em.E7 _ _).lps.tail).map Prod.fst=_;rw[Yc];have h2:∀x:List (Nat×List Nat),x.tail.map Prod.fst=(x.map Prod.fst).tail:=fun x=>by cases x <;> rfl
  rw[h2];show List.tail (Ey _)=_;rw[h1];rfl
 ·split
  ·rfl
  ·exact h0
 ·exact(Yy e).1
 ·exact(Yz e).1
 ·rw[A9j];exact h0
 ·split
  ·unfold Ph;simp only[];rw[Wo,Rw,h,Rw,h]
  ·exact h0
def A5t(fns:List (Nm×Nat))(gl:List Nm):∀(c:BT A5) (m:Nat) (e:Em),Ey (em fns gl c m e)=Ey e:=by
 intro c;induction c with
 | nil=>intro m e;rfl
 | node x y l c r D5 C6=>
  intro m e;rw[em];split
  ·exact C6 _ _
  ·split
   ·exact A5n _ _ _ _ _ D5 e
   ·rw[C6];exact A5n _ _ _ _ _ D5 e
def Y2(fns:List (Nm×Nat))(gl:List Nm)(c:BT A5)(m:Nat)(e:Em):(em fns gl c m e).lps.length=e.lps.length:=by
 have:=N3 List.length (A5t fns gl c m e);simpa [Ey]using this
def A5m(fns:List (Nm×Nat))(gl:List Nm)(l:A5)(c:BT A5)(e:Em):(Aq fns gl l (Aj c) (em fns gl c) e).lps.length=e.lps.length:=Y2 fns gl (nd l c) 0 e
def Ai3(fns:List (Nm×Nat))(gl:List Nm)(l:A5)(n s s1 s2 s3:Nat)(k:Nat->Em->Em)(h0:∀e,(k 0 e).loc.length<=e.loc.length+s)(h1:∀e,(k 1 e).loc.length<=e.loc.length+s1)(h2:∀e,(k 2 e).loc.length<=e.loc.length+s2)(h3:∀e,(k 3 e).loc.length<=e.loc.length+s3)(hs:s1+s2+s3<=s)(e:Em) :
  (Aq fns gl l n k e).loc.length<=e.loc.length+(1+s):=by
 have g0:=h0 e;unfold Aq;split;all_goals try (first|(show e.loc.length<=_;omega)|(show(k 0 e).loc.length<=_;omega))
 ·rw[(Tc _ _ _ _ _).2.1];omega
 ·show((k 0 e).loc++[l.s]).length<=_;simp;omega
 ·unfold M3;have a1:=h1 e;have a2:=h2 ((k 1 e).step 8 0 l.line);have b2:((k 1 e).step 8 0 l.line).loc=(k 1 e).loc:=rfl;rw[b2]at a2;show(if n=3 then _ else _:Em).loc.length<=_;split
  ·have a3:=h3 (((k 2 ((k 1 e).step 8 0 l.line)).step 6 0 0).land (k 1 e).st.length);have b3:(((k 2 ((k 1 e).step 8 0 l.line)).step 6 0 0).land (k 1 e).st.length).loc=(k 2 ((k 1 e).step 8 0 l.line)).loc:=rfl;rw[b3]at a3;omega
  ·show(k 2 ((k 1 e).step 8 0 l.line)).loc.length<=_;omega
 ·unfold Ow;show(Em.E7 _ _).loc.length<=_;rw[W5];have a1:=h1 e.open';have a2:=h2 ((k 1 e.open').step 7 0 l.line);have b2:((k 1 e.open').step 7 0 l.line).loc=(k 1 e.open').loc:=rfl;have b1:e.open'.loc=e.loc:=rfl;rw[b2]at a2;rw[b1]at a1;show(k 2 ((k 1 e.open').step 7 0 l.line)).loc.length<=_;omega
 ·split
  ·show e.loc.length<=_;omega
  ·show(k 0 e).loc.length<=_;omega
 ·rw[(Yy e).2];omega
 ·rw[(Yz e).2];omega
 ·rw[(Tc _ _ _ _ _).2.1];omega
 ·show((k 0 e).loc.take e.loc.length).length<=_;simp;omega
 ·show((k 0 e).loc.take e.loc.length).length<=_;simp;omega
 ·split
  ·unfold Ph;have a1:=h1 e;have a2:=h2 ((k 1 e).step (binOp (l.kd-100)) 0 l.line);have b2:((k 1 e).step (binOp (l.kd-100)) 0 l.line).loc=(k 1 e).loc:=rfl;rw[b2]at a2;show(k 2 ((k 1 e).step (binOp (l.kd-100)) 0 l.line)).loc.length<=_;omega
  ·show(k 0 e).loc.length<=_;omega
def Aij(fns:List (Nm×Nat))(gl:List Nm):∀(c:BT A5),(∀e,(em fns gl c 0 e).loc.length<=e.loc.length+bsize c)/\(∀m,1<=m->∀e,(em fns gl c m e).loc.length<=e.loc.length+Gi c m):=by
 intro c;induction c with
 | nil=>exact⟨fun e=>by rw[em];omega,fun m _ e=>by rw[em];omega⟩
 | node x y l c r D5 C6=>
  have hN:∀e,(Aq fns gl l (Aj c) (em fns gl c) e).loc.length<=e.loc.length+(1+bsize c):=
   fun e=>Ai3 fns gl l (Aj c) (bsize c) (Gi c 1) (Gi c 2) (Gi c 3) (em fns gl c) D5.1 (D5.2 1 z4ma) (D5.2 2 z4ma) (D5.2 3 z4ma) (A1x c) e
  exact z15a
def Ai4(fns:List (Nm×Nat))(gl:List Nm)(l:A5)(c:BT A5)(e:Em):(Aq fns gl l (Aj c) (em fns gl c) e).loc.length<=e.loc.length+bsize (nd l c):=(Aij fns gl (nd l c)).1 e
def A5o(fns:List (Nm×Nat))(gl:List Nm)(l:A5)(n:Nat)(k:Nat->Em->Em)(h:∀m e,e.st.length<=(k m e).st.length)(e:Em):e.st.length<=(Aq fns gl l n k e).st.length:=by
 have h0:=h 0 e;have hv:∀(s:Nm) (a b:Nat) (e:Em),e.st.length<=(e.var gl s a b).st.length:=by
  intro s a b e;unfold Em.var;split
  ·rw[Ea];omega
  ·split
   ·rw[Ea];omega
   ·exact Af _
 unfold Aq;split;all_goals try (first|(rw[A00];omega)|(rw[Ea];omega)|omega)
 ·exact hv _ _ _ _
 ·rw[Ea];show _<=(k 0 e).st.length+1;omega
 ·unfold M3;simp only[M5];have a1:=h 1 e;have a2:=h 2 ((k 1 e).step 8 0 l.line);rw[Ea]at a2;split
  ·have a3:=h 3 (((k 2 ((k 1 e).step 8 0 l.line)).step 6 0 0).land (k 1 e).st.length);rw[M5,Ea]at a3;omega
  ·rw[M5,Ea];omega
 ·unfold Ow;simp only[Em.close,Yb,M5,Ea];have a1:=h 1 e.open';have a2:=h 2 ((k 1 e.open').step 7 0 l.line);rw[Ea]at a2;have:e.open'.st.length=e.st.length:=rfl;omega
 ·split
  ·rw[Ea];omega
  ·rw[Ea];omega
 ·unfold Em.Ip;split
  ·exact Af _
  ·simp
 ·unfold Em.cnt;split
  ·exact Af _
  ·rw[Ea];omega
 ·have:=hv l.s 3 4 (k 0 e);omega
 ·exact h0
 ·exact h0
 ·split
  ·unfold Ph;simp only[M5,Ea];have a1:=h 1 e;have a2:=h 2 ((k 1 e).step (binOp (l.kd-100)) 0 l.line);rw[Ea]at a2;omega
  ·rw[Ea];omega
def Vp(fns:List (Nm×Nat))(gl:List Nm):∀(c:BT A5) (m:Nat) (e:Em),e.st.length<=(em fns gl c m e).st.length:=by
 intro c;induction c with
 | nil=>intro m e;exact Af _
 | node x y l c r D5 C6=>
  intro m e;rw[em];split
  ·exact C6 _ _
  ·split
   ·exact A5o _ _ _ _ _ D5 e
   ·exact Fu (A5o fns gl l (Aj c) _ D5 e) (C6 _ _)
def A0t(fns:List (Nm×Nat))(gl:List Nm)(l:A5)(c:BT A5)(e:Em):e.st.length<=(Aq fns gl l (Aj c) (em fns gl c) e).st.length:=Vp fns gl (nd l c) 0 e
def Lp:BT A5->Nat->Prop
 | .nil,_=>True
 | .node _ _ l c r,n=>(l.kd=25\/l.kd=26->n≠0)/\Lp c (if l.kd=32 then n+1 else n)/\Lp r n
def On{is:Bool}{code line:Nat}{f:Da}(hc:code≠0)(h:(F0 is code line f).1=0):f.1=0/\is=false:=by
 unfold F0 at h;split at h
 ·exact absurd h hc
 ·rename_i hn;refine⟨h,?_⟩;cases is
  ·rfl
  ·exfalso;apply hn;rw[h];rfl
def z3za {P:Prop} (h:P:=by
  exact⟨(On z4ma b1).1,fun e=>by omega⟩):P:=h
def A8y(fns:List (Nm×Nat)):∀(c:BT A5) (outer cur:List Nm) (wh:Nat) (inn:Bool) (f:Da),(Bt fns c outer cur wh inn f).2.1=0->f.1=0/\Lp c wh:=by
 intro c;induction c with
 | nil=>intro outer cur wh inn f h;exact⟨h,trivial⟩
 | node x y l c r D5 C6=>
  intro outer cur wh inn f h;rw[Bt]at h;by_cases h31:l.kd=31
  ·rw[A7 h31]at h;obtain⟨a1,a2⟩:=C6 _ _ _ _ _ h;obtain⟨b1,b2⟩:=D5 _ _ _ _ _ a1;exact⟨b1,fun e=>by omega,by rw[Ai];exact b2,a2⟩
  ·rw[A1 h31]at h;by_cases h32:l.kd=32
   ·rw[A7 h32]at h;obtain⟨a1,a2⟩:=C6 _ _ _ _ _ h;obtain⟨b1,b2⟩:=D5 _ _ _ _ _ a1;exact⟨b1,fun e=>by omega,by rw[A7 h32];exact b2,a2⟩
   ·rw[A1 h32]at h;by_cases h21:l.kd=21
    ·rw[A7 h21]at h;obtain⟨a1,a2⟩:=C6 _ _ _ _ _ h;obtain⟨b1,b2⟩:=D5 _ _ _ _ _ a1;exact⟨(On z4ma b1).1,fun e=>by omega,by rw[Ai];exact b2,a2⟩
    ·rw[A1 h21]at h;obtain⟨a1,a2⟩:=C6 _ _ _ _ _ h;obtain⟨b1,b2⟩:=D5 _ _ _ _ _ a1;have hz:f.1=0/\(l.kd=25\/l.kd=26->wh≠0):=by
      split at b1
      ·exact z3za
      ·split at b1
       ·exact z3za
       ·split at b1
        ·have:=On z4ma b1;exact⟨this.1,fun _ e=>by have:=this.2;simp at this;exact this e⟩
        ·split at b1
         ·exact z3za
         ·exact⟨b1,fun e=>by omega⟩
     exact⟨hz.1,hz.2,by rw[Ai];exact b2,a2⟩
def Vf(a b:Em):Prop:=a.lps=b.lps/\a.loc=b.loc/\a.slots=b.slots
def Ai6(fns:List (Nm×Nat))(gl:List Nm)(l:A5)(n:Nat)(k:Nat->Em->Em)(hk:Ej l.kd=true)(h:∀m e,Vf (k m e) e)(e:Em):Vf (Aq fns gl l n k e) e:=by
 unfold Ej at hk;simp only[Gz,F3,Jg]at hk;have h0:=h 0 e;have hb:∀o ln,Vf (Ph o ln k e) e:=by
  intro o ln;have a1:=h 1 e;have a2:=h 2 ((k 1 e).step o 0 ln);exact⟨a2.1.trans a1.1,a2.2.1.trans a1.2.1,a2.2.2.trans a1.2.2⟩
 by_cases A2:127<=l.kd
 ·by_cases Ad:l.kd<=138
  ·rw[A0q A2 Ad];exact h0
  ·rw[A0r z4ma];exact hb _ _
 ·have D4:l.kd=1\/l.kd=2\/l.kd=3\/l.kd=4\/l.kd=5\/l.kd=6\/l.kd=7\/l.kd=8\/l.kd=9\/l.kd=10\/l.kd=11\/l.kd=12\/l.kd=13\/l.kd=14:=by omega
  rcases D4 with h|h|h|h|h|h|h|h|h|h|h|h|h|h
  ·rw[A04 h];exact z4aa
  ·rw[A0a h];exact z4aa
  ·rw[A0h h];exact z4aa
  ·rw[A0k h];exact z4aa
  ·rw[A0l h];exact z4aa
  ·rw[A0m h];exact Tc _ _ _ _ _
  ·rw[A0n h];exact h0
  ·rw[A0o h];exact h0
  ·rw[A0p h];exact h0
  ·rw[A05 h];exact h0
  ·rw[A06 h];exact h0
  ·rw[A07 h];exact h0
  ·rw[A08 h];exact h0
  ·rw[A09 h];exact h0
def z2oa {P:Prop} (h:P:=by
  rcases w2 with⟨_,h1,h2⟩|⟨h1,_⟩|⟨h1,_⟩|⟨h1,_⟩|⟨h1,_⟩|⟨h1,_⟩|⟨h1,_⟩
  ·exact⟨h1,h2⟩
  all_goals omega):P:=h
def A5s(fns:List (Nm×Nat))(gl:List Nm):∀(c:BT A5),Wf 0 c->∀(m:Nat) (e:Em),Vf (em fns gl c m e) e:=by
 intro c;induction c with
 | nil=>intro _ m e;exact⟨rfl,rfl,rfl⟩
 | node x y l c r D5 C6=>
  intro hw m e;obtain⟨w1,w2⟩:=hw;have hx:Ej l.kd=true/\Wf 0 c:=by
   exact z2oa
  have hN:=Ai6 fns gl l (Aj c) (em fns gl c) hx.1 (fun m e=>D5 hx.2 m e) e;rw[em];split
  ·exact C6 w1 _ _
  ·split
   ·exact hN
   ·have:=C6 w1 0 (Aq fns gl l (Aj c) (em fns gl c) e);exact⟨this.1.trans hN.1,this.2.1.trans hN.2.1,this.2.2.trans hN.2.2⟩
def Qg(fns:List (Nm×Nat))(gl:List Nm)(l:A5)(c:BT A5)(hk:Ej l.kd=true)(hw:Wf 0 c)(e:Em):Vf (Aq fns gl l (Aj c) (em fns gl c) e) e:=A5s fns gl (nd l c) ⟨trivial,.inl ⟨.inl rfl,hk,hw⟩⟩ 0 e
def A5l(fns:List (Nm×Nat))(gl:List Nm)(l:A5)(n:Nat)(k:Nat->Em->Em)(h:∀m e,e.loc.length<=(k m e).loc.length)(e:Em):e.loc.length<=(Aq fns gl l n k e).loc.length:=by
 have h0:=h 0 e;unfold Aq;split;all_goals try (first|exact Af _|exact h0)
 ·rw[(Tc _ _ _ _ _).2.1];exact Af _
 ·show _<=((k 0 e).loc++[l.s]).length;simp;omega
 ·unfold M3;have a1:=h 1 e;have a2:(k 1 e).loc.length<=(k 2 ((k 1 e).step 8 0 l.line)).loc.length:=h 2 ((k 1 e).step 8 0 l.line);show _<=(if n=3 then _ else _:Em).loc.length;split
  ·have a3:(k 2 ((k 1 e).step 8 0 l.line)).loc.length<=_:=h 3 (((k 2 ((k 1 e).step 8 0 l.line)).step 6 0 0).land (k 1 e).st.length);omega
  ·show _<=(k 2 ((k 1 e).step 8 0 l.line)).loc.length;omega
 ·unfold Ow;show _<=(Em.E7 _ _).loc.length;rw[W5];have a1:e.loc.length<=(k 1 e.open').loc.length:=h 1 e.open';have a2:(k 1 e.open').loc.length<=(k 2 ((k 1 e.open').step 7 0 l.line)).loc.length:=h 2 ((k 1 e.open').step 7 0 l.line);show _<=(k 2 ((k 1 e.open').step 7 0 l.line)).loc.length;omega
 ·split
  ·exact Af _
  ·exact h0
 ·rw[(Yy e).2];exact Af _
 ·rw[(Yz e).2];exact Af _
 ·rw[(Tc _ _ _ _ _).2.1];exact h0
 ·show _<=((k 0 e).loc.take e.loc.length).length;simp;omega
 ·show _<=((k 0 e).loc.take e.loc.length).length;simp;omega
 ·split
  ·unfold Ph;have a1:=h 1 e;have a2:(k 1 e).loc.length<=(k 2 ((k 1 e).step (binOp (l.kd-100)) 0 l.line)).loc.length:=h 2 ((k 1 e).step (binOp (l.kd-100)) 0 l.line);show _<=(k 2 ((k 1 e).step (binOp (l.kd-100)) 0 l.line)).loc.length;omega
  ·exact h0
def Aii(fns:List (Nm×Nat))(gl:List Nm):∀(c:BT A5) (m:Nat) (e:Em),e.loc.length<=(em fns gl c m e).loc.length:=by
 intro c;induction c with
 | nil=>intro m e;exact Af _
 | node x y l c r D5 C6=>
  intro m e;rw[em];split
  ·exact C6 _ _
  ·split
   ·exact A5l _ _ _ _ _ D5 e
   ·exact Fu (A5l fns gl l (Aj c) _ D5 e) (C6 _ _)
def E1(e:Em):Prop:=∀x∈e.lps,x.2.length<=e.st.length/\∀j∈x.2,j<e.st.length
def E1.up{e e':Em}(h:E1 e)(hl:e'.lps=e.lps)(hs:e.st.length<=e'.st.length):E1 e':=by
 intro x hx;rw[hl]at hx;exact⟨Fu (h x hx).1 hs,fun j hj=>Cb ((h x hx).2 j hj) hs⟩
def z6fa {P:Prop} (h:P:=by rw[Ea];omega):P:=h
def E1.step{e:Em}(h:E1 e)(o:Nat)(a:Int)(ln:Nat):E1 (e.step o a ln):=h.up rfl z6fa
def E1.F5{e:Em}(h:E1 e)(v:PV):E1 (e.F5 v):=h.up rfl (by rw[A00];omega)
def E1.land{e:Em}(h:E1 e)(j:Nat):E1 (e.land j):=h.up rfl (by rw[M5];exact Af _)
def E1.E7{e:Em}(h:E1 e)(l:List Nat):E1 (e.E7 l):=h.up (Yc l e) (by rw[Yb];exact Af _)
def E1.var{e:Em}(h:E1 e)(gl:List Nm)(s:Nm)(a b:Nat):E1 (e.var gl s a b):=by
 unfold Em.var;split
 ·exact h.step _ _ _
 ·split
  ·exact h.step _ _ _
  ·exact h
def z6ia {P:Prop} (h:P:=by rw[hq];simp):P:=h
def E1.Ip{e:Em}(h:E1 e):E1 e.Ip:=by
 unfold Em.Ip;split
 ·exact h
 ·rename_i s bs r hq;intro x hx;simp only[L9]at hx;rcases hx with rfl|hx
  ·have:=h (s,bs) z6ia;simp only at this;refine⟨by simp;omega,fun j hj=>?_⟩;simp only[Jp,Lb]at hj;simp only[Ds,Lw];rcases hj with hj|hj
   ·have:=this.2 j hj;omega
   ·omega
  ·have:=h x (by rw[hq];simp[hx]);refine⟨by simp;omega,fun j hj=>?_⟩;have:=this.2 j hj;simp;omega
def E1.cnt{e:Em}(h:E1 e):E1 e.cnt:=by
 unfold Em.cnt;split
 ·exact h
 ·exact h.step _ _ _
def E1.open'{e:Em}(h:E1 e):E1 e.open':=by
 intro x hx;simp only[Em.open',L9]at hx;rcases hx with rfl|hx
 ·exact⟨De _,fun j hj=>by cases hj⟩
 ·exact h x hx
def E1.close{e:Em}(h:E1 e):E1 e.close:=fun x hx=>h x (A3d hx)
def E1.cut{e:Em}(h:E1 e)(n:Nat):E1 (e.cut n):=h
def A5k(fns:List (Nm×Nat))(gl:List Nm)(l:A5)(n:Nat)(k:Nat->Em->Em)(h:∀m e,E1 e->E1 (k m e))(e:Em)(he:E1 e):E1 (Aq fns gl l n k e):=by
 have h0:=h 0 e he;unfold Aq;split;all_goals try (first|exact he.F5 _|exact h0|exact h0.step _ _ _|exact h0.cut _)
 ·exact he.var _ _ _ _
 ·unfold M3;refine E1.land ?_ _;split
  ·exact h _ _ ((((h _ _ ((h _ _ he).step _ _ _)).step _ _ _).land _))
  ·exact((h _ _ ((h _ _ he).step _ _ _)).step _ _ _).land _
 ·unfold Ow;exact(((((h _ _ ((h _ _ he.open').step _ _ _)).step _ _ _).land _).E7 _).close)
 ·split
  ·exact he.step _ _ _
  ·exact h0.step _ _ _
 ·exact he.Ip
 ·exact he.cnt
 ·exact h0.var _ _ _ _
 ·split
  ·unfold Ph;exact((h _ _ ((h _ _ he).step _ _ _)).step _ _ _).land _
  ·exact h0.step _ _ _
def Y1(fns:List (Nm×Nat))(gl:List Nm):∀(c:BT A5) (m:Nat) (e:Em),E1 e->E1 (em fns gl c m e):=by
 intro c;induction c with
 | nil=>intro m e h;exact h
 | node x y l c r D5 C6=>
  intro m e h;rw[em];split
  ·exact C6 _ _ h
  ·split
   ·exact A5k _ _ _ _ _ D5 e h
   ·exact C6 _ _ (A5k fns gl l (Aj c) _ D5 e h)
def Y0(fns:List (Nm×Nat))(gl:List Nm)(l:A5)(c:BT A5)(e:Em)(h:E1 e):E1 (Aq fns gl l (Aj c) (em fns gl c) e):=Y1 fns gl (nd l c) 0 e h
def Alr:∀(a b:List Nat) (e:Em),e.E7 (a++b)=(e.E7 a).E7 b:=by
 intro a;induction a with
 | nil=>intro b e;rfl
 | cons x r ih=>intro b e;exact ih b (e.land x)
def Als(bs:List Nat)(i:Nat)(h:i<bs.length)(e:Em):e.E7 (bs.take (i+1))=(e.E7 (bs.take i)).land bs[i]:=by
 rw[X4 h,Alr];rfl
def Q5:BT A5->Prop
 | .nil=>True
 | .node _ _ l c r=>(if l.kd=20 then Lp c 0 else Lp (nd l c) 0)/\Q5 r
def A8g:∀(ps:List (Nat×Nm)) (cur:List Nm) (f:Da),(Jl ps cur f).2.1=0->f.1=0:=by
 intro ps;induction ps with
 | nil=>intro cur f h;exact h
 | cons p r ih=>
  intro cur f h;rw[Jl]at h;exact(On z4ma (ih _ _ h)).1
def Ar6(fns:List (Nm×Nat)):∀(c:BT A5) (seen cur:List Nm) (f:Da),(G2 fns c seen cur f).1=0->f.1=0/\Q5 c:=by
 intro c;induction c with
 | nil=>intro seen cur f h;exact⟨h,trivial⟩
 | node x y l c r D5 C6=>
  intro seen cur f h;rw[G2]at h;by_cases h20:l.kd=20
  ·rw[A7 h20]at h;obtain⟨a1,a2⟩:=C6 _ _ _ h;obtain⟨b1,b2⟩:=A8y fns c _ _ _ _ _ a1;have b3:=A8g _ _ _ b1;exact⟨(On z4ma b3).1,by rw[A7 h20];exact b2,a2⟩
  ·rw[A1 h20]at h;obtain⟨a1,a2⟩:=C6 _ _ _ h;obtain⟨b1,b2⟩:=A8y fns (.node x y l c .nil) _ _ _ _ _ a1;exact⟨b1,by rw[A1 h20];exact⟨b2.1,b2.2.1,trivial⟩,a2⟩
def Gu(l:List UInt8):Da×Option (BT A5):=
 if 2000<l.length then((1,0),none)
 else match lex (l.length+1) l 1 false with
  | .inl n=>((2,n),none)
  | .inr ts=>
   match Ak 100000 10 0 .nil ⟨ts,0⟩ with
   | none=>((0,0),none)
   | some r=>
    if r.2.bad≠0 then((2,r.2.bad),none)
    else if nest ts 0≠0 then((1,nest ts 0),none)
    else if(G2 (Cr r.1) r.1 [] [] (0,0)).1≠0 then(G2 (Cr r.1) r.1 [] [] (0,0),none)
    else((0,0),some r.1)
def Xf(l:List UInt8):Prop:=∀ts,lex (l.length+1) l 1 false=.inr ts->∃r,Ak 100000 10 0 .nil ⟨ts,0⟩=some r/\(r.2.bad=0->bsize r.1<=4002/\Wf 4 r.1)
def A5r(fns:List (Nm×Nat))(gl:List Nm):∀(c:BT A5),Wf 2 c\/Wf 3 c->∀(m:Nat) (e:Em),e.loc=[]->(em fns gl c m e).loc=[]:=by
 intro c;induction c with
 | nil=>intro _ m e h;exact h
 | node x y l c r D5 C6=>
  intro hw m e he;have hr:Wf 2 r\/Wf 3 r:=hw.imp (fun h=>h.1) (fun h=>h.1);have hx:(Ej l.kd=true/\Wf 0 c)\/l.kd=31\/l.kd=32:=by
   rcases hw with h|h
   ·rcases h.2 with⟨_,h1,h2⟩|⟨_,h1,_⟩|⟨h1,_⟩|⟨h1,_⟩|⟨h1,_⟩|⟨h1,_⟩|⟨h1,_⟩
    ·exact .inl ⟨h1,h2⟩
    ·exact .inr (.inl h1)
    all_goals omega
   ·rcases h.2 with⟨_,h1,h2⟩|⟨h1,_⟩|⟨_,h1,_⟩|⟨h1,_⟩|⟨h1,_⟩|⟨h1,_⟩|⟨h1,_⟩
    ·exact .inl ⟨h1,h2⟩
    ·omega
    ·exact .inr (.inr h1)
    all_goals omega
  have hN:∀e:Em,e.loc=[]->(Aq fns gl l (Aj c) (em fns gl c) e).loc=[]:=by
   intro e he;rcases hx with⟨h1,h2⟩|h1|h1
   ·rw[(Qg fns gl l c h1 h2 e).2.1];exact he
   ·rw[Vo h1,he];rfl
   ·rw[A0j h1,he];rfl
  rw[em];split
  ·exact C6 hr _ _ he
  ·split
   ·exact hN e he
   ·exact C6 hr _ _ (hN e he)
def Ai8(fns:List (Nm×Nat))(gl:List Nm)(l:A5)(c:BT A5)(hw:Wf 1 (nd l c))(h21:l.kd≠21)(e:Em)(he:e.loc=[])(hl:e.lps=[]):∃slots st,Aq fns gl l (Aj c) (em fns gl c) e=⟨[],slots,st,[]⟩:=by
 have h1:(Aq fns gl l (Aj c) (em fns gl c) e).lps=[]:=by
  have:=A5m fns gl l c e;rw[hl]at this;exact X3.1 this
 have h2:(Aq fns gl l (Aj c) (em fns gl c) e).loc=[]:=by
  rcases hw.2 with⟨h0,_⟩|⟨h0,_⟩|⟨h0,_⟩|⟨_,hk,hw⟩|⟨_,hk,hw⟩|⟨_,hk,hw⟩|⟨h0,_⟩
  ·omega
  ·omega
  ·omega
  ·rw[Xy hk];unfold M3;have k:=A5r fns gl c (.inl hw);show(if Aj c=3 then _ else _:Em).loc=[];split
   ·exact k 3 _ (k 2 _ (k 1 e he))
   ·exact k 2 _ (k 1 e he)
  ·rw[A0b hk];unfold Ow;have k:=A5r fns gl c (.inr hw);show(Em.E7 _ _).loc=[];rw[W5];exact k 2 _ (k 1 _ he)
  ·have k:(em fns gl c 0 e).loc=[]:=by rw[(A5s fns gl c hw 0 e).2.1];exact he
   unfold No at hk;simp only[Gz,F3,Jg,Fh]at hk;have hc:l.kd=24\/l.kd=25\/l.kd=26\/l.kd=27\/l.kd=28\/l.kd=29\/l.kd=30:=by omega
   rcases hc with h|h|h|h|h|h|h
   ·rw[Xz h];split
    ·exact he
    ·exact k
   ·rw[A0c h,(Yy e).2];exact he
   ·rw[A0d h,(Yz e).2];exact he
   ·rw[A0e h];exact k
   ·rw[A0f h,(Tc _ _ _ _ _).2.1];exact k
   ·rw[A0g h];exact k
   ·rw[A0i h];exact k
  ·omega
 generalize Aq fns gl l (Aj c) (em fns gl c) e=q at *;obtain⟨a,b,c,d⟩:=q;simp only at h1 h2;subst h1 h2;exact⟨b,c,rfl⟩
def F2(o:Nat):Prop:=6<=o/\o<=10
def LJ(ls:List Nat)(p:Nat)(i:Aa):Prop:=F2 i.op->0<=i.arg/\∃x d,ls[p]?=some x/\ls[i.arg.toNat]?=some d/\(p<i.arg.toNat/\d<=x\/i.op=6/\d<x)
def SQ(ls:List Nat)(p:Nat)(i:Aa):Prop:=i.op=6\/∃x y,ls[p]?=some x/\ls[p+1]?=some y/\y<=x+(if i.op=7 then 1 else 0)
def P9(ls:List Nat):Nat->Bool->List (Nat×List Nat)->Prop
 | _,_,[]=>True
 | k,b,x::r=>∃d,ls[x.1]?=some d/\(if b then d<k else d<=k)/\(∀j∈x.2,j+1<ls.length/\∃y,ls[j]?=some y/\d<=y)/\P9 ls d true r
structure GI (ls : List Nat) (k : Nat) (b : Bool) (Q : Nat -> Prop) (e : Em) : Prop where
 len:ls.length=e.st.length+1
 top:ls[e.st.length]?=some k
 sq:∀p i,e.st[p]?=some i->SQ ls p i
 jm:∀p i,e.st[p]?=some i->LJ ls p i\/Q p\/∃x∈e.lps,p∈x.2
 lp:P9 ls k b e.lps
variable {ls ms:List Nat} {k:Nat} {b:Bool} {Q:Nat->Prop} {e:Em}
def I2{p x:Nat}(h:ls[p]?=some x):(ls++ms)[p]?=some x:=by
 obtain⟨h1,_⟩:=K4.1 h;rw[Ou h1];exact h
def LJ.ext{p:Nat}{i:Aa}(h:LJ ls p i):LJ (ls++ms) p i:=by
 intro hj;obtain⟨h0,x,d,h1,h2,h3⟩:=h hj;exact⟨h0,x,d,I2 h1,I2 h2,h3⟩
def SQ.ext{p:Nat}{i:Aa}(h:SQ ls p i):SQ (ls++ms) p i:=by
 rcases h with h|⟨x,y,h1,h2,h3⟩
 ·exact .inl h
 ·exact .inr ⟨x,y,I2 h1,I2 h2,h3⟩
def P9.ext:∀{l:List (Nat×List Nat)} {k:Nat} {b:Bool},P9 ls k b l->P9 (ls++ms) k b l:=by
 intro l;induction l with
 | nil=>intro k b _;trivial
 | cons x r ih=>
  rintro k b ⟨d,h1,h2,h3,h4⟩;refine⟨d,I2 h1,h2,fun j hj=>?_,ih h4⟩;obtain⟨q1,y,q2,q3⟩:=h3 j hj;exact⟨by simp;omega,y,I2 q2,q3⟩
def P9.up{l:List (Nat×List Nat)}{k':Nat}{b':Bool}(h:P9 ls k b l)(hk:∀d,(if b then d<k else d<=k)->(if b' then d<k' else d<=k')):P9 ls k' b' l:=by
 cases l with
 | nil=>trivial
 | cons x r=>obtain⟨d,h1,h2,h3,h4⟩:=h;exact⟨d,h1,hk d h2,h3,h4⟩
def GI.same{e':Em}(h:GI ls k b Q e)(h1:e'.st=e.st)(h2:e'.lps=e.lps):GI ls k b Q e':=by
 refine⟨by rw[h1];exact h.len,by rw[h1];exact h.top,by rw[h1];exact h.sq,by rw[h1,h2];exact h.jm,by rw[h2];exact h.lp⟩
def z28a {P:Prop} (h:P:=by
  rw[Th q]at hp;rcases Nat.eq_or_lt_of_le q with q'|q'
  ·rw[←q']at hp;simp at hp;exact .inr ⟨q'.symm,hp.symm⟩
  ·rw[N6 z4qa]at hp;cases hp):P:=h
def GI.add(h:GI ls k b Q e)(i0:Aa)(k':Nat)(b':Bool)(Q':Nat->Prop)(loc:List Nm)(slots:Nat)(lps':List (Nat×List Nat))(hsq:i0.op=6\/k'<=k+(if i0.op=7 then 1 else 0))(hQ:∀p,Q p->Q' p)
  (hL:∀p,(∃x∈e.lps,p∈x.2)->∃x∈lps',p∈x.2) (hj:LJ (ls++[k']) e.st.length i0\/Q' e.st.length\/∃x∈lps',e.st.length∈x.2) (hlp:P9 (ls++[k']) k' b' lps'):GI (ls++[k']) k' b' Q' ⟨loc,slots,e.st++[i0],lps'⟩:=by
 have hn:=h.len;have htop:(ls++[k'])[e.st.length+1]?=some k':=by rw[←hn];simp
 have split:∀{p i},(e.st++[i0])[p]?=some i->e.st[p]?=some i\/(p=e.st.length/\i=i0):=by
  intro p i hp;rcases N2 p e.st.length with q|q
  ·rw[Ou q]at hp;exact .inl hp
  ·exact z28a
 refine⟨by simp;omega,by simpa using htop,fun p i hp=>?_,fun p i hp=>?_,hlp⟩
 ·rcases split hp with q|⟨rfl,rfl⟩
  ·exact(h.sq p i q).ext
  ·rcases hsq with q|q
   ·exact .inl q
   ·exact .inr ⟨k,k',I2 h.top,htop,q⟩
 ·rcases split hp with q|⟨rfl,rfl⟩
  ·rcases h.jm p i q with r|r|r
   ·exact .inl r.ext
   ·exact .inr (.inl (hQ p r))
   ·exact .inr (.inr (hL p r))
  ·exact hj
def GI.step(h:GI ls k b Q e)(o:Nat)(ho:¬F2 o)(a:Int)(ln:Nat):GI (ls++[k]) k b Q (e.step o a ln):=
 h.add ⟨o,a,ln,Bb⟩ k b Q e.loc e.slots e.lps (.inr z4ma) (fun _ q=>q) (fun _ q=>q) (.inl fun q=>absurd q ho) h.lp.ext
def GI.F5(h:GI ls k b Q e)(v:PV):GI (ls++[k]) k b Q (e.F5 v):=
 h.add ⟨0,0,0,v⟩ k b Q e.loc e.slots e.lps (.inr z4ma) (fun _ q=>q) (fun _ q=>q) (.inl fun q=>by unfold F2 at q;dsimp only at q;omega) h.lp.ext
def GI.Rs(h:GI ls k b Q e)(o:Nat)(ln:Nat):GI (ls++[k]) k b (fun p=>Q p\/p=e.st.length) (e.step o 0 ln):=
 h.add ⟨o,0,ln,Bb⟩ k b _ e.loc e.slots e.lps (.inr z4ma) (fun _ q=>.inl q) (fun _ q=>q) (.inr (.inl (.inr rfl))) h.lp.ext
def Ri(a:Int):∀(j:Nat) (l:List Aa) (p:Nat),(Gy j a l)[p]?=if p=j then(l[j]?).map (fun i=>⟨i.op,a,i.line,i.v⟩) else l[p]?:=by
 intro j;induction j with
 | zero=>
  intro l p;cases l with
  | nil=>simp[Gy]
  | cons i r=>cases p <;> simp[Gy]
 | succ j ih=>
  intro l p;cases l with
  | nil=>simp[Gy]
  | cons i r=>
   cases p with
   | zero=>simp[Gy]
   | succ p=>simp only[Gy,Ti,ih,Nat.add_right_cancel_iff]
def z2ea {P:Prop} (h:P:=by
  rename_i hpj;rcases h.jm p i hp with q|q|q
  ·exact .inl q
  ·rcases hQ p q with q|q
   ·exact .inr (.inl q)
   ·exact absurd q hpj
  ·exact .inr (.inr q)):P:=h
def GI.land{Q':Nat->Prop}(h:GI ls k b Q' e){j x:Nat}(hj:ls[j]?=some x)(hx:k<=x)(hlt:j<e.st.length)(hQ:∀p,Q' p->Q p\/p=j):GI ls k b Q (e.land j):=by
 have hlen:(Gy j (e.st.length:Nat) e.st).length=e.st.length:=Sy _ _ _;refine⟨by show ls.length=(Gy j (e.st.length:Nat) e.st).length+1;rw[hlen];exact h.len,by show ls[(Gy j (e.st.length:Nat) e.st).length]?=_;rw[hlen];exact h.top,fun p i hp=>?_,fun p i hp=>?_,h.lp⟩
 ·have hp:(Gy j (e.st.length:Nat) e.st)[p]?=some i:=hp;rw[Ri]at hp;split at hp
  ·rename_i hpj;subst hpj;rw[Eh hlt]at hp;cases hp;have q:=h.sq p e.st[p] (Eh hlt);exact q
  ·exact h.sq p i hp
 ·have hp:(Gy j (e.st.length:Nat) e.st)[p]?=some i:=hp;rw[Ri]at hp;split at hp
  ·rename_i hpj;subst hpj;rw[Eh hlt]at hp;cases hp;refine .inl fun _=>⟨by dsimp only;omega,x,k,hj,?_,.inl ⟨?_,hx⟩⟩
   ·show ls[((e.st.length:Nat):Int).toNat]?=_;rw[O8];exact h.top
   ·show p<((e.st.length:Nat):Int).toNat;rw[O8];exact hlt
  ·exact z2ea
def GI.E7:∀(bs:List Nat) (e:Em),(∀j∈bs,j+1<ls.length/\∃y,ls[j]?=some y/\k<=y)->GI ls k b (fun p=>Q p\/p∈bs) e->GI ls k b Q (e.E7 bs):=by
 intro bs;induction bs with
 | nil=>intro e _ h;exact⟨h.len,h.top,h.sq,fun p i hp=>(h.jm p i hp).imp id (fun q=>q.imp (fun q=>q.elim id (fun q=>by cases q)) id),h.lp⟩
 | cons j r ih=>
  intro e hb h;obtain⟨q1,y,q2,q3⟩:=hb j z4ra;have hl:=h.len;rw[Em.E7];exact ih _ (fun i hi=>hb i (by simp[hi])) (h.land q2 q3 z4ma (fun p hp=>by
   rcases hp with hp|hp
   ·exact .inl (.inl hp)
   ·rcases L9.1 hp with hp|hp
    ·exact .inr hp
    ·exact .inl (.inr hp)))
def A1l:∀(l:List Nat) (e:Em),(e.E7 l).close=e.close.E7 l:=by
 intro l;induction l with
 | nil=>intro e;rfl
 | cons j r ih=>intro e;rw[Em.E7,Em.E7,ih];rfl
def Db(b:Bool)(f:Em->Em):Prop:=∀ls k Q e,GI ls k b Q e->∃ls',GI (ls++ls') k b Q (f e)/\Ey (f e)=Ey e
def Db.Kl(b:Bool):Db b (fun e=>e):=fun ls k Q e h=>⟨[],by rw[Lx];exact h,rfl⟩
def Db.comp{f g:Em->Em}(hf:Db b f)(hg:Db b g):Db b (fun e=>g (f e)):=by
 intro ls k Q e h;obtain⟨l1,h1,s1⟩:=hf ls k Q e h;obtain⟨l2,h2,s2⟩:=hg _ _ _ _ h1;exact⟨l1++l2,by rw[←Gv];exact h2,s2.trans s1⟩
def Db.step{f:Em->Em}(hf:Db b f)(o:Nat)(ho:¬F2 o)(a:Em->Int)(ln:Nat):Db b (fun e=>(f e).step o (a e) ln):=by
 intro ls k Q e h;obtain⟨l1,h1,s1⟩:=hf ls k Q e h;exact⟨l1++[k],by rw[←Gv];exact h1.step o ho _ _,s1⟩
def Db.F5(v:PV):Db b (fun e=>e.F5 v):=fun _ k _ _ h=>⟨[k],h.F5 v,rfl⟩
def nj{o:Nat}(h:o<6\/10<o):¬F2 o:=by unfold F2;omega
def Db.var{f:Em->Em}(hf:Db b f)(gl:List Nm)(s:Nm){x y:Nat}(hx:x<6)(hy:y<6):Db b (fun e=>(f e).var gl s x y):=by
 intro ls k Q e h;obtain⟨l1,h1,s1⟩:=hf ls k Q e h;show ∃ls',GI (ls++ls') k b Q ((f e).var gl s x y)/\Ey ((f e).var gl s x y)=Ey e;unfold Em.var;split
 ·exact⟨l1++[k],by rw[←Gv];exact h1.step x (nj (.inl hx)) _ _,s1⟩
 ·split
  ·exact⟨l1++[k],by rw[←Gv];exact h1.step y (nj (.inl hy)) _ _,s1⟩
  ·exact⟨l1,h1,s1⟩
def Db.Ip:Db true Em.Ip:=by
 intro ls k Q e h;unfold Em.Ip;have hlp:=h.lp;have hlen:=h.len;have hjm:=h.jm;cases hq:e.lps with
 | nil=>exact⟨[],by rw[Lx];exact h,rfl⟩
 | cons x r=>
  obtain⟨s,bs⟩:=x;rw[hq]at hlp;obtain⟨d,h1,h2,h3,h4⟩:=hlp;refine⟨[k],h.add ⟨6,0,0,Bb⟩ k true Q e.loc e.slots ((s,bs++[e.st.length])::r) (.inl rfl) (fun _ q=>q) (fun p hp=>?_) (.inr (.inr ⟨_,Q0,by simp⟩)) ⟨d,I2 h1,h2,fun j hj=>?_,h4.ext⟩,by simp[Ey,hq]⟩
  ·obtain⟨x,hx,hp⟩:=hp;rw[hq]at hx;rcases L9.1 hx with rfl|hx
   ·exact⟨_,Q0,by simp at hp ⊢;exact .inl hp⟩
   ·exact⟨x,Sb _ hx,hp⟩
  ·rcases Jp.1 hj with hj|hj
   ·obtain⟨q1,y,q2,q3⟩:=h3 j hj;exact⟨by simp;omega,y,I2 q2,q3⟩
   ·rw[Lb.1 hj];have h2':d<k:=h2;exact⟨by simp;omega,k,I2 h.top,by omega⟩
def Db.cnt:Db true Em.cnt:=by
 intro ls k Q e h;unfold Em.cnt;have hlp:=h.lp;cases hq:e.lps with
 | nil=>exact⟨[],by rw[Lx];exact h,rfl⟩
 | cons x r=>
  obtain⟨s,bs⟩:=x;rw[hq]at hlp;obtain⟨d,h1,h2,h3,h4⟩:=hlp;have h2':d<k:=h2;refine⟨[k],h.add ⟨6,(s:Nat),0,Bb⟩ k true Q e.loc e.slots e.lps (.inl rfl) (fun _ q=>q) (fun p hp=>hp) (.inl fun _=>⟨by dsimp only;omega,k,d,I2 h.top,?_,.inr ⟨rfl,h2'⟩⟩) h.lp.ext,rfl⟩;show(ls++[k])[((s:Nat):Int).toNat]?=_;rw[O8];exact I2 h1
def Db.bool{f1 f2:Em->Em}(h1:Db b f1)(h2:Db b f2)(o line:Nat):Db b (fun e=>((f2 ((f1 e).step o 0 line)).step 11 0 line).land (f1 e).st.length):=by
 intro ls k Q e h;obtain⟨l1,a1,s1⟩:=h1 ls k Q e h;obtain⟨l2,a2,s2⟩:=h2 _ _ _ _ (a1.Rs o line);have a3:=a2.step 11 (nj (.inr z4ma)) 0 line;refine⟨l1++[k]++l2++[k],?_,s2.trans s1⟩;have e1:ls++(l1++[k]++l2++[k])=ls++l1++[k]++l2++[k]:=by simp
 rw[e1];refine a3.land (x:=k) (I2 (I2 (I2 a1.top))) (Af _) ?_ (fun p hp=>hp);have q1:=a1.len;have q3:=a3.len;simp only[Ds,Lw]at q1 q3;omega
def Db.cond{f1 f2 f3:Em->Em}(h1:Db b f1)(h2:Db b f2)(h3:Db b f3)(line:Nat):Db b (fun e=>(f3 (((f2 ((f1 e).step 8 0 line)).step 6 0 0).land (f1 e).st.length)).land (f2 ((f1 e).step 8 0 line)).st.length):=by
 intro ls k Q e h;obtain⟨l1,a1,s1⟩:=h1 ls k Q e h;obtain⟨l2,a2,s2⟩:=h2 _ _ _ _ (a1.Rs 8 line);have a3:=a2.Rs 6 0;have q1:=a1.len;have q2:=a2.len;have q3:=a3.len;have a4:=a3.land (Q:=fun p=>Q p\/p=(f2 ((f1 e).step 8 0 line)).st.length) (j:=(f1 e).st.length) (x:=k) (I2 (I2 (I2 a1.top))) (Af _) (by simp only[Ds,Lw]at q1 q3;omega) (fun p hp=>by
  rcases hp with(hp|hp)|hp
  ·exact .inl (.inl hp)
  ·exact .inr hp
  ·exact .inl (.inr hp))
 obtain⟨l3,a5,s3⟩:=h3 _ _ _ _ a4;have q5:=a5.len;refine⟨l1++[k]++l2++[k]++l3,?_,s3.trans (s2.trans s1)⟩;have e1:ls++(l1++[k]++l2++[k]++l3)=ls++l1++[k]++l2++[k]++l3:=by simp
 rw[e1];refine a5.land (x:=k) (I2 (I2 a2.top)) (Af _) ?_ (fun p hp=>hp);simp only[Ds,Lw]at q2 q5;omega
def Db.while{f1 f2:Em->Em}(h1:Db false f1)(h2:Db true f2)(line:Nat):Db true (fun e=>(Em.E7 (((f2 ((f1 e.open').step 7 0 line)).step 6 (e.st.length:Nat) 0).land (f1 e.open').st.length).Kv (((f2 ((f1 e.open').step 7 0 line)).step 6 (e.st.length:Nat) 0).land (f1 e.open').st.length)).close):=by
 intro ls k Q e h;dsimp only[];have a0:GI ls k false Q e.open':=⟨h.len,h.top,h.sq,fun p i hp=>(h.jm p i hp).imp id (fun q=>q.imp id (fun⟨x,hx,q⟩=>⟨x,Sb _ hx,q⟩)),⟨k,h.top,Af _,(fun j hj=>by cases hj),h.lp⟩⟩;obtain⟨l1,a1,s1⟩:=h1 _ _ _ _ a0;have a2:GI (ls++l1++[k+1]) (k+1) true (fun p=>Q p\/p=(f1 e.open').st.length) ((f1 e.open').step 7 0 line):=
  a1.add ⟨7,0,line,Bb⟩ (k+1) true _ _ _ (f1 e.open').lps (.inr z4ra) (fun _ q=>.inl q) (fun _ q=>q) (.inr (.inl (.inr rfl))) (a1.lp.ext.up (fun d hd=>by have hd':d<=k:=hd;show d<k+1;omega))
 obtain⟨l2,a3,s2⟩:=h2 _ _ _ _ a2;generalize hb:f2 ((f1 e.open').step 7 0 line)=eb at *;have hs:Ey eb=e.st.length::Ey e:=s2.trans s1;have htop:(ls++l1++[k+1]++l2++[k])[e.st.length]?=some k:=I2 (I2 (I2 (I2 h.top)));have a4:GI (ls++l1++[k+1]++l2++[k]) k false (fun p=>Q p\/p=(f1 e.open').st.length) (eb.step 6 (e.st.length:Nat) 0):=by
  refine a3.add ⟨6,(e.st.length:Nat),0,Bb⟩ k false _ _ _ eb.lps (.inl rfl) (fun _ q=>q) (fun _ q=>q) (.inl fun _=>⟨by dsimp only;omega,k+1,k,I2 a3.top,?_,.inr ⟨rfl,by omega⟩⟩) (a3.lp.ext.up (fun d hd=>by have hd':d<k+1:=hd;show d<=k;omega));show(ls++l1++[k+1]++l2++[k])[((e.st.length:Nat):Int).toNat]?=_;rw[O8];exact htop
 have q1:=a1.len;have q4:=a4.len;have a5:=a4.land (Q:=Q) (j:=(f1 e.open').st.length) (x:=k) (I2 (I2 (I2 a1.top))) (Af _) (by simp only[Ds,Lw]at q1 q4;omega) (fun p hp=>hp);generalize hd:(eb.step 6 (e.st.length:Nat) 0).land (f1 e.open').st.length=ed at *;have hsd:Ey ed=e.st.length::Ey e:=by rw[←hd];exact hs
 have hlp:=a5.lp;refine⟨l1++[k+1]++l2++[k],?_,?_⟩
 ·have e1:ls++(l1++[k+1]++l2++[k])=ls++l1++[k+1]++l2++[k]:=by simp
  rw[e1,A1l];cases hq:ed.lps with
  | nil=>unfold Ey at hsd;rw[hq]at hsd;cases hsd
  | cons x r=>
   unfold Ey at hsd;rw[hq]at hsd hlp;have Er:x.1=e.st.length:=by simp at hsd;exact hsd.1
   obtain⟨d,g1,g2,g3,g4⟩:=hlp;rw[Er,htop]at g1;cases g1;have hbr:ed.Kv=x.2:=by unfold Em.Kv;rw[hq]
   rw[hbr];refine GI.E7 x.2 _ g3 ⟨a5.len,a5.top,a5.sq,fun p i hp=>?_,?_⟩
   ·rcases a5.jm p i hp with q|q|⟨y,hy,q⟩
    ·exact .inl q
    ·exact .inr (.inl (.inl q))
    ·rw[hq]at hy;rcases L9.1 hy with rfl|hy
     ·exact .inr (.inl (.inr q))
     ·exact .inr (.inr ⟨y,by show y∈ed.lps.tail;rw[hq];exact hy,q⟩)
   ·show P9 _ k true ed.lps.tail;rw[hq];exact g4
 ·show(Em.E7 _ _).lps.tail.map Prod.fst=_;rw[Yc];have h2:∀x:List (Nat×List Nat),x.tail.map Prod.fst=(x.map Prod.fst).tail:=fun x=>by cases x <;> rfl
  rw[h2];show List.tail (Ey ed)=_;rw[hsd];rfl
end
section
open Go.Deep (BT)
variable {b:Bool} {fns:List (Nm×Nat)} {gl:List Nm}
def Db.eq{f g:Em->Em}(h:Db b f)(e:∀x,g x=f x):Db b g:=by
 have:g=f:=funext e;rw[this];exact h
def Db.same{f:Em->Em}(h:Db b f)(g:Em->Em)(h1:∀e,(g e).st=(f e).st)(h2:∀e,(g e).lps=(f e).lps):Db b g:=by
 intro ls k Q e hG;obtain⟨l1,a1,s1⟩:=h ls k Q e hG;exact⟨l1,a1.same (h1 e) (h2 e),by unfold Ey at *;rw[h2];exact s1⟩
def A4p{s:Nat}(h:s≠39/\s≠40):¬F2 (binOp s):=by
 unfold binOp F2;rw[Ai,Ai];exact z40a
def A0s{l:A5}{c:BT A5}(hk:Ej l.kd=true)(h:∀m,Db b (em fns gl c m)):Db b (Aq fns gl l (Aj c) (em fns gl c)):=by
 unfold Ej at hk;simp only[Gz,F3,Jg]at hk;by_cases A2:127<=l.kd
 ·by_cases Ad:l.kd<=138
  ·exact((h 0).step (binOp (l.kd-100)) (A4p z4ma) (fun _=>0) l.line).eq (fun e=>A0q A2 Ad)
  ·exact(Db.bool (h 1) (h 2) (binOp (l.kd-100)) l.line).eq (fun e=>A0r z4ma)
 ·have D4:l.kd=1\/l.kd=2\/l.kd=3\/l.kd=4\/l.kd=5\/l.kd=6\/l.kd=7\/l.kd=8\/l.kd=9\/l.kd=10\/l.kd=11\/l.kd=12\/l.kd=13\/l.kd=14:=by omega
  rcases D4 with q|q|q|q|q|q|q|q|q|q|q|q|q|q
  ·exact(Db.F5 _).eq (fun e=>A04 q)
  ·exact(Db.F5 _).eq (fun e=>A0a q)
  ·exact(Db.F5 _).eq (fun e=>A0h q)
  ·exact(Db.F5 _).eq (fun e=>A0k q)
  ·exact(Db.F5 _).eq (fun e=>A0l q)
  ·exact((Db.Kl b).var gl l.s (x:=1) (y:=2) z4ma z4ma).eq (fun e=>A0m q)
  ·exact((h 0).step 42 (nj z4ma) (fun _=>Lo fns l.s) l.line).eq (fun e=>A0n q)
  ·exact(h 0).eq (fun e=>A0o q)
  ·exact((h 0).step 36 (nj z4ma) (fun _=>(Aj c:Nat)) l.line).eq (fun e=>A0p q)
  ·exact((h 0).step 37 (nj z4ma) (fun _=>0) l.line).eq (fun e=>A05 q)
  ·exact((h 0).step 38 (nj z4ma) (fun _=>0) l.line).eq (fun e=>A06 q)
  ·exact((h 0).step 39 (nj z4ma) (fun _=>0) l.line).eq (fun e=>A07 q)
  ·exact((h 0).step 27 (nj z4ma) (fun _=>0) l.line).eq (fun e=>A08 q)
  ·exact((h 0).step 23 (nj z4ma) (fun _=>0) l.line).eq (fun e=>A09 q)
def Ai7{l:A5}{c:BT A5}(hk:No l.kd=true)(h:∀m,Db true (em fns gl c m)):Db true (Aq fns gl l (Aj c) (em fns gl c)):=by
 unfold No at hk;simp only[Gz,F3,Jg,Fh]at hk;have hc:l.kd=21\/l.kd=24\/l.kd=25\/l.kd=26\/l.kd=27\/l.kd=28\/l.kd=29\/l.kd=30:=by omega
 rcases hc with q|q|q|q|q|q|q|q
 ·have:=(((h 0).same (fun e=>(em fns gl c 0 e).local' l.s) (fun _=>rfl) (fun _=>rfl)).step 3 (nj z4ma) (fun e=>((em fns gl c 0 e).loc.length:Nat)) 0);exact this.eq (fun e=>A5j q)
 ·by_cases hn:Aj c=0
  ·exact((Db.Kl true).step 43 (nj z4ma) (fun _=>0) 0).eq (fun e=>by rw[Xz q,A7 hn])
  ·exact((h 0).step 44 (nj z4ma) (fun _=>0) 0).eq (fun e=>by rw[Xz q,A1 hn])
 ·exact Db.Ip.eq (fun e=>A0c q)
 ·exact Db.cnt.eq (fun e=>A0d q)
 ·exact((h 0).step 41 (nj z4ma) (fun _=>0) l.line).eq (fun e=>A0e q)
 ·exact((h 0).var gl l.s (x:=3) (y:=4) z4ma z4ma).eq (fun e=>A0f q)
 ·exact((h 0).step 40 (nj z4ma) (fun _=>0) l.line).eq (fun e=>A0g q)
 ·exact((h 0).step 5 (nj z4ma) (fun _=>0) 0).eq (fun e=>A0i q)
def Ai1{l:A5}{c:BT A5}(hk:l.kd=22)(h:∀m,Db true (em fns gl c m)):Db true (Aq fns gl l (Aj c) (em fns gl c)):=by
 by_cases hn:Aj c=3
 ·refine(Db.cond (h 1) (h 2) (h 3) l.line).eq (fun e=>?_);rw[Xy hk];unfold M3;dsimp only;rw[A7 hn]
 ·refine(Db.cond (h 1) (h 2) (Db.Kl true) l.line).eq (fun e=>?_);rw[Xy hk];unfold M3;dsimp only;rw[A1 hn]
def A5q{l:A5}{c r:BT A5}{x y:Nat}(hN:Db b (Aq fns gl l (Aj c) (em fns gl c)))(hr:∀m,Db b (em fns gl r m))(m:Nat):Db b (em fns gl (.node x y l c r) m):=by
 by_cases h2:2<=m
 ·exact(hr (m-1)).eq (fun e=>by rw[em,A7 h2])
 ·by_cases h1:m=1
  ·exact hN.eq (fun e=>by rw[em,A1 h2,A7 h1])
  ·exact(hN.comp (hr 0)).eq (fun e=>by rw[em,A1 h2,A1 h1])
def A0w:∀c:BT A5,R3 c->(Wf 0 c->∀b m,Db b (em fns gl c m))/\(Wf 1 c\/Wf 2 c\/Wf 3 c->∀m,Db true (em fns gl c m))/\(∀x y l1 c1 r1,c=.node x y l1 c1 r1->Ej l1.kd=true->Wf 0 c1->∀b,Db b (em fns gl c 1)):=by
 intro c;induction c with
 | nil=>intro _;exact⟨fun _ b m=>(Db.Kl b).eq (fun e=>rfl),fun _ m=>(Db.Kl true).eq (fun e=>rfl),fun x y l1 c1 r1 q=>by cases q⟩
 | node x y l c r D5 C6=>
  rintro⟨_,h23,_,hsc,hsr⟩;obtain⟨c0,c1,c3⟩:=D5 hsc;obtain⟨r0,r1,_⟩:=C6 hsr;refine⟨fun hw b m=>?_,fun hw m=>?_,fun x' y' l1 cc rr q hk hw b=>?_⟩
  ·obtain⟨w1,w2⟩:=hw;have hx:Ej l.kd=true/\Wf 0 c:=by
    exact z2oa
   exact A5q (A0s hx.1 (c0 hx.2 b)) (r0 w1 b) m
  ·have hr:∀m,Db true (em fns gl r m):=by
    rcases hw with h|h|h
    ·exact r1 (.inl h.1)
    ·exact r1 (.inr (.inl h.1))
    ·exact r1 (.inr (.inr h.1))
   refine A5q ?_ hr m;have hc:(Ej l.kd=true/\Wf 0 c)\/((l.kd=31\/l.kd=32)/\Wf 1 c)\/(l.kd=22/\Wf 2 c)\/(l.kd=23/\Wf 3 c)\/(No l.kd=true/\Wf 0 c):=by
    rcases hw with h|h|h
    ·rcases h.2 with⟨q,h1,h2⟩|⟨q,h1,h2⟩|⟨q,h1,h2⟩|⟨q,h1,h2⟩|⟨q,h1,h2⟩|⟨q,h1,h2⟩|⟨q,h1,h2⟩
     ·omega
     ·omega
     ·omega
     ·exact .inr (.inr (.inl ⟨h1,h2⟩))
     ·exact .inr (.inr (.inr (.inl ⟨h1,h2⟩)))
     ·exact .inr (.inr (.inr (.inr ⟨h1,h2⟩)))
     ·omega
    ·rcases h.2 with⟨q,h1,h2⟩|⟨q,h1,h2⟩|⟨q,h1,h2⟩|⟨q,h1,h2⟩|⟨q,h1,h2⟩|⟨q,h1,h2⟩|⟨q,h1,h2⟩
     ·exact .inl ⟨h1,h2⟩
     ·exact .inr (.inl ⟨.inl h1,h2⟩)
     all_goals omega
    ·rcases h.2 with⟨q,h1,h2⟩|⟨q,h1,h2⟩|⟨q,h1,h2⟩|⟨q,h1,h2⟩|⟨q,h1,h2⟩|⟨q,h1,h2⟩|⟨q,h1,h2⟩
     ·exact .inl ⟨h1,h2⟩
     ·omega
     ·exact .inr (.inl ⟨.inr h1,h2⟩)
     all_goals omega
   rcases hc with⟨h1,h2⟩|⟨h1,h2⟩|⟨h1,h2⟩|⟨h1,h2⟩|⟨h1,h2⟩
   ·exact A0s h1 (c0 h2 true)
   ·refine((c1 (.inl h2) 0).same (fun e=>(em fns gl c 0 e).cut e.loc.length) (fun _=>rfl) (fun _=>rfl)).eq (fun e=>?_);rcases h1 with h1|h1
    ·exact Vo h1
    ·exact A0j h1
   ·exact Ai1 h1 (c1 (.inr (.inl h2)))
   ·obtain⟨e1,b1,hce,hl1,ht1⟩:=h23 h1;cases e1 with
    | nil=>simp[Aj]at hl1
    | node xa ya la ca ra=>
     have hwa:Ej la.kd=true/\Wf 0 ca:=by
      rw[hce]at h2;rcases h2.2 with⟨_,g1,g2⟩|⟨g1,_⟩|⟨_,g1,_⟩|⟨g1,_⟩|⟨g1,_⟩|⟨g1,_⟩|⟨g1,_⟩
      ·exact⟨g1,g2⟩
      ·omega
      ·exact absurd g1 ht1.1
      all_goals omega
     have hf:=c3 xa ya la ca (Dw ra (nd (B4 32 0) b1)) hce hwa.1 hwa.2 false;exact(Db.while hf (c1 (.inr (.inr h2)) 2) l.line).eq (fun e=>by rw[A0b h1];rfl)
   ·exact Ai7 h1 (c0 h2 true)
  ·cases q;exact(A0s hk (c0 hw b)).eq (fun e=>rfl)
def Zq(ls:List Nat)(st:List Aa):Prop:=ls.length=st.length+1/\ls[0]?=some 0/\∀p i,st[p]?=some i->SQ ls p i/\LJ ls p i
def Ob(st:List Aa):Prop:=∃ls,Zq ls st
def Po:Nat->Prop:=fun _=>False
def A6m(loc:List Nm)(slots:Nat):GI [0] 0 true Po ⟨loc,slots,[],[]⟩:=⟨rfl,rfl,fun p i q=>by simp at q,fun p i q=>by simp at q,trivial⟩
def GI.good{ls:List Nat}{e:Em}(h:GI ([0]++ls) 0 true Po e)(hl:e.lps=[]):Ob e.st:=by
 refine⟨[0]++ls,h.len,rfl,fun p i q=>⟨h.sq p i q,?_⟩⟩;rcases h.jm p i q with r|r|⟨x,hx,_⟩
 ·exact r
 ·exact r.elim
 ·rw[hl]at hx;cases hx
def A9i{e:Em}(h:Ey e=[]):e.lps=[]:=by unfold Ey at h;simpa using h
def Ahx(l:A5)(c:BT A5)(hs:R3 c)(hw:Wf 1 c):Ob (Mf fns gl l c).steps:=by
 have h:=(((A0w (fns:=fns) (gl:=gl) c hs).2.1 (.inl hw) 0).step 43 (nj z4ma) (fun _=>0) 0);obtain⟨ls,h1,h2⟩:=h _ _ _ _ (A6m (l.ps.map Prod.snd) l.ps.length);exact h1.good (A9i h2)
def z3wa {P:Prop} (h:P:=by
  exact .inr (.inr (.inr (.inl ⟨.inl rfl,q⟩)))):P:=h
def z2ba {P:Prop} (h:P:=by
  exact absurd q z4oa):P:=h
def Aif:∀(c:BT A5),R3 c->Wf 4 c->∀(gl:List Nm) (fs:List Fn) (e:Em) (ls:List Nat),(∀f∈fs,Ob f.steps)->GI ([0]++ls) 0 true Po e->e.lps=[]->Ob (Ht fns c gl fs e).main/\∀f∈(Ht fns c gl fs e).fns,Ob f.steps:=by
 intro c;induction c with
 | nil=>intro _ _ gl fs e ls hf h hl;exact⟨h.good hl,hf⟩
 | node x y l c r _ C6=>
  rintro⟨g1,g2,g3,hsc,hsr⟩ ⟨hwr,hwn⟩ gl fs e ls hf h hl;have next:∀{f:Em->Em},Db true f->∃ls',GI ([0]++ls') 0 true Po (f e)/\(f e).lps=[]:=fun hO=>by
   obtain⟨l1,h1,h2⟩:=hO _ _ _ _ h;exact⟨ls++l1,by rw[←Gv];exact h1,A9i (h2.trans (by unfold Ey;rw[hl];rfl))⟩
  rw[Ht];by_cases h20:l.kd=20
  ·rw[A7 h20];have Fe:Wf 1 c:=by
    rcases hwn with⟨q,_⟩|⟨q,_⟩|⟨q,_⟩|⟨_,q,_⟩|⟨_,q,_⟩|⟨_,q,_⟩|⟨_,_,q⟩
    ·omega
    ·omega
    ·omega
    ·omega
    ·omega
    ·rw[h20]at q;exact z2ba
    ·exact q
   refine C6 hsr hwr gl _ e ls (fun f hff=>?_) h hl;rcases Jp.1 hff with q|q
   ·exact hf f q
   ·rw[Lb.1 q];exact Ahx l c hsc Fe
  rw[A1 h20];have Fe:Wf 1 (nd l c):=by
   refine⟨trivial,?_⟩;rcases hwn with⟨q,_⟩|⟨q,_⟩|⟨q,_⟩|⟨_,q⟩|⟨_,q⟩|⟨_,q⟩|⟨_,q,_⟩
   ·omega
   ·omega
   ·omega
   ·exact z3wa
   ·exact .inr (.inr (.inr (.inr (.inl ⟨.inl rfl,q⟩))))
   ·exact .inr (.inr (.inr (.inr (.inr (.inl ⟨.inl rfl,q⟩)))))
   ·exact absurd q h20
  have Ax:R3 (nd l c):=⟨g1,g2,g3,hsc,trivial⟩;by_cases h21:l.kd=21
  ·rw[A7 h21];have Dk:Wf 0 c:=by
    rcases hwn with⟨q,_⟩|⟨q,_⟩|⟨q,_⟩|⟨_,q,_⟩|⟨_,q,_⟩|⟨_,_,q⟩|⟨_,q,_⟩
    ·omega
    ·omega
    ·omega
    ·omega
    ·omega
    ·exact q
    ·omega
   obtain⟨ls',k1,k2⟩:=next (((A0w (fns:=fns) (gl:=gl) c hsc).1 Dk true 0).step 4 (nj z4ma) (fun _=>(gl.length:Nat)) 0);exact C6 hsr hwr _ _ _ ls' hf k1 k2
  ·rw[A1 h21];obtain⟨ls',k1,k2⟩:=next ((A0w (fns:=fns) (gl:=gl) (nd l c) Ax).2.1 (.inl Fe) 0);exact C6 hsr hwr _ _ _ ls' hf k1 k2
def Aib(c:BT A5)(hs:R3 c)(hw:Wf 4 c):Ob (Fo c).main/\∀f∈(Fo c).fns,Ob f.steps:=
 Aif c hs hw [] [] ⟨[],0,[],[]⟩ [] (fun f q=>by cases q) (A6m [] 0) rfl
