import Derived.Test.YtjdlndhfaaolaaaGreatDoorX02
set_option maxHeartbeats 20000000
namespace Go.Proofs.YtjdlndhfaaolaaaGreatDoor
section
open Go.Deep (BT)
def Uo(n:Nat)(t:Tk):Tk:=⟨t.k,t.line+n,t.s,t.n⟩
def Z4(n:Nat):Nat ⊕ List Tk->Nat ⊕ List Tk
 | .inl k=>.inl (k+n)
 | .inr ts=>.inr (ts.map (Uo n))
theorem Aej(n:Nat):∀(f:Nat) (l:List UInt8) (line:Nat) (said:Bool),lex f l (line+n) said=Z4 n (lex f l line said):=by
 intro f;induction f with
 | zero=>intro l line said;rfl
 | succ f ih=>
  intro l line said;cases l with
  | nil=>rfl
  | cons c r=>
   rw[lex,lex];split
   ·rw[show line+n+1=line+1+n by omega];exact ih _ _ _
   split
   ·rfl
   split
   ·exact ih _ _ _
   cases E7 (c::r) with
   | none=>rfl
   | some x=>
    obtain⟨t,k⟩:=x;dsimp only;rw[ih];cases lex f ((c::r).drop k) line false with
    | inl j=>rfl
    | inr ts=>rfl
theorem Aeh:∀(n f:Nat) (l:List UInt8) (line:Nat),lex (f+n) (List.replicate n 10++l) line false=lex f l (line+n) false:=by
 intro n;induction n with
 | zero=>intro f l line;rfl
 | succ n ih=>
  intro f l line;rw[List.replicate_succ,List.cons_append,show f+(n+1)=f+n+1 by omega,lex,if_pos (show((10:UInt8)==10)=true from rfl),ih,show line+1+n=line+(n+1) by omega]
theorem Lt.of{m line:Nat}(hl:1<=line)(hm:line+m<=5000):∀ts:List Tk,Hu line m ts->(∀t∈ts,R3 t)->∃E,Hv E/\Lt E ts:=by
 intro ts;induction ts with
 | nil=>intro h;exact h.elim
 | cons t r ih=>
  rintro⟨h1,h4,_,⟨h2,h3⟩|⟨h2,h3⟩⟩ hf
  ·exact⟨t.line,⟨by omega,by omega⟩,.inl ⟨h2,h3,rfl⟩⟩
  ·obtain⟨E,k1,k2⟩:=ih h3 (fun x hx=>hf x (by simp[hx]));exact⟨E,k1,.inr ⟨h2,⟨by omega,by omega⟩,hf t z4wa,k2⟩⟩
theorem z3da {P:Prop} (h:P:=by
  cases hq:quot false r with
  | none=>rw[hq]at h;cases h
  | some y=>rw[hq]at h;cases h;have:=ih _ _ hq;simp;omega):P:=h
theorem Ahq:∀(r:List UInt8) (b:Bool) (x:List UInt8×Nat),quot b r=some x->x.1.length<=r.length:=by
 intro r;induction r with
 | nil=>intro b x h;cases b <;> simp[quot]at h
 | cons c r ih=>
  intro b x h;cases b
  ·rw[quot]at h;split at h
   ·split at h
    ·cases h;simp
    ·split at h
     ·cases hq:quot true r with
      | none=>rw[hq]at h;cases h
      | some y=>rw[hq]at h;cases h;have:=ih _ _ hq;simp;omega
     ·exact z3da
   ·cases h
  ·rw[quot]at h;split at h
   ·exact z3da
   ·cases h
theorem Aax:∀(l:List UInt8) (a:Int),(∀c∈l,Cw c=true)->0<=a->0<=Jl a l:=by
 intro l;induction l with
 | nil=>intro a _ h;exact h
 | cons c r ih=>
  intro a hd h;refine ih _ (fun x hx=>hd x (by simp[hx])) ?_;have:=hd c z4wa;unfold Cw at this;simp only[Bool.and_eq_true,decide_eq_true_eq]at this;omega
theorem Amq(c:UInt8)(r:List UInt8)(t:Tk)(k:Nat)(h:E7 (c::r)=some (t,k))(hl:(c::r).length<=2000):R3 t:=by
 have l2:((c::r).takeWhile Di).length<=(c::r).length:=(List.takeWhile_sublist Di).length_le;rw[E7]at h;split at h
 ·cases hn:numOf ((c::r).takeWhile Cw) with
  | none=>rw[hn]at h;cases h
  | some n=>
   rw[hn]at h;cases h;unfold numOf at hn;split at hn
   ·rename_i hm;cases hn;have:=Aax ((c::r).takeWhile Cw) 0 (fun x hx=>List.all_eq_true.1 (List.all_takeWhile (p:=Cw) (l:=c::r)) x hx) z4sa;unfold Xy at hm;exact⟨⟨by dsimp only;omega,hm⟩,by simp⟩
   ·cases hn
 ·split at h
  ·split at h
   ·cases h;exact⟨Lg,by simp⟩
   ·split at h
    ·cases h;exact⟨Lg,by dsimp only;omega⟩
    ·cases h
  ·split at h
   ·cases hq:quot false r with
    | none=>rw[hq]at h;cases h
    | some y=>rw[hq]at h;cases h;exact⟨Lg,by have:=Ahq _ _ _ hq;simp at hl ⊢;omega⟩
   ·split at h
    ·cases h
    ·cases h;exact⟨Lg,by simp⟩
theorem Tv:∀(f:Nat) (l:List UInt8) (line:Nat) (said:Bool) (ts:List Tk),lex f l line said=.inr ts->l.length<=2000->∀t∈ts,R3 t:=by
 intro f;induction f with
 | zero=>intro l line said ts h;rw[lex]at h;cases h
 | succ f ih=>
  intro l line said ts h hl;cases l with
  | nil=>
   rw[lex]at h;cases h;intro t ht;rw[List.mem_singleton.1 ht];exact⟨Lg,by simp⟩
  | cons c r=>
   have hr:r.length<=2000:=by simp at hl;omega
   rw[lex]at h;split at h
   ·exact ih _ _ _ _ h hr
   split at h
   ·cases h
   split at h
   ·exact ih _ _ _ _ h hr
   cases ht:E7 (c::r) with
   | none=>rw[ht]at h;cases h
   | some x=>
    obtain⟨t,k⟩:=x;rw[ht]at h;dsimp only at h;cases hx:lex f ((c::r).drop k) line false with
    | inl j=>rw[hx]at h;cases h
    | inr us=>
     rw[hx]at h;cases h;intro y hy;rcases List.mem_cons.1 hy with rfl|hy
     ·exact Amq c r t k ht hl
     ·exact ih _ _ _ _ hx (by rw[List.length_drop];omega) y hy
theorem Aez{n E:Nat}:∀ts:List Tk,Lt E ts->ts.map (Uo n)=ts.map (gT n (E+n)):=by
 intro ts;induction ts with
 | nil=>intro _;rfl
 | cons t r ih=>
  rintro(⟨h1,h2,h3⟩|⟨h1,_,_,h3⟩)
  ·subst h2;simp only[List.map_cons,List.map_nil,Uo,gT,h1,h3,if_true]
  ·simp only[List.map_cons,ih h3,Uo,gT,if_neg h1]
def Kt(n k:Nat):Nat:=if k=0 then 0 else k+n
theorem A24{n e E:Nat}:∀(ts:List Tk) (o:Int),Lt E ts->nest (ts.map (gT n e)) o=Kt n (nest ts o):=by
 intro ts;induction ts with
 | nil=>intro o h;exact h.elim
 | cons t r ih=>
  rintro o (⟨h1,h2,h3⟩|⟨h1,h2,_,h3⟩)
  ·subst h2;rw[List.map_cons,nest,nest,Xi,h1];rfl
  ·rw[List.map_cons,nest,nest,Xi];split
   ·split
    ·unfold Hv at h2;unfold Kt gT;rw[if_neg h1,if_neg (show t.line≠0 by omega)]
    ·exact ih _ h3
   ·split
    ·exact ih _ h3
    ·exact ih _ h3
def Iu(n:Nat)(f:C4):C4:=(f.1,if f.1=0 then f.2 else f.2+n)
theorem Pw(n:Nat)(is:Bool){code:Nat}(hc:code≠0)(line:Nat)(f:C4):Cy is code (line+n) (Iu n f)=Iu n (Cy is code line f):=by
 unfold Cy;show(if(is&&f.1==0)=true then _ else _)=_;split
 ·unfold Iu;simp[hc]
 ·rfl
theorem A3i(n:Nat)(fns:List (Nm×Nat)):∀(c:BT A3) (outer cur:List Nm) (wh:Nat) (inn:Bool) (f:C4),Ba fns (Dj n c) outer cur wh inn (Iu n f)=((Ba fns c outer cur wh inn f).1,Iu n (Ba fns c outer cur wh inn f).2):=by
 intro c;induction c with
 | nil=>intro outer cur wh inn f;rfl
 | node x y l c r Cb Bn=>
  intro outer cur wh inn f;rw[Dj,Ba,Ba,Pm];by_cases h1:l.kd=31
  ·rw[if_pos h1,if_pos h1,Cb];exact Bn _ _ _ _ _
  rw[if_neg h1,if_neg h1];by_cases h2:l.kd=32
  ·rw[if_pos h2,if_pos h2,Cb];exact Bn _ _ _ _ _
  rw[if_neg h2,if_neg h2,Pn,Um h1 h2,Pw n _ z4sa];by_cases h3:l.kd=21
  ·rw[if_pos h3,if_pos h3,Cb];exact Bn _ _ _ _ _
  rw[if_neg h3,if_neg h3];dsimp only;have e:(if l.kd=6\/l.kd=28 then Cy (!decide (l.s∈outer++cur)) 3 (l.line+n) (Iu n f)
    else if l.kd=7 then Cy (Ma fns l.s (Ak (Dj n c))) 3 (l.line+n) (Iu n f)
    else if l.kd=25\/l.kd=26 then Cy (wh==0) 4 (l.line+n) (Iu n f)
    else if l.kd=24 then Cy (!inn) 4 (l.line+n) (Iu n f)
    else Iu n f)=Iu n (if l.kd=6\/l.kd=28 then Cy (!decide (l.s∈outer++cur)) 3 l.line f
    else if l.kd=7 then Cy (Ma fns l.s (Ak c)) 3 l.line f
    else if l.kd=25\/l.kd=26 then Cy (wh==0) 4 l.line f
    else if l.kd=24 then Cy (!inn) 4 l.line f
    else f):=by
   rw[A3s,Pw n _ z4sa,Pw n _ z4sa,Pw n _ z4sa,Pw n _ z4sa];repeat' split
   all_goals rfl
  rw[e,Cb];exact Bn _ _ _ _ _
theorem Agt(n:Nat):∀(ps:List (Nat×Nm)) (cur:List Nm) (f:C4),Gw (ps.map (fun p=>(p.1+n,p.2))) cur (Iu n f)=((Gw ps cur f).1,Iu n (Gw ps cur f).2):=by
 intro ps;induction ps with
 | nil=>intro cur f;rfl
 | cons p r ih=>intro cur f;rw[List.map_cons,Gw,Gw,Pw n _ z4sa];exact ih _ _
theorem Aiw(n:Nat)(fns:List (Nm×Nat)):∀(c:BT A3) (seen cur:List Nm) (f:C4),Dq fns (Dj n c) seen cur (Iu n f)=Iu n (Dq fns c seen cur f):=by
 intro c;induction c with
 | nil=>intro seen cur f;rfl
 | node x y l c r _ Bn=>
  intro seen cur f;have hs:=A3i n fns (.node x y l c .nil) [] cur 0 false f;rw[Dj]at hs;rw[Dj,Dq,Dq,Pm];by_cases h1:l.kd=20
  ·rw[if_pos h1,if_pos h1];dsimp only;rw[Pn,Um z4sa z4sa,Pw n _ z4sa,show(Ge n l).ps=l.ps.map (fun p=>(p.1+n,p.2)) by unfold Ge;rw[if_neg z4sa],Agt,A3i];exact Bn _ _ _
  ·rw[if_neg h1,if_neg h1];show Dq fns (Dj n r) seen (Ba fns (.node x y (Ge n l) (Dj n c) (Dj n .nil)) [] cur 0 false (Iu n f)).1 (Ba fns (.node x y (Ge n l) (Dj n c) (Dj n .nil)) [] cur 0 false (Iu n f)).2=_;rw[hs];exact Bn _ _ _
theorem A0x(n:Nat):∀c:BT A3,Bx (Dj n c)=Bx c:=by
 intro c;induction c with
 | nil=>rfl
 | node x y l c r _ ih=>rw[Dj,Bx,Bx,ih,Pm,Pn,A3n]
def Fz(n:Nat)(i:Af):Af:=if i.op<7\/42<i.op then i else⟨i.op,i.arg,i.line+n,i.v⟩
def Ei(n:Nat)(e:Em):Em:=⟨e.loc,e.slots,e.st.map (Fz n),e.lps⟩
theorem Ajl(n:Nat)(a:Int):∀(j:Nat) (l:List Af),(Gm j a l).map (Fz n)=Gm j a (l.map (Fz n)):=by
 intro j;induction j with
 | zero=>
  intro l;cases l with
  | nil=>rfl
  | cons i r=>
   simp only[Gm,List.map_cons,List.cons.injEq,and_true];unfold Fz;dsimp only;split <;> rfl
 | succ j ih=>
  intro l;cases l with
  | nil=>rfl
  | cons i r=>simp only[Gm,List.map_cons,ih]
theorem Qf(n j:Nat)(e:Em):(Ei n e).land j=Ei n (e.land j):=by
 unfold Em.land Ei;simp only[List.length_map,Ajl]
theorem Ae8(n:Nat):∀(l:List Nat) (e:Em),(Ei n e).Dn l=Ei n (e.Dn l):=by
 intro l;induction l with
 | nil=>intro e;rfl
 | cons j r ih=>intro e;rw[Em.Dn,Em.Dn,Qf,ih]
theorem Mh(n:Nat){o:Nat}(h:o<7\/42<o)(a:Int)(e:Em)(ln:Nat):(Ei n e).step o a ln=Ei n (e.step o a ln):=by
 unfold Em.step Ei;simp only[List.map_append,List.map_cons,List.map_nil,Fz,if_pos h]
theorem La(n:Nat){o:Nat}(h:7<=o/\o<=42)(a:Int)(e:Em)(ln:Nat):(Ei n e).step o a (ln+n)=Ei n (e.step o a ln):=by
 unfold Em.step Ei;simp only[List.map_append,List.map_cons,List.map_nil,Fz,if_neg (show ¬(o<7\/42<o) by omega)]
theorem Rc(n:Nat)(v:PV)(e:Em):(Ei n e).F0 v=Ei n (e.F0 v):=by
 unfold Em.F0 Ei;simp[Fz]
theorem A4v(n:Nat)(gl:List Nm)(s:Nm){a b:Nat}(ha:a<7)(hb:b<7)(e:Em):(Ei n e).var gl s a b=Ei n (e.var gl s a b):=by
 unfold Em.var;show(match L4 s e.loc with|some i=>_|none=>_)=_;cases L4 s e.loc with
 | some i=>exact Mh n (.inl ha) _ _ _
 | none=>
  dsimp only;cases Kj s gl with
  | some i=>exact Mh n (.inl hb) _ _ _
  | none=>rfl
theorem A99(n:Nat)(e:Em):(Ei n e).Hw=Ei n e.Hw:=by
 unfold Em.Hw;show(match e.lps with|[]=>_|(s,bs)::r=>_)=_;cases e.lps with
 | nil=>rfl
 | cons x r=>obtain⟨s,bs⟩:=x;simp[Ei,Fz]
theorem Aa4(n:Nat)(e:Em):(Ei n e).cnt=Ei n e.cnt:=by
 unfold Em.cnt;show(match e.lps with|[]=>_|(s,_)::_=>_)=_;cases e.lps with
 | nil=>rfl
 | cons x r=>obtain⟨s,bs⟩:=x;exact Mh n (.inl z4sa) _ _ _
theorem k7(s:Nat):7<=binOp s/\binOp s<=42:=by
 unfold binOp;repeat' split
 all_goals omega
theorem Si(n:Nat)(e:Em):(Ei n e).st.length=e.st.length:=by unfold Ei;simp
theorem z1da {P:Prop} (h:P:=by
  rw[hl z4sa z4sa,hk];exact La n z4sa _ _ _):P:=h
theorem A09(n:Nat)(fns:List (Nm×Nat))(gl:List Nm)(l:A3)(m:Nat)(k k':Nat->Em->Em)(hk:∀m e,k' m (Ei n e)=Ei n (k m e))(e:Em):Am fns gl (Ge n l) m k' (Ei n e)=Ei n (Am fns gl l m k e):=by
 have hl:l.kd≠31->l.kd≠32->(Ge n l).line=l.line+n:=fun h1 h2=>Um h1 h2;have hif:∀line,Js (line+n) m k' (Ei n e)=Ei n (Js line m k e):=by
  intro line;unfold Js;dsimp only;rw[hk,La n z4sa,hk,Mh n z4sa,Si,Si,Qf];split
  ·rw[hk,Qf]
  ·rw[Qf]
 have hwh:∀line,L2 (line+n) k' (Ei n e)=Ei n (L2 line k e):=by
  intro line;unfold L2;dsimp only;have ho:(Ei n e).open'=Ei n e.open':=by unfold Em.open';simp[Ei]
  rw[ho,hk,La n z4sa,hk,Si,Si,Mh n z4sa,Qf];rw[show ∀d:Em,(Ei n d).Kc=d.Kc from fun _=>rfl,Ae8];rfl
 have hbo:∀o line,7<=o/\o<=42->Lf o (line+n) k' (Ei n e)=Ei n (Lf o line k e):=by
  intro o line ho;unfold Lf;dsimp only;rw[hk,La n ho,hk,La n z4sa,Si,Qf]
 unfold Am;rw[Pm,Pn,Ajo];revert hl;generalize (Ge n l).line=ln;generalize l.kd=kd;intro hl;split
 ·exact Rc n _ _
 ·exact Rc n _ _
 ·exact Rc n _ _
 ·exact Rc n _ _
 ·exact Rc n _ _
 ·exact A4v n _ _ z4sa z4sa _
 ·exact z1da
 ·exact hk _ _
 ·exact z1da
 ·exact z1da
 ·exact z1da
 ·exact z1da
 ·exact z1da
 ·exact z1da
 ·rw[hk];exact Mh n z4sa _ ((k 0 e).local' l.s) _
 ·rw[hl z4sa z4sa];exact hif _
 ·rw[hl z4sa z4sa];exact hwh _
 ·split
  ·exact Mh n z4sa _ _ _
  ·rw[hk];exact Mh n z4sa _ _ _
 ·exact A99 n _
 ·exact Aa4 n _
 ·exact z1da
 ·rw[hk];exact A4v n _ _ z4sa z4sa _
 ·exact z1da
 ·rw[hk];exact Mh n z4sa _ _ _
 ·rw[hk];rfl
 ·rw[hk];rfl
 ·have h31:kd≠31:=by assumption
  have h32:kd≠32:=by assumption
  rw[hl h31 h32];split
  ·exact hbo _ _ (k7 _)
  ·rw[hk];exact La n (k7 _) _ _ _
theorem X8(n:Nat)(fns:List (Nm×Nat))(gl:List Nm):∀(c:BT A3) (m:Nat) (e:Em),em fns gl (Dj n c) m (Ei n e)=Ei n (em fns gl c m e):=by
 intro c;induction c with
 | nil=>intro m e;rfl
 | node x y l c r Cb Bn=>
  intro m e;rw[Dj,em,em,A3s];split
  ·exact Bn _ _
  ·split
   ·exact A09 n fns gl l _ _ _ Cb e
   ·rw[A09 n fns gl l _ _ _ Cb e];exact Bn _ _
def Sg(n:Nat)(f:Fn):Fn:=⟨f.name,f.params,f.slots,f.steps.map (Fz n)⟩
def Kg(n:Nat)(P:D5):D5:=⟨P.globals,P.slots,P.main.map (Fz n),P.fns.map (Sg n)⟩
theorem Ab9(n:Nat)(fns:List (Nm×Nat))(gl:List Nm)(l:A3)(c:BT A3):K4 fns gl (Ge n l) (Dj n c)=Sg n (K4 fns gl l c):=by
 unfold K4;dsimp only;rw[Ajp,A3n,Pn];have:=X8 n fns gl c 0 ⟨l.ps.map Prod.snd,l.ps.length,[],[]⟩;rw[show Ei n ⟨l.ps.map Prod.snd,l.ps.length,[],[]⟩=⟨l.ps.map Prod.snd,l.ps.length,[],[]⟩ from rfl]at this;rw[this,Mh n z4sa];rfl
theorem Abp(n:Nat)(fns:List (Nm×Nat)):∀(c:BT A3) (gl:List Nm) (fs:List Fn) (e:Em),H9 fns (Dj n c) gl (fs.map (Sg n)) (Ei n e)=Kg n (H9 fns c gl fs e):=by
 intro c;induction c with
 | nil=>intro gl fs e;rfl
 | node x y l c r _ Bn=>
  intro gl fs e;rw[Dj,H9,H9,Pm];split
  ·rw[Ab9];have:=Bn gl (fs++[K4 fns gl l c]) e;rw[List.map_append]at this;exact this
  ·split
   ·rw[Pn,X8,Mh n z4sa];exact Bn _ _ _
   ·have:=X8 n fns gl (nd l c) 0 e;rw[Po]at this;rw[this];exact Bn _ _ _
theorem A0c(n:Nat)(c:BT A3):Ga (Dj n c)=Kg n (Ga c):=by
 unfold Ga;rw[A0x];exact Abp n (Bx c) c [] [] ⟨[],0,[],[]⟩
end
end Go.Proofs.YtjdlndhfaaolaaaGreatDoor
