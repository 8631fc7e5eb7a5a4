import Derived.Test.YtjdlndhfaaolaaaGreatDoorR04
set_option maxHeartbeats 20000000
namespace Go.Proofs.YtjdlndhfaaolaaaGreatDoor
section
theorem A8t(s:List UInt8):∀(w rest:List UInt8),(∀c∈s,c≠32)->(∀c∈w,c≠32)->((w++32::rest).take (s.length+1)==s++[32])=(s==w):=by
 induction s with
 | nil=>
  intro w rest _ hw;cases w with
  | nil=>rfl
  | cons c r=>
   have hc:=hw c (by simp);simp[hc]
 | cons a s ih=>
  intro w rest hs hw;cases w with
  | nil=>
   have ha:=hs a (by simp);have:((32:UInt8)==a)=false:=by rw[beq_eq_false_iff_ne];exact fun e=>ha e.symm
   simp[this]
  | cons c r=>
   have:=ih r rest (fun x hx=>hs x (by simp[hx])) (fun x hx=>hw x (by simp[hx]));simp only[List.cons_append,List.length_cons,List.take_succ_cons,List.cons_beq_cons,this];rw[show(c==a)=(a==c) from BEq.comm]
theorem Aco(s w rest:List UInt8)(hw:∀c∈w,c≠32):Kp (32::(s++[32])) (w++32::rest)=Kp (32::(s++[32])) (32::rest):=by
 induction w with
 | nil=>rfl
 | cons c r ih=>
  have hc:=hw c (by simp);have hb:(c==32)=false:=by rw[beq_eq_false_iff_ne];exact hc
  rw[List.cons_append,Kp,List.length_cons,List.take_succ_cons,List.cons_beq_cons,hb,Bool.false_and,Bool.false_or];exact ih (fun x hx=>hw x (by simp[hx]))
theorem M9(s w rest:List UInt8)(hs:∀c∈s,c≠32)(hw:∀c∈w,c≠32) :
  Kp (32::(s++[32])) (32::(w++32::rest))=((s==w)||Kp (32::(s++[32])) (32::rest)):=by
 rw[Kp,Aco s w rest hw];rw[List.length_cons,List.take_succ_cons,List.cons_beq_cons,List.length_append,List.length_singleton,A8t s w rest hs hw];rfl
def Ue:List UInt8:=[32,102,110,32,108,101,116,32,105,102,32,101,108,115,101,32,119,104,105,108,101,32,114,101,116,117,114,110,32,98,114,101,97,107,32,99,111,110,116,105,110,117,101,32,112,114,105,110,116,32,116,114,117,101,32,102,97,108,115,101,32,110,117,108,108,32,108,101,110,32,112,117,115,104,32]
theorem M5{x:Bool}{n m:Nat}(hn:n≠0):((if x=true then n else m) !=0)=(x||(m !=0)):=by
 cases x <;> simp[hn]
theorem ifo{x:Bool}{n m:Nat}(h:(if x=true then n else m)≠0):x=true\/m≠0:=by
 cases x
 ·right;simpa using h
 ·left;rfl
theorem A1p(s:List UInt8)(hs:∀c∈s,c≠32):Ic s Ue=(Iz s !=0):=by
 have e:Ic s Ue=((s==[102,110])||((s==[108,101,116])||((s==[105,102])||((s==[101,108,115,101])||((s==[119,104,105,108,101])||((s==[114,101,116,117,114,110])||((s==[98,114,101,97,107])||((s==[99,111,110,116,105,110,117,101])||((s==[112,114,105,110,116])||((s==[116,114,117,101])||((s==[102,97,108,115,101])||((s==[110,117,108,108])||((s==[108,101,110])||((s==[112,117,115,104])||false)))))))))))))):=by
  have hend:Kp (32::(s++[32])) [32]=false:=Z4 _ _ (by simp);unfold Ic Ue;rw[show([32,102,110,32,108,101,116,32,105,102,32,101,108,115,101,32,119,104,105,108,101,32,114,101,116,117,114,110,32,98,114,101,97,107,32,99,111,110,116,105,110,117,101,32,112,114,105,110,116,32,116,114,117,101,32,102,97,108,115,101,32,110,117,108,108,32,108,101,110,32,112,117,115,104,32]:List UInt8) =
   32::([102,110]++32::([108,101,116]++32::([105,102]++32::([101,108,115,101]++32::([119,104,105,108,101]++32::([114,101,116,117,114,110]++32::([98,114,101,97,107]++32::([99,111,110,116,105,110,117,101]++32::([112,114,105,110,116]++32::([116,114,117,101]++32::([102,97,108,115,101]++32::([110,117,108,108]++32::([108,101,110]++32::([112,117,115,104]++32::[])))))))))))))) from rfl]
  rw[M9 s _ _ hs (by decide),M9 s _ _ hs (by decide),M9 s _ _ hs (by decide),M9 s _ _ hs (by decide),M9 s _ _ hs (by decide),M9 s _ _ hs (by decide),M9 s _ _ hs (by decide),
   M9 s _ _ hs (by decide),M9 s _ _ hs (by decide),M9 s _ _ hs (by decide),M9 s _ _ hs (by decide),M9 s _ _ hs (by decide),M9 s _ _ hs (by decide),M9 s _ _ hs (by decide),hend]
 rw[e];unfold Iz;simp only[M5 (n:=4) (by decide),M5 (n:=5) (by decide),M5 (n:=6) (by decide),M5 (n:=7) (by decide),M5 (n:=8) (by decide),M5 (n:=9) (by decide),M5 (n:=10) (by decide),M5 (n:=11) (by decide),M5 (n:=12) (by decide),M5 (n:=13) (by decide),M5 (n:=14) (by decide),M5 (n:=15) (by decide),M5 (n:=16) (by decide),M5 (n:=17) (by decide)];rfl
theorem A6c(c:UInt8)(h:Ct c=true):c≠32:=by
 intro e;subst e;exact absurd h (by decide)
theorem Adw(s:List UInt8)(h:Iz s≠0):s.length<=8:=by
 unfold Iz at h;iterate 14 (rcases ifo h with e|h;· rw[eq_of_beq e];decide)
 exact absurd rfl h
theorem Ua(p:UInt8->Bool)(l:List UInt8)(i:Nat):(l.drop i).takeWhile p=(l.drop i).take (i-i)++(l.drop i).takeWhile p:=by simp
theorem Ub(p:UInt8->Bool)(l:List UInt8)(i k:Nat)(hk:i<=k)(hlt:k<l.length)(hp:p l[k]=true)(h:(l.drop i).takeWhile p=(l.drop i).take (k-i)++(l.drop k).takeWhile p) :
  (l.drop i).takeWhile p=(l.drop i).take (k+1-i)++(l.drop (k+1)).takeWhile p:=by
 rw[h,List.drop_eq_getElem_cons hlt,List.takeWhile_cons,hp];rw[show k+1-i=(k-i)+1 by omega,List.take_succ_eq_append_getElem (by simp;omega)];simp[show i+(k-i)=k by omega]
theorem Rc(p:UInt8->Bool)(l:List UInt8)(i k:Nat)(hp:∀h:k<l.length,p l[k]=false)(h:(l.drop i).takeWhile p=(l.drop i).take (k-i)++(l.drop k).takeWhile p) :
  (l.drop i).takeWhile p=(l.drop i).take (k-i):=by
 rw[h];by_cases hlt:k<l.length
 ·rw[List.drop_eq_getElem_cons hlt,List.takeWhile_cons,hp hlt];simp
 ·have:l.drop k=[]:=List.drop_of_length_le (by omega);rw[this];simp
theorem A06(p:UInt8->Bool)(l:List UInt8):∀c∈l.takeWhile p,p c=true:=by
 intro c hc;exact(List.all_eq_true.1 List.all_takeWhile) c hc
def Bz(k:Nat):Int:=if k=0 then 101 else if k=1 then 110 else if k=2 then 105 else if k=3 then 116 else if k<=17 then 119 else 115
def spell(k:Nat):List UInt8:=
 if k=4 then [102,110] else if k=5 then [108,101,116] else if k=6 then [105,102] else if k=7 then [101,108,115,101]
 else if k=8 then [119,104,105,108,101] else if k=9 then [114,101,116,117,114,110] else if k=10 then [98,114,101,97,107]
 else if k=11 then [99,111,110,116,105,110,117,101] else if k=12 then [112,114,105,110,116] else if k=13 then [116,114,117,101]
 else if k=14 then [102,97,108,115,101] else if k=15 then [110,117,108,108] else if k=16 then [108,101,110] else if k=17 then [112,117,115,104]
 else if k=18 then [40] else if k=19 then [41] else if k=20 then [123] else if k=21 then [125] else if k=22 then [91] else if k=23 then [93]
 else if k=24 then [44] else if k=25 then [59] else if k=26 then [61] else if k=27 then [61,61] else if k=28 then [33] else if k=29 then [33,61]
 else if k=30 then [60] else if k=31 then [60,61] else if k=32 then [62] else if k=33 then [62,61] else if k=34 then [43] else if k=35 then [45]
 else if k=36 then [42] else if k=37 then [47] else if k=38 then [37] else if k=39 then [38,38] else if k=40 then [124,124] else []
def Eu(t:Tk):List UInt8:=if t.k=1\/t.k=3 then t.s else spell t.k
theorem ifs{x:Bool}{n m:Nat}{P:Nat->Prop}(h1:x=true->P n)(h2:x=false->P m):P (if x=true then n else m):=by
 cases x
 ·simpa using h2 rfl
 ·simpa using h1 rfl
theorem Adx(s:List UInt8)(h:Iz s≠0):spell (Iz s)=s/\4<=Iz s/\Iz s<=17:=by
 revert h;unfold Iz;iterate 14 (refine ifs (P:=fun k=>k≠0->spell k=s/\4<=k/\k<=17) (fun e _=>?_) (fun _=>?_);· rw[eq_of_beq e];decide)
 intro h;exact absurd rfl h
theorem Abf(c d:UInt8)(h:L1 c d≠0):spell (L1 c d)=[c,d]/\18<=L1 c d/\L1 c d<=40:=by
 revert h;unfold L1;iterate 6 (refine ifs (P:=fun k=>k≠0->spell k=[c,d]/\18<=k/\k<=40) (fun e _=>?_) (fun _=>?_);· rw[Bool.and_eq_true]at e;rw[eq_of_beq e.1,eq_of_beq e.2];decide)
 intro h;exact absurd rfl h
theorem q8(c:UInt8)(h:Hz c≠0):spell (Hz c)=[c]/\18<=Hz c/\Hz c<=40:=by
 revert h;unfold Hz;iterate 17 (refine ifs (P:=fun k=>k≠0->spell k=[c]/\18<=k/\k<=40) (fun e _=>?_) (fun _=>?_);· rw[eq_of_beq e];decide)
 intro h;exact absurd rfl h
theorem W9(l:List UInt8)(h:(Ep l).2≠0):spell (Ep l).1=l.take (Ep l).2/\18<=(Ep l).1/\(Ep l).1<=40/\(Ep l).2<=l.length:=by
 match l,h with
 | [],h=>exact absurd rfl h
 | [c],h=>
  rw[Ep]at h ⊢;cases e:Hz c==0
  ·have:=q8 c (by simpa using e);simp[this]
  ·simp[e]at h
 | c::d::r,h=>
  rw[Ep]at h ⊢;cases e2:L1 c d !=0
  ·cases e:Hz c==0
   ·have:=q8 c (by simpa using e);simp[this]
   ·simp[e,e2]at h
  ·have:=Abf c d (by simpa using e2);simp[this]
def H9(x:Tk×List UInt8):List Value:=[.int .u8 (Bz x.1.k),.string ⟨x.2.toArray⟩,.int .i64 x.1.n,.int .i64 (x.1.line:Nat)]
def Jc(xs:List (Tk×List UInt8)):List Value:=xs.flatMap H9
def U6(xs:List (Tk×List UInt8)):Prop:=∀x∈xs,x.1.k≠2->x.2=Eu x.1
def Ru(xs:List (Tk×List UInt8))(r:Nat ⊕ List Tk):Nat ⊕ List Tk:=match r with
 | .inl n=>.inl n
 | .inr ts=>.inr (xs.map (·.1)++ts)
def Ix(l:List UInt8)(k:Nat):Bool:=(l[k]?==some 47)&&(l[k+1]?==some 47)
theorem A6s(r:Nat ⊕ List Tk):Ru [] r=r:=by cases r <;> rfl
theorem A6u(l:List UInt8)(k f ln:Nat)(sd:Bool)(h:l.length<=k):lex (f+1) (l.drop k) ln sd=.inr [⟨0,ln,[],0⟩]:=by
 rw[List.drop_of_length_le h];rfl
theorem A6x(l:List UInt8)(k f ln:Nat)(sd:Bool)(h:k<l.length)(hc:l[k]=10):lex (f+1) (l.drop k) ln sd=lex f (l.drop (k+1)) (ln+1) false:=by
 rw[List.drop_eq_getElem_cons h,lex,if_pos (by rw[hc];rfl)]
theorem A6t(l:List UInt8)(k f ln:Nat)(sd:Bool)(h:k<l.length)(hc:l[k]≠10)(h9:l[k]≠9)(hp:Ez l[k]=false):lex (f+1) (l.drop k) ln sd=.inl ln:=by
 rw[List.drop_eq_getElem_cons h,lex,if_neg (by simpa using hc),if_pos (by simp[h9,hp])]
theorem Vz(l:List UInt8)(k:Nat)(h:k<l.length):(l[k]==47&&(l.drop (k+1)).head?==some 47)=Ix l k:=by
 unfold Ix;rw[List.getElem?_eq_getElem h];simp[List.head?_drop]
theorem Ow(l:List UInt8)(k f ln:Nat)(sd:Bool)(h:k<l.length)(hc:l[k]≠10)(hp:l[k]=9\/Ez l[k]=true)(hs:(sd||Ix l k||l[k]==9||l[k]==32)=true) :
  lex (f+1) (l.drop k) ln sd=lex f (l.drop (k+1)) ln (sd||Ix l k):=by
 rw[←Vz l k h]at hs ⊢;rw[List.drop_eq_getElem_cons h,lex,if_neg (by simpa using hc),if_neg (by rcases hp with e|e <;> simp[e]),if_pos hs]
theorem Vd(l:List UInt8)(k f ln:Nat)(sd:Bool)(h:k<l.length)(hc:l[k]≠10)(hp:Ez l[k]=true)(hs:(sd||Ix l k||l[k]==9||l[k]==32)=false)(ht:Dp (l.drop k)=none) :
  lex (f+1) (l.drop k) ln sd=.inl ln:=by
 rw[←Vz l k h]at hs;rw[List.drop_eq_getElem_cons h]at ht ⊢;rw[lex,if_neg (by simpa using hc),if_neg (by simp[hp]),if_neg (by simp only[hs];simp),ht]
theorem Ve(l:List UInt8)(k f ln:Nat)(sd:Bool)(h:k<l.length)(hc:l[k]≠10)(hp:Ez l[k]=true)(hs:(sd||Ix l k||l[k]==9||l[k]==32)=false)(t:Tk)(n:Nat)(ht:Dp (l.drop k)=some (t,n))
  (xs:List (Tk×List UInt8)) (S:List UInt8) :
  Ru xs (lex (f+1) (l.drop k) ln sd)=Ru (xs++[({ t with line:=ln },S)]) (lex f (l.drop (k+n)) ln false):=by
 rw[←Vz l k h]at hs;have e:(l.drop k).drop n=l.drop (k+n):=by rw[List.drop_drop]
 rw[←e];rw[List.drop_eq_getElem_cons h]at ht ⊢;rw[lex,if_neg (by simpa using hc),if_neg (by simp[hp]),if_neg (by simp only[hs];simp),ht];simp only;cases lex f ((l[k]::l.drop (k+1)).drop n) ln false <;> simp[Ru]
theorem Aa4(l:List UInt8)(k:Nat)(h:k+1<l.length)(h1:l[k]=47)(h2:l[k+1]=47):Ix l k=true:=by
 unfold Ix;rw[List.getElem?_eq_getElem (by omega),List.getElem?_eq_getElem h,h1,h2];rfl
theorem n5(l:List UInt8)(k:Nat)(h:k<l.length)(h1:l[k]≠47):Ix l k=false:=by
 unfold Ix;rw[List.getElem?_eq_getElem h];simp[h1]
theorem Aa2(l:List UInt8)(k:Nat)(h:k+1<l.length)(h1:l[k+1]≠47):Ix l k=false:=by
 unfold Ix;rw[List.getElem?_eq_getElem h];simp[h1]
theorem Aa3(l:List UInt8)(k:Nat)(h:l.length<=k+1):Ix l k=false:=by
 unfold Ix;rw[List.getElem?_eq_none h];simp
theorem Wm(p:UInt8->Bool)(c:UInt8)(r:List UInt8)(h:p c=true):0<((c::r).takeWhile p).length/\((c::r).takeWhile p).length<=(c::r).length:=by
 constructor
 ·rw[List.takeWhile_cons,h];simp
 ·exact(List.takeWhile_sublist p).length_le
theorem A9b:∀(r:List UInt8) (b:Bool) (x:List UInt8×Nat),quot b r=some x->x.2<=r.length:=by
 intro r;induction r with
 | nil=>intro b x h;cases b <;> cases h
 | cons c r ih=>
  intro b x h;cases b
  ·rw[quot]at h;split at h
   ·split at h
    ·cases h;simp
    ·split at h
     ·split at h
      ·rename_i y hy;cases h;have:=ih true y hy;simp;exact this
      ·cases h
     ·split at h
      ·rename_i y hy;cases h;have:=ih false y hy;simp;exact this
      ·cases h
   ·cases h
  ·rw[quot]at h;split at h
   ·split at h
    ·rename_i y hy;cases h;have:=ih false y hy;simp;exact this
    ·cases h
   ·cases h
theorem U7(l:List UInt8)(t:Tk)(n:Nat)(h:Dp l=some (t,n)):0<n/\n<=l.length:=by
 cases l with
 | nil=>cases h
 | cons c r=>
  rw[Dp]at h;split at h
  ·rename_i hd;split at h
   ·simp only[Option.some.injEq,Prod.mk.injEq]at h;rw[←h.2];exact Wm Cd c r hd
   ·cases h
  ·split at h
   ·rename_i ha;have ha':Ct c=true:=by simp[Ct,ha]
    split at h
    ·simp only[Option.some.injEq,Prod.mk.injEq]at h;rw[←h.2];exact Wm Ct c r ha'
    ·split at h
     ·simp only[Option.some.injEq,Prod.mk.injEq]at h;rw[←h.2];exact Wm Ct c r ha'
     ·cases h
   ·split at h
    ·split at h
     ·rename_i x hx;simp only[Option.some.injEq,Prod.mk.injEq]at h;rw[←h.2];have:=A9b r false x hx;simp;exact this
     ·cases h
    ·split at h
     ·cases h
     ·rename_i hz;have hz':(Ep (c::r)).2≠0:=by simpa using hz
      simp only[Option.some.injEq,Prod.mk.injEq]at h;rw[←h.2];exact⟨by omega,(W9 _ hz').2.2.2⟩
def Aw:Bool->List UInt8->Nat×Nat×Bool
 | _,[]=>(0,0,true)
 | true,c::r=>
  if c==10 then((Aw false r).1+1,(Aw false r).2.1+1,(Aw false r).2.2)
  else if c !=9&&!(Ez c) then(0,0,false)
  else((Aw true r).1+1,(Aw true r).2.1,(Aw true r).2.2)
 | false,c::r=>
  if c==10 then((Aw false r).1+1,(Aw false r).2.1+1,(Aw false r).2.2)
  else if c==32||c==9 then((Aw false r).1+1,(Aw false r).2.1,(Aw false r).2.2)
  else if c==47&&r.head?==some 47 then((Aw true r).1+1,(Aw true r).2.1,(Aw true r).2.2)
  else(0,0,true)
def E3:List UInt8->Nat×Bool
 | []=>(0,true)
 | c::r=>if c==10 then(0,true) else if c !=9&&!(Ez c) then(0,false) else((E3 r).1+1,(E3 r).2)
theorem Aa5:∀l:List UInt8,(E3 l).1<=l.length:=by
 intro l;induction l with
 | nil=>simp[E3]
 | cons c r ih=>
  rw[E3];split
  ·simp
  split
  ·simp
  ·simp;exact ih
theorem Wa:∀(l:List UInt8) (b:Bool),(Aw b l).1<=l.length/\(Aw b l).2.1<=(Aw b l).1:=by
 intro l;induction l with
 | nil=>intro b;cases b <;> simp[Aw]
 | cons c r ih=>
  intro b;have h1:=ih true;have h0:=ih false;cases b
  ·rw[Aw];split
   ·simp;omega
   split
   ·simp;omega
   split
   ·simp;omega
   ·simp
  ·rw[Aw];split
   ·simp;omega
   split
   ·simp
   ·simp;omega
theorem Abs:∀l:List UInt8,Aw true l=if(E3 l).2 then((E3 l).1+(Aw false (l.drop (E3 l).1)).1,(Aw false (l.drop (E3 l).1)).2.1,(Aw false (l.drop (E3 l).1)).2.2) else((E3 l).1,0,false):=by
 intro l;induction l with
 | nil=>simp[Aw,E3]
 | cons c r ih=>
  rw[Aw,E3];by_cases h1:(c==10)=true
  ·simp only[h1,if_true,List.drop_zero];rw[Aw,if_pos h1];simp
  ·simp only[h1,Bool.false_eq_true,if_false];by_cases h2:(c !=9&&!(Ez c))=true
   ·simp[h2]
   ·simp only[h2,Bool.false_eq_true,if_false];rw[ih];by_cases h3:(E3 r).2=true
    ·simp only[h3,if_true,List.drop_succ_cons];refine Prod.ext ?_ rfl;simp only;omega
    ·simp only[h3,Bool.false_eq_true,if_false]
theorem Abq{c:UInt8}{r:List UInt8}(h:c=10):Aw false (c::r)=((Aw false r).1+1,(Aw false r).2.1+1,(Aw false r).2.2):=by
 subst h;rw[Aw,if_pos (by decide)]
theorem Abt{c:UInt8}{r:List UInt8}(h:c=32\/c=9):Aw false (c::r)=((Aw false r).1+1,(Aw false r).2.1,(Aw false r).2.2):=by
 rcases h with h|h <;> subst h <;> rw[Aw,if_neg (by decide),if_pos (by decide)]
theorem Abr{c:UInt8}{r:List UInt8}(h:c=47)(hr:r.head?=some 47):Aw false (c::r)=Aw true (c::r):=by
 subst h;have h1:Aw false (47::r)=((Aw true r).1+1,(Aw true r).2.1,(Aw true r).2.2):=by
  rw[Aw,if_neg (by decide),if_neg (by decide),if_pos (by rw[hr];decide)]
 have h2:Aw true (47::r)=((Aw true r).1+1,(Aw true r).2.1,(Aw true r).2.2):=by
  rw[Aw,if_neg (by decide),if_neg (by decide)]
 rw[h1,h2]
theorem r7{c:UInt8}{r:List UInt8}(h1:c≠10)(h2:c≠32)(h3:c≠9)(h4:¬(c=47/\r.head?=some 47)):Aw false (c::r)=(0,0,true):=by
 rw[Aw,if_neg (by simpa using h1),if_neg (by simp[h2,h3]),if_neg];intro e;simp only[Bool.and_eq_true,beq_iff_eq]at e;exact h4 e
end
end Go.Proofs.YtjdlndhfaaolaaaGreatDoor
