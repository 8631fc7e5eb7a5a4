set_option maxHeartbeats 20000000
set_option linter.defProp false
namespace Go.Proofs.YtjdlndhfaaolaaaGreatDoor
section
def A1:=@if_neg
def A7:=@if_pos
def Af:=@Nat.le_refl
def Am:=@beq_eq_false_iff_ne
def C3:=@And.intro
def Cb:=@Nat.lt_of_lt_of_le
def Cg:=@Option.some.injEq
def De:=@Nat.zero_le
def Dl:=@Option.some.inj
def Ds:=@List.length_append
def Eh:=@List.getElem?_eq_getElem
def F3:=@Bool.and_eq_true
def Fh:=@beq_iff_eq
def Fu:=@Nat.le_trans
def G3:=@List.length_take
def Gk:=@List.drop_eq_getElem_cons
def Gl:=@List.mem_of_getElem?
def Gv:=@List.append_assoc
def Gz:=@Bool.or_eq_true
def Hl:=@List.drop_zero
def Ho:=@List.getElem_mem
def Hp:=@Nat.min_eq_left
def Ia:=@List.drop_succ_cons
def Il:=@List.length_cons
def J1:=@List.take_zero
def Jg:=@decide_eq_true_eq
def Jh:=@List.take_succ_cons
def Jo:=@List.length_nil
def Jp:=@List.mem_append
def K4:=@List.getElem?_eq_some_iff
def L9:=@List.mem_cons
def La:=@ne_eq
def Lb:=@List.mem_singleton
def Lc:=@List.length_set
def Li:=@Array.getElem?_eq_getElem
def Lj:=@Nat.le_succ
def Lw:=@List.length_singleton
def Lx:=@List.append_nil
def Ma:=@Nat.add_zero
def Mb:=@List.length_map
def Mm:=@Nat.add_mul
def N2:=@Nat.lt_or_ge
def N3:=@congrArg
def N4:=@Ne.symm
def N5:=@Array.getElem?_setIfInBounds
def N6:=@List.getElem?_eq_none
def O2:=@decide_eq_false
def O4:=@Nat.mul_one
def O5:=@Nat.mul_le_mul_right
def O6:=@List.mem_or_eq_of_mem_set
def O8:=@Int.toNat_natCast
def Oq:=@if_false
def Ot:=@List.take_of_length_le
def Ou:=@List.getElem?_append_left
def P6:=@if_true
def P8:=@bne_iff_ne
def Px:=@Prod.mk.injEq
def Py:=@Bool.false_eq_true
def Pz:=@List.drop_eq_nil_of_le
def Q0:=@List.mem_cons_self
def Q1:=@List.take_length
def Q2:=@List.map_cons
def Q3:=@List.dropLast_subset
def Qs:=@List.length_drop
def Qt:=@List.getElem?_map
def Qu:=@List.mem_map
def Qv:=@List.mem_replicate
def S9:=@Array.getElem?_toList
def Sa:=@decide_eq_true
def Sb:=@List.mem_cons_of_mem
def Sd:=@List.take_take
def Se:=@List.nil_append
def Sf:=@List.getLastD_eq_getLast?
def Sg:=@List.length_dropLast
def Te:=@List.getElem?_take
def Tf:=@Nat.zero_add
def Tg:=@List.takeWhile_cons
def Th:=@List.getElem?_append_right
def Ti:=@List.getElem?_cons_succ
def Tj:=@List.take_left
def Tl:=@List.length_replicate
def Uy:=@Bool.true_and
def Uz:=@List.drop_drop
def V0:=@List.map_append
def V1:=@List.getElem_cons_zero
def V2:=@Bool.false_and
def V3:=@List.cons.injEq
def V4:=@Array.toList_setIfInBounds
def V5:=@Nat.one_mul
def V7:=@List.dropLast_concat
def X0:=@Nat.add_assoc
def X3:=@List.length_eq_zero_iff
def X4:=@List.take_succ_eq_append_getElem
def X5:=@Bool.true_or
def X6:=@Option.map_some
def X7:=@List.getElem?_cons_zero
def X9:=@List.set_set
def Z7:=@Nat.mul_le_mul
def Z8:=@List.drop_of_length_le
def Z9:=@List.takeWhile_sublist
def Za:=@List.find?_cons
def Zb:=@Bool.or_eq_false_iff
def Zc:=@Nat.add_sub_add_right
def Zd:=@Bool.false_or
def Ze:=@decide_eq_false_iff_not
def Zf:=@Array.toArray_toList
def Zi:=@List.getLast?_eq_getElem?
def Zj:=@List.mem_of_mem_take
def Zk:=@List.getElem?_set_self
def Zl:=@List.mem_iff_getElem?
def A31:=@decide_eq_decide
def A32:=@List.getElem_take
def A33:=@List.find?_nil
def A34:=@List.flatMap_cons
def A35:=@List.take_append_drop
def A37:=@Option.bind_some
def A39:=@List.take_set_of_le
def A3a:=@List.map_take
def A3b:=@List.getElem_append_left
def A3c:=@List.getElem_append_right
def A3d:=@List.mem_of_mem_tail
def A3e:=@List.reverse_cons
def A3f:=@List.map_nil
def A3h:=@Nat.le_add_right
def A3i:=@List.length_range
def A3j:=@List.mem_of_getLast?
def A3k:=@List.getElem?_modify
def A3l:=@Nat.le_of_eq
def A3m:=@List.take_add_one
def A3n:=@List.getElem?_set
def A3o:=@Option.getD_some
def A3p:=@List.getLastD_concat
def A3q:=@Nat.le_max_right
def A3r:=@Nat.le_max_left
def A3s:=@of_decide_eq_true
def Aar:=@Array.getElem?_eq_none
def Aas:=@Bool.and_eq_false_iff
def Aat:=@List.set_append_right
def Aau:=@List.take_append_of_le_length
def Aav:=@List.take_length_add_append
def Aaw:=@List.getElem_set_self
def Aax:=@Int.tmod_eq_emod_of_nonneg
def Aay:=@List.length_eq_one_iff
def Ai{c:Prop}[Decidable c]{α:Sort _}{t e:α}(h:¬c:=by omega):(if c then t else e)=e:=if_neg h
def Mn{c:Prop}[Decidable c]{α:Sort _}{t e:α}(h:c:=by omega):(if c then t else e)=t:=if_pos h
structure Tk where
 k:Nat
 line:Nat
 s:List UInt8
 n:Int
def E5(c:UInt8):Bool:=decide (48<=c.toNat)&&decide (c.toNat<=57)
def isLet(c:UInt8):Bool:=(decide (97<=c.toNat)&&decide (c.toNat<=122))||(decide (65<=c.toNat)&&decide (c.toNat<=90))
def Es(c:UInt8):Bool:=isLet c||E5 c||(c==95)
def Ja(c:UInt8):Bool:=decide (32<=c.toNat)&&decide (c.toNat<=126)
def A1q:Int:=9223372036854775807
def Kw:Int->List UInt8->Int
 | a,[]=>a
 | a,c::r=>Kw (10*a+((c.toNat:Int)-48)) r
def numOf(l:List UInt8):Option Int:=if Kw 0 l<=A1q then some (Kw 0 l) else none
def quot:Bool->List UInt8->Option (List UInt8×Nat)
 | _,[]=>none
 | true,c::r=>
  if c==34||c==92||c==110 then
   match quot false r with
   | some x=>some ((if c==110 then 10 else c)::x.1,x.2+1)
   | none=>none
  else none
 | false,c::r=>
  if Ja c then
   if c==34 then some ([],1)
   else if c==92 then
    match quot true r with
    | some x=>some (x.1,x.2+1)
    | none=>none
   else
    match quot false r with
    | some x=>some (c::x.1,x.2+1)
    | none=>none
  else none
def O0(l:List UInt8):Nat:=
 if l==[102,110] then 4 else if l==[108,101,116] then 5 else if l==[105,102] then 6 else if l==[101,108,115,101] then 7
 else if l==[119,104,105,108,101] then 8 else if l==[114,101,116,117,114,110] then 9 else if l==[98,114,101,97,107] then 10
 else if l==[99,111,110,116,105,110,117,101] then 11 else if l==[112,114,105,110,116] then 12 else if l==[116,114,117,101] then 13
 else if l==[102,97,108,115,101] then 14 else if l==[110,117,108,108] then 15 else if l==[108,101,110] then 16 else if l==[112,117,115,104] then 17 else 0
def Mk(c d:UInt8):Nat:=
 if c==61&&d==61 then 27 else if c==33&&d==61 then 29 else if c==60&&d==61 then 31 else if c==62&&d==61 then 33
 else if c==38&&d==38 then 39 else if c==124&&d==124 then 40 else 0
def K1(c:UInt8):Nat:=
 if c==40 then 18 else if c==41 then 19 else if c==123 then 20 else if c==125 then 21 else if c==91 then 22 else if c==93 then 23
 else if c==44 then 24 else if c==59 then 25 else if c==61 then 26 else if c==33 then 28 else if c==60 then 30 else if c==62 then 32
 else if c==43 then 34 else if c==45 then 35 else if c==42 then 36 else if c==47 then 37 else if c==37 then 38 else 0
def I9:List UInt8->Nat×Nat
 | []=>(0,0)
 | [c]=>if K1 c==0 then(0,0) else(K1 c,1)
 | c::d::_=>if Mk c d !=0 then(Mk c d,2) else if K1 c==0 then(0,0) else(K1 c,1)
def Fq:List UInt8->Option (Tk×Nat)
 | []=>none
 | c::r=>
  if E5 c then
   match numOf ((c::r).takeWhile E5) with
   | some n=>some (⟨2,0,[],n⟩,((c::r).takeWhile E5).length)
   | none=>none
  else if isLet c then
   if O0 ((c::r).takeWhile Es) !=0 then some (⟨O0 ((c::r).takeWhile Es),0,[],0⟩,((c::r).takeWhile Es).length)
   else if((c::r).takeWhile Es).length<=16 then some (⟨1,0,(c::r).takeWhile Es,0⟩,((c::r).takeWhile Es).length)
   else none
  else if c==34 then
   match quot false r with
   | some x=>some (⟨3,0,x.1,0⟩,x.2+1)
   | none=>none
  else if(I9 (c::r)).2==0 then none
  else some (⟨(I9 (c::r)).1,0,[],0⟩,(I9 (c::r)).2)
def lex:Nat->List UInt8->Nat->Bool->Nat ⊕ List Tk
 | 0,_,line,_=>.inl line
 | _+1,[],line,_=>.inr [⟨0,line,[],0⟩]
 | f+1,c::r,line,said=>
  if c==10 then lex f r (line+1) false
  else if c !=9&&!(Ja c) then .inl line
  else if said||(c==47&&r.head?==some 47)||c==9||c==32 then lex f r line (said||(c==47&&r.head?==some 47))
  else match Fq (c::r) with
   | none=>.inl line
   | some (t,n)=>
    match lex f ((c::r).drop n) line false with
    | .inl l=>.inl l
    | .inr ts=>.inr ({ t with line:=line }::ts)
def Nl(acc:List UInt8)(d:Nat)(q:Option (List UInt8×Nat)):Option (List UInt8×Nat):=q.map fun x=>(acc++x.1,d+x.2)
def Axq(q:Option (List UInt8×Nat)):List UInt8:=match q with
 | some x=>x.1
 | none=>[]
def Apy(l:List UInt8)(k:Nat)(h:l.length<=k):quot false (l.drop k)=none:=by
 rw[Z8 h];rfl
def Apr(l:List UInt8)(k:Nat)(h:k<l.length)(hp:Ja l[k]=false):quot false (l.drop k)=none:=by
 rw[Gk h,quot,hp];rfl
def Aps(l:List UInt8)(k:Nat)(h:k<l.length)(hc:l[k]=34):quot false (l.drop k)=some ([],1):=by
 rw[Gk h,hc];rfl
def Apz(l:List UInt8)(k:Nat)(h:k<l.length)(hp:Ja l[k]=true)(h1:l[k]≠34)(h2:l[k]≠92):quot false (l.drop k)=Nl [l[k]] 1 (quot false (l.drop (k+1))):=by
 rw[Gk h,quot,hp];rw[A7 rfl,A1 (by simpa using h1),A1 (by simpa using h2)];cases quot false (l.drop (k+1)) with
 | none=>rfl
 | some x=>simp[Nl,Nat.add_comm]
def Apw(l:List UInt8)(k:Nat)(h:k<l.length)(hc:l[k]=92)(h':l.length<=k+1):quot false (l.drop k)=none:=by
 rw[Gk h,hc,Z8 h'];rfl
def z4ma {P:Prop} (h:P:=by omega):P:=h
def Apu(l:List UInt8)(k:Nat)(h:k+1<l.length)(hc:l[k]=92)(h1:l[k+1]≠34)(h2:l[k+1]≠92)(h3:l[k+1]≠110):quot false (l.drop k)=none:=by
 rw[Gk z4ma,hc,Gk h];simp[quot,Ja,h1,h2,h3]
def A20(l:List UInt8)(k:Nat)(h:k+1<l.length)(hc:l[k]=92)(h1:l[k+1]=34\/l[k+1]=92\/l[k+1]=110) :
  quot false (l.drop k)=Nl [if l[k+1]==110 then 10 else l[k+1]] 2 (quot false (l.drop (k+2))):=by
 rw[Gk z4ma,hc,Gk h];have hb:(l[k+1]==34||l[k+1]==92||l[k+1]==110)=true:=by
  rcases h1 with e|e|e <;> rw[e] <;> rfl
 rw[show quot false (92::l[k+1]::l.drop (k+1+1))=(match quot true (l[k+1]::l.drop (k+1+1)) with|some x=>some (x.1,x.2+1)|none=>none) from rfl];rw[quot,A7 hb];cases quot false (l.drop (k+1+1)) with
 | none=>rfl
 | some x=>simp[Nl];omega
def A8l(a b:List UInt8)(m n:Nat)(q:Option (List UInt8×Nat)):Nl a m (Nl b n q)=Nl (a++b) (m+n) q:=by
 cases q with
 | none=>rfl
 | some x=>simp[Nl,X0]
