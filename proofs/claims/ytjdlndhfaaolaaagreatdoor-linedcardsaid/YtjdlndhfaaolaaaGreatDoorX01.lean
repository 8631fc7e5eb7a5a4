set_option maxHeartbeats 20000000
namespace Go.Proofs.YtjdlndhfaaolaaaGreatDoor
section
structure Tk where
 k:Nat
 line:Nat
 s:List UInt8
 n:Int
def Cw(c:UInt8):Bool:=decide (48<=c.toNat)&&decide (c.toNat<=57)
def isLet(c:UInt8):Bool:=(decide (97<=c.toNat)&&decide (c.toNat<=122))||(decide (65<=c.toNat)&&decide (c.toNat<=90))
def Di(c:UInt8):Bool:=isLet c||Cw c||(c==95)
def I4(c:UInt8):Bool:=decide (32<=c.toNat)&&decide (c.toNat<=126)
def Xy:Int:=9223372036854775807
def Jl:Int->List UInt8->Int
 | a,[]=>a
 | a,c::r=>Jl (10*a+((c.toNat:Int)-48)) r
def numOf(l:List UInt8):Option Int:=if Jl 0 l<=Xy then some (Jl 0 l) else none
def quot:Bool->List UInt8->Option (List UInt8×Nat)
 | _,[]=>none
 | true,c::r=>
  if c==34||c==92||c==110 then
   match quot false r with
   | some x=>some ((if c==110 then 10 else c)::x.1,x.2+1)
   | none=>none
  else none
 | false,c::r=>
  if I4 c then
   if c==34 then some ([],1)
   else if c==92 then
    match quot true r with
    | some x=>some (x.1,x.2+1)
    | none=>none
   else
    match quot false r with
    | some x=>some (c::x.1,x.2+1)
    | none=>none
  else none
def Lm(l:List UInt8):Nat:=
 if l==[102,110] then 4 else if l==[108,101,116] then 5 else if l==[105,102] then 6 else if l==[101,108,115,101] then 7
 else if l==[119,104,105,108,101] then 8 else if l==[114,101,116,117,114,110] then 9 else if l==[98,114,101,97,107] then 10
 else if l==[99,111,110,116,105,110,117,101] then 11 else if l==[112,114,105,110,116] then 12 else if l==[116,114,117,101] then 13
 else if l==[102,97,108,115,101] then 14 else if l==[110,117,108,108] then 15 else if l==[108,101,110] then 16 else if l==[112,117,115,104] then 17 else 0
def Jy(c d:UInt8):Nat:=
 if c==61&&d==61 then 27 else if c==33&&d==61 then 29 else if c==60&&d==61 then 31 else if c==62&&d==61 then 33
 else if c==38&&d==38 then 39 else if c==124&&d==124 then 40 else 0
def Iv(c:UInt8):Nat:=
 if c==40 then 18 else if c==41 then 19 else if c==123 then 20 else if c==125 then 21 else if c==91 then 22 else if c==93 then 23
 else if c==44 then 24 else if c==59 then 25 else if c==61 then 26 else if c==33 then 28 else if c==60 then 30 else if c==62 then 32
 else if c==43 then 34 else if c==45 then 35 else if c==42 then 36 else if c==47 then 37 else if c==37 then 38 else 0
def Fa:List UInt8->Nat×Nat
 | []=>(0,0)
 | [c]=>if Iv c==0 then(0,0) else(Iv c,1)
 | c::d::_=>if Jy c d !=0 then(Jy c d,2) else if Iv c==0 then(0,0) else(Iv c,1)
def E7:List UInt8->Option (Tk×Nat)
 | []=>none
 | c::r=>
  if Cw c then
   match numOf ((c::r).takeWhile Cw) with
   | some n=>some (⟨2,0,[],n⟩,((c::r).takeWhile Cw).length)
   | none=>none
  else if isLet c then
   if Lm ((c::r).takeWhile Di) !=0 then some (⟨Lm ((c::r).takeWhile Di),0,[],0⟩,((c::r).takeWhile Di).length)
   else if((c::r).takeWhile Di).length<=16 then some (⟨1,0,(c::r).takeWhile Di,0⟩,((c::r).takeWhile Di).length)
   else none
  else if c==34 then
   match quot false r with
   | some x=>some (⟨3,0,x.1,0⟩,x.2+1)
   | none=>none
  else if(Fa (c::r)).2==0 then none
  else some (⟨(Fa (c::r)).1,0,[],0⟩,(Fa (c::r)).2)
def lex:Nat->List UInt8->Nat->Bool->Nat ⊕ List Tk
 | 0,_,line,_=>.inl line
 | _+1,[],line,_=>.inr [⟨0,line,[],0⟩]
 | f+1,c::r,line,said=>
  if c==10 then lex f r (line+1) false
  else if c !=9&&!(I4 c) then .inl line
  else if said||(c==47&&r.head?==some 47)||c==9||c==32 then lex f r line (said||(c==47&&r.head?==some 47))
  else match E7 (c::r) with
   | none=>.inl line
   | some (t,n)=>
    match lex f ((c::r).drop n) line false with
    | .inl l=>.inl l
    | .inr ts=>.inr ({ t with line:=line }::ts)
def L7(acc:List UInt8)(d:Nat)(q:Option (List UInt8×Nat)):Option (List UInt8×Nat):=q.map fun x=>(acc++x.1,d+x.2)
def Ap5(q:Option (List UInt8×Nat)):List UInt8:=match q with
 | some x=>x.1
 | none=>[]
theorem Aho(l:List UInt8)(k:Nat)(h:l.length<=k):quot false (l.drop k)=none:=by
 rw[List.drop_of_length_le h];rfl
theorem Ahh(l:List UInt8)(k:Nat)(h:k<l.length)(hp:I4 l[k]=false):quot false (l.drop k)=none:=by
 rw[List.drop_eq_getElem_cons h,quot,hp];rfl
theorem Ahi(l:List UInt8)(k:Nat)(h:k<l.length)(hc:l[k]=34):quot false (l.drop k)=some ([],1):=by
 rw[List.drop_eq_getElem_cons h,hc];rfl
theorem Ahp(l:List UInt8)(k:Nat)(h:k<l.length)(hp:I4 l[k]=true)(h1:l[k]≠34)(h2:l[k]≠92):quot false (l.drop k)=L7 [l[k]] 1 (quot false (l.drop (k+1))):=by
 rw[List.drop_eq_getElem_cons h,quot,hp];rw[if_pos rfl,if_neg (by simpa using h1),if_neg (by simpa using h2)];cases quot false (l.drop (k+1)) with
 | none=>rfl
 | some x=>simp[L7,Nat.add_comm]
theorem Ahm(l:List UInt8)(k:Nat)(h:k<l.length)(hc:l[k]=92)(h':l.length<=k+1):quot false (l.drop k)=none:=by
 rw[List.drop_eq_getElem_cons h,hc,List.drop_of_length_le h'];rfl
theorem z4sa {P:Prop} (h:P:=by omega):P:=h
theorem Ahk(l:List UInt8)(k:Nat)(h:k+1<l.length)(hc:l[k]=92)(h1:l[k+1]≠34)(h2:l[k+1]≠92)(h3:l[k+1]≠110):quot false (l.drop k)=none:=by
 rw[List.drop_eq_getElem_cons z4sa,hc,List.drop_eq_getElem_cons h];simp[quot,I4,h1,h2,h3]
theorem Yv(l:List UInt8)(k:Nat)(h:k+1<l.length)(hc:l[k]=92)(h1:l[k+1]=34\/l[k+1]=92\/l[k+1]=110) :
  quot false (l.drop k)=L7 [if l[k+1]==110 then 10 else l[k+1]] 2 (quot false (l.drop (k+2))):=by
 rw[List.drop_eq_getElem_cons z4sa,hc,List.drop_eq_getElem_cons h];have hb:(l[k+1]==34||l[k+1]==92||l[k+1]==110)=true:=by
  rcases h1 with e|e|e <;> rw[e] <;> rfl
 rw[show quot false (92::l[k+1]::l.drop (k+1+1))=(match quot true (l[k+1]::l.drop (k+1+1)) with|some x=>some (x.1,x.2+1)|none=>none) from rfl];rw[quot,if_pos hb];cases quot false (l.drop (k+1+1)) with
 | none=>rfl
 | some x=>simp[L7];omega
theorem A35(a b:List UInt8)(m n:Nat)(q:Option (List UInt8×Nat)):L7 a m (L7 b n q)=L7 (a++b) (m+n) q:=by
 cases q with
 | none=>rfl
 | some x=>simp[L7,Nat.add_assoc]
end
end Go.Proofs.YtjdlndhfaaolaaaGreatDoor
