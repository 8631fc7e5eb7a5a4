import Derived.Test.YtjdlndhfaaolaaaGreatDoorX06
set_option maxHeartbeats 20000000
namespace Go.Proofs.YtjdlndhfaaolaaaGreatDoor
section
open Go.RowKit
theorem Aml(l:List UInt8)(i:Nat)(hi:i<l.length)(hd:Cw l[i]=false)(ha:isLet l[i]=true) :
  E7 (l.drop i)=if Lm ((l.drop i).takeWhile Di) !=0 then some (⟨Lm ((l.drop i).takeWhile Di),0,[],0⟩,((l.drop i).takeWhile Di).length)
   else if((l.drop i).takeWhile Di).length<=16 then some (⟨1,0,(l.drop i).takeWhile Di,0⟩,((l.drop i).takeWhile Di).length) else none:=by
 rw[List.drop_eq_getElem_cons hi,E7,if_neg (by simp[hd]),if_pos ha]
theorem Amm(l:List UInt8)(i:Nat)(hi:i<l.length)(hc:l[i]=34) :
  E7 (l.drop i)=match quot false (l.drop (i+1)) with
   | some x=>some (⟨3,0,x.1,0⟩,x.2+1)
   | none=>none:=by
 rw[List.drop_eq_getElem_cons hi,E7,if_neg (by rw[hc];decide),if_neg (by rw[hc];decide),if_pos (by rw[hc];rfl)];cases quot false (l.drop (i+1)) <;> rfl
theorem Amn(l:List UInt8)(i:Nat)(hi:i<l.length)(hd:Cw l[i]=false)(ha:isLet l[i]=false)(hc:l[i]≠34) :
  E7 (l.drop i)=if(Fa (l.drop i)).2==0 then none else some (⟨(Fa (l.drop i)).1,0,[],0⟩,(Fa (l.drop i)).2):=by
 rw[List.drop_eq_getElem_cons hi,E7,if_neg (by simp[hd]),if_neg (by simp[ha]),if_neg (by simpa using hc)]
end
section
theorem A4p(p:UInt8->Bool)(l:List UInt8)(i:Nat):(l.drop i).takeWhile p=(l.drop i).take (i-i)++(l.drop i).takeWhile p:=by simp
theorem A4q(p:UInt8->Bool)(l:List UInt8)(i k:Nat)(hk:i<=k)(hlt:k<l.length)(hp:p l[k]=true)(h:(l.drop i).takeWhile p=(l.drop i).take (k-i)++(l.drop k).takeWhile p) :
  (l.drop i).takeWhile p=(l.drop i).take (k+1-i)++(l.drop (k+1)).takeWhile p:=by
 rw[h,List.drop_eq_getElem_cons hlt,List.takeWhile_cons,hp];rw[show k+1-i=(k-i)+1 by omega,List.take_succ_eq_append_getElem z4za];simp[show i+(k-i)=k by omega]
theorem Uw(p:UInt8->Bool)(l:List UInt8)(i k:Nat)(hp:∀h:k<l.length,p l[k]=false)(h:(l.drop i).takeWhile p=(l.drop i).take (k-i)++(l.drop k).takeWhile p) :
  (l.drop i).takeWhile p=(l.drop i).take (k-i):=by
 rw[h];by_cases hlt:k<l.length
 ·rw[List.drop_eq_getElem_cons hlt,List.takeWhile_cons,hp hlt];simp
 ·have:l.drop k=[]:=List.drop_of_length_le z4sa;rw[this];simp
def spell(k:Nat):List UInt8:=
 if k=4 then [102,110] else if k=5 then [108,101,116] else if k=6 then [105,102] else if k=7 then [101,108,115,101]
 else if k=8 then [119,104,105,108,101] else if k=9 then [114,101,116,117,114,110] else if k=10 then [98,114,101,97,107]
 else if k=11 then [99,111,110,116,105,110,117,101] else if k=12 then [112,114,105,110,116] else if k=13 then [116,114,117,101]
 else if k=14 then [102,97,108,115,101] else if k=15 then [110,117,108,108] else if k=16 then [108,101,110] else if k=17 then [112,117,115,104]
 else if k=18 then [40] else if k=19 then [41] else if k=20 then [123] else if k=21 then [125] else if k=22 then [91] else if k=23 then [93]
 else if k=24 then [44] else if k=25 then [59] else if k=26 then [61] else if k=27 then [61,61] else if k=28 then [33] else if k=29 then [33,61]
 else if k=30 then [60] else if k=31 then [60,61] else if k=32 then [62] else if k=33 then [62,61] else if k=34 then [43] else if k=35 then [45]
 else if k=36 then [42] else if k=37 then [47] else if k=38 then [37] else if k=39 then [38,38] else if k=40 then [124,124] else []
theorem ifs{x:Bool}{n m:Nat}{P:Nat->Prop}(h1:x=true->P n)(h2:x=false->P m):P (if x=true then n else m):=by
 cases x
 ·simpa using h2 rfl
 ·simpa using h1 rfl
theorem Ak5(c d:UInt8)(h:Jy c d≠0):spell (Jy c d)=[c,d]/\18<=Jy c d/\Jy c d<=40:=by
 revert h;unfold Jy;iterate 6 (refine ifs (P:=fun k=>k≠0->spell k=[c,d]/\18<=k/\k<=40) (fun e _=>?_) (fun _=>?_);· rw[Bool.and_eq_true]at e;rw[eq_of_beq e.1,eq_of_beq e.2];decide)
 intro h;exact absurd rfl h
theorem A3w(c:UInt8)(h:Iv c≠0):spell (Iv c)=[c]/\18<=Iv c/\Iv c<=40:=by
 revert h;unfold Iv;iterate 17 (refine ifs (P:=fun k=>k≠0->spell k=[c]/\18<=k/\k<=40) (fun e _=>?_) (fun _=>?_);· rw[eq_of_beq e];decide)
 intro h;exact absurd rfl h
theorem Ak6(l:List UInt8)(h:(Fa l).2≠0):spell (Fa l).1=l.take (Fa l).2/\18<=(Fa l).1/\(Fa l).1<=40/\(Fa l).2<=l.length:=by
 match l,h with
 | [],h=>exact absurd rfl h
 | [c],h=>
  rw[Fa]at h ⊢;cases e:Iv c==0
  ·have:=A3w c (by simpa using e);simp[this]
  ·simp[e]at h
 | c::d::r,h=>
  rw[Fa]at h ⊢;cases e2:Jy c d !=0
  ·cases e:Iv c==0
   ·have:=A3w c (by simpa using e);simp[this]
   ·simp[e,e2]at h
  ·have:=Ak5 c d (by simpa using e2);simp[this]
theorem Zh(p:UInt8->Bool)(c:UInt8)(r:List UInt8)(h:p c=true):0<((c::r).takeWhile p).length/\((c::r).takeWhile p).length<=(c::r).length:=by
 constructor
 ·rw[List.takeWhile_cons,h];simp
 ·exact(List.takeWhile_sublist p).length_le
theorem z4la {P:Prop} (h:P:=by
  split at h
  ·rename_i y hy;cases h;have:=ih false y hy;simp;exact this
  ·cases h):P:=h
theorem Ahn:∀(r:List UInt8) (b:Bool) (x:List UInt8×Nat),quot b r=some x->x.2<=r.length:=by
 intro r;induction r with
 | nil=>intro b x h;cases b <;> cases h
 | cons c r ih=>
  intro b x h;cases b
  ·rw[quot]at h;split at h
   ·split at h
    ·cases h;simp
    ·split at h
     ·split at h
      ·rename_i y hy;cases h;have:=ih true y hy;simp;exact this
      ·cases h
     ·exact z4la
   ·cases h
  ·rw[quot]at h;split at h
   ·exact z4la
   ·cases h
theorem z4na {P:Prop} (h:P:=by
  simp only[Option.some.injEq,Prod.mk.injEq]at h;rw[←h.2];exact Zh Di c r ha'):P:=h
theorem Amr(l:List UInt8)(t:Tk)(n:Nat)(h:E7 l=some (t,n)):0<n/\n<=l.length:=by
 cases l with
 | nil=>cases h
 | cons c r=>
  rw[E7]at h;split at h
  ·rename_i hd;split at h
   ·simp only[Option.some.injEq,Prod.mk.injEq]at h;rw[←h.2];exact Zh Cw c r hd
   ·cases h
  ·split at h
   ·rename_i ha;have ha':Di c=true:=by simp[Di,ha]
    split at h
    ·exact z4na
    ·split at h
     ·exact z4na
     ·cases h
   ·split at h
    ·split at h
     ·rename_i x hx;simp only[Option.some.injEq,Prod.mk.injEq]at h;rw[←h.2];have:=Ahn r false x hx;simp;exact this
     ·cases h
    ·split at h
     ·cases h
     ·rename_i hz;have hz':(Fa (c::r)).2≠0:=by simpa using hz
      simp only[Option.some.injEq,Prod.mk.injEq]at h;rw[←h.2];exact⟨by omega,(Ak6 _ hz').2.2.2⟩
def B0:Bool->List UInt8->Nat×Nat×Bool
 | _,[]=>(0,0,true)
 | true,c::r=>
  if c==10 then((B0 false r).1+1,(B0 false r).2.1+1,(B0 false r).2.2)
  else if c !=9&&!(I4 c) then(0,0,false)
  else((B0 true r).1+1,(B0 true r).2.1,(B0 true r).2.2)
 | false,c::r=>
  if c==10 then((B0 false r).1+1,(B0 false r).2.1+1,(B0 false r).2.2)
  else if c==32||c==9 then((B0 false r).1+1,(B0 false r).2.1,(B0 false r).2.2)
  else if c==47&&r.head?==some 47 then((B0 true r).1+1,(B0 true r).2.1,(B0 true r).2.2)
  else(0,0,true)
def Dw:List UInt8->Nat×Bool
 | []=>(0,true)
 | c::r=>if c==10 then(0,true) else if c !=9&&!(I4 c) then(0,false) else((Dw r).1+1,(Dw r).2)
theorem Ahu:∀l:List UInt8,(Dw l).1<=l.length:=by
 intro l;induction l with
 | nil=>simp[Dw]
 | cons c r ih=>
  rw[Dw];split
  ·simp
  split
  ·simp
  ·simp;exact ih
theorem Z5:∀(l:List UInt8) (b:Bool),(B0 b l).1<=l.length/\(B0 b l).2.1<=(B0 b l).1:=by
 intro l;induction l with
 | nil=>intro b;cases b <;> simp[B0]
 | cons c r ih=>
  intro b;have h1:=ih true;have h0:=ih false;cases b
  ·rw[B0];split
   ·simp;omega
   split
   ·simp;omega
   split
   ·simp;omega
   ·simp
  ·rw[B0];split
   ·simp;omega
   split
   ·simp
   ·simp;omega
theorem Akf:∀l:List UInt8,B0 true l=if(Dw l).2 then((Dw l).1+(B0 false (l.drop (Dw l).1)).1,(B0 false (l.drop (Dw l).1)).2.1,(B0 false (l.drop (Dw l).1)).2.2) else((Dw l).1,0,false):=by
 intro l;induction l with
 | nil=>simp[B0,Dw]
 | cons c r ih=>
  rw[B0,Dw];by_cases h1:(c==10)=true
  ·simp only[h1,if_true,List.drop_zero];rw[B0,if_pos h1];simp
  ·simp only[h1,Bool.false_eq_true,if_false];by_cases h2:(c !=9&&!(I4 c))=true
   ·simp[h2]
   ·simp only[h2,Bool.false_eq_true,if_false];rw[ih];by_cases h3:(Dw r).2=true
    ·simp only[h3,if_true,List.drop_succ_cons];refine Prod.ext ?_ rfl;simp only;omega
    ·simp only[h3,Bool.false_eq_true,if_false]
theorem Akd{c:UInt8}{r:List UInt8}(h:c=10):B0 false (c::r)=((B0 false r).1+1,(B0 false r).2.1+1,(B0 false r).2.2):=by
 subst h;rw[B0,if_pos (by decide)]
theorem Akg{c:UInt8}{r:List UInt8}(h:c=32\/c=9):B0 false (c::r)=((B0 false r).1+1,(B0 false r).2.1,(B0 false r).2.2):=by
 rcases h with h|h <;> subst h <;> rw[B0,if_neg (by decide),if_pos (by decide)]
theorem Ake{c:UInt8}{r:List UInt8}(h:c=47)(hr:r.head?=some 47):B0 false (c::r)=B0 true (c::r):=by
 subst h;have h1:B0 false (47::r)=((B0 true r).1+1,(B0 true r).2.1,(B0 true r).2.2):=by
  rw[B0,if_neg (by decide),if_neg (by decide),if_pos (by rw[hr];decide)]
 have h2:B0 true (47::r)=((B0 true r).1+1,(B0 true r).2.1,(B0 true r).2.2):=by
  rw[B0,if_neg (by decide),if_neg (by decide)]
 rw[h1,h2]
theorem A40{c:UInt8}{r:List UInt8}(h1:c≠10)(h2:c≠32)(h3:c≠9)(h4:¬(c=47/\r.head?=some 47)):B0 false (c::r)=(0,0,true):=by
 rw[B0,if_neg (by simpa using h1),if_neg (by simp[h2,h3]),if_neg];intro e;simp only[Bool.and_eq_true,beq_iff_eq]at e;exact h4 e
end
section
open Go.RowKit
theorem Adu(c:UInt8):(decide (32<=(c.toNat:Int))&&decide ((c.toNat:Int)<=126))=I4 c:=by
 unfold I4;congr 1 <;> (apply decide_eq_decide.2;omega)
theorem Q6(c:UInt8)(w:World):Calls Tryz.prog 126 #[.int .u8 c.toNat] w fun e w'=>e=.returned (.bool (Cw c))/\w'=w:=by
 rw[←Ads];have hn:0<=(c.toNat:Int):=by omega
 generalize (c.toNat:Int)=n at *;by_cases h1:48<=n <;> by_cases h2:n<=57;all_goals
  go_enter Tryz.func126,Tryz.ntmps126;go_wp2;go_ret;exact⟨by simp[h1,h2],rfl⟩
theorem Aa7(c:UInt8)(w:World):Calls Tryz.prog 180 #[.int .u8 c.toNat] w fun e w'=>e=.returned (.bool (I4 c))/\w'=w:=by
 rw[←Adu];have hn:0<=(c.toNat:Int):=by omega
 generalize (c.toNat:Int)=n at *;by_cases h1:32<=n <;> by_cases h2:n<=126;all_goals
  go_enter Tryz.func180,Tryz.ntmps180;go_wp2;go_ret;exact⟨by simp[h1,h2],rfl⟩
theorem Rb(c:UInt8)(w:World):Calls Tryz.prog 124 #[.int .u8 c.toNat] w fun e w'=>e=.returned (.bool (isLet c))/\w'=w:=by
 rw[←Adt];have hn:0<=(c.toNat:Int):=by omega
 generalize (c.toNat:Int)=n at *;by_cases h1:97<=n <;> by_cases h2:n<=122 <;> by_cases h3:65<=n <;> by_cases h4:n<=90;all_goals
  try (exfalso;omega)
 all_goals
  go_enter Tryz.func124,Tryz.ntmps124;go_wp2;go_ret;exact⟨by simp[h1,h2,h3,h4],rfl⟩
theorem p8(c:UInt8)(w:World):Calls Tryz.prog 177 #[.int .u8 c.toNat] w fun e w'=>e=.returned (.bool (Di c))/\w'=w:=by
 have hN:Di c=(isLet c||Cw c||(c==95)):=rfl;have h95:(c==95)=((c.toNat:Int)==95):=by
  by_cases h:c=95
  ·subst h;rfl
  ·rw[beq_eq_false_iff_ne.2 h];symm
   rw[beq_eq_false_iff_ne];intro e;exact h (UInt8.toNat_inj.1 (by show c.toNat=95;omega))
 have HN:=A0 (hN.trans (by rw[h95]));clear hN h95;cases h1:isLet c <;> cases h2:Cw c;all_goals
  have HN2:=HN.o;rw[h1,h2]at HN2;have HN:=A0 HN2;clear HN2;go_enter Tryz.func177,Tryz.ntmps177;go_wp2_with fail
  refine(Rb _ _).mono ?_;rintro e w' ⟨rfl,rfl⟩;rw[h1];go_wp2_with (go_at_call 126;refine(Q6 _ _).mono ?_;rintro e w' ⟨rfl,rfl⟩;rw[h2])
  go_ret;exact⟨by rw[HN.o];simp,rfl⟩
end
end Go.Proofs.YtjdlndhfaaolaaaGreatDoor
