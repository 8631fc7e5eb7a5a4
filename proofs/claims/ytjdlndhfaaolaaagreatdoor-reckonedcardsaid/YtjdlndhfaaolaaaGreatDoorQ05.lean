import Derived.Test.YtjdlndhfaaolaaaGreatDoorQ04
set_option maxHeartbeats 20000000
namespace Go.Proofs.YtjdlndhfaaolaaaGreatDoor
section
open Go.RowKit
theorem A9h(l:List UInt8)(i:Nat)(hi:i<l.length)(hd:D9 l[i]=false)(ha:isLet l[i]=true) :
  Er (l.drop i)=if Lc ((l.drop i).takeWhile E4) !=0 then some (⟨Lc ((l.drop i).takeWhile E4),0,[],0⟩,((l.drop i).takeWhile E4).length)
   else if((l.drop i).takeWhile E4).length<=16 then some (⟨1,0,(l.drop i).takeWhile E4,0⟩,((l.drop i).takeWhile E4).length) else none:=by
 rw[List.drop_eq_getElem_cons hi,Er,if_neg (by simp[hd]),if_pos ha]
theorem Alc(l:List UInt8)(i:Nat)(hi:i<l.length)(hc:l[i]=34) :
  Er (l.drop i)=match quot false (l.drop (i+1)) with
   | some x=>some (⟨3,0,x.1,0⟩,x.2+1)
   | none=>none:=by
 rw[List.drop_eq_getElem_cons hi,Er,if_neg (by rw[hc];decide),if_neg (by rw[hc];decide),if_pos (by rw[hc];rfl)];cases quot false (l.drop (i+1)) <;> rfl
theorem Afu(l:List UInt8)(i:Nat)(hi:i<l.length)(hd:D9 l[i]=false)(ha:isLet l[i]=false)(hc:l[i]≠34) :
  Er (l.drop i)=if(Gm (l.drop i)).2==0 then none else some (⟨(Gm (l.drop i)).1,0,[],0⟩,(Gm (l.drop i)).2):=by
 rw[List.drop_eq_getElem_cons hi,Er,if_neg (by simp[hd]),if_neg (by simp[ha]),if_neg (by simpa using hc)]
end
section
theorem A05(p:UInt8->Bool)(l:List UInt8)(i:Nat):(l.drop i).takeWhile p=(l.drop i).take (i-i)++(l.drop i).takeWhile p:=by simp
theorem A0d(p:UInt8->Bool)(l:List UInt8)(i k:Nat)(hk:i<=k)(hlt:k<l.length)(hp:p l[k]=true)(h:(l.drop i).takeWhile p=(l.drop i).take (k-i)++(l.drop k).takeWhile p) :
  (l.drop i).takeWhile p=(l.drop i).take (k+1-i)++(l.drop (k+1)).takeWhile p:=by
 rw[h,List.drop_eq_getElem_cons hlt,List.takeWhile_cons,hp];rw[show k+1-i=(k-i)+1 by omega,List.take_succ_eq_append_getElem (by simp;omega)];simp[show i+(k-i)=k by omega]
theorem Rp(p:UInt8->Bool)(l:List UInt8)(i k:Nat)(hp:∀h:k<l.length,p l[k]=false)(h:(l.drop i).takeWhile p=(l.drop i).take (k-i)++(l.drop k).takeWhile p) :
  (l.drop i).takeWhile p=(l.drop i).take (k-i):=by
 rw[h];by_cases hlt:k<l.length
 ·rw[List.drop_eq_getElem_cons hlt,List.takeWhile_cons,hp hlt];simp
 ·have:l.drop k=[]:=List.drop_of_length_le (by omega);rw[this];simp
def spell(k:Nat):List UInt8:=
 if k=4 then [102,110] else if k=5 then [108,101,116] else if k=6 then [105,102] else if k=7 then [101,108,115,101]
 else if k=8 then [119,104,105,108,101] else if k=9 then [114,101,116,117,114,110] else if k=10 then [98,114,101,97,107]
 else if k=11 then [99,111,110,116,105,110,117,101] else if k=12 then [112,114,105,110,116] else if k=13 then [116,114,117,101]
 else if k=14 then [102,97,108,115,101] else if k=15 then [110,117,108,108] else if k=16 then [108,101,110] else if k=17 then [112,117,115,104]
 else if k=18 then [40] else if k=19 then [41] else if k=20 then [123] else if k=21 then [125] else if k=22 then [91] else if k=23 then [93]
 else if k=24 then [44] else if k=25 then [59] else if k=26 then [61] else if k=27 then [61,61] else if k=28 then [33] else if k=29 then [33,61]
 else if k=30 then [60] else if k=31 then [60,61] else if k=32 then [62] else if k=33 then [62,61] else if k=34 then [43] else if k=35 then [45]
 else if k=36 then [42] else if k=37 then [47] else if k=38 then [37] else if k=39 then [38,38] else if k=40 then [124,124] else []
theorem ifs{x:Bool}{n m:Nat}{P:Nat->Prop}(h1:x=true->P n)(h2:x=false->P m):P (if x=true then n else m):=by
 cases x
 ·simpa using h2 rfl
 ·simpa using h1 rfl
theorem Ac4(c d:UInt8)(h:K2 c d≠0):spell (K2 c d)=[c,d]/\18<=K2 c d/\K2 c d<=40:=by
 revert h;unfold K2;iterate 6 (refine ifs (P:=fun k=>k≠0->spell k=[c,d]/\18<=k/\k<=40) (fun e _=>?_) (fun _=>?_);· rw[Bool.and_eq_true]at e;rw[eq_of_beq e.1,eq_of_beq e.2];decide)
 intro h;exact absurd rfl h
theorem A0c(c:UInt8)(h:Ia c≠0):spell (Ia c)=[c]/\18<=Ia c/\Ia c<=40:=by
 revert h;unfold Ia;iterate 17 (refine ifs (P:=fun k=>k≠0->spell k=[c]/\18<=k/\k<=40) (fun e _=>?_) (fun _=>?_);· rw[eq_of_beq e];decide)
 intro h;exact absurd rfl h
theorem Afl(l:List UInt8)(h:(Gm l).2≠0):spell (Gm l).1=l.take (Gm l).2/\18<=(Gm l).1/\(Gm l).1<=40/\(Gm l).2<=l.length:=by
 match l,h with
 | [],h=>exact absurd rfl h
 | [c],h=>
  rw[Gm]at h ⊢;cases e:Ia c==0
  ·have:=A0c c (by simpa using e);simp[this]
  ·simp[e]at h
 | c::d::r,h=>
  rw[Gm]at h ⊢;cases e2:K2 c d !=0
  ·cases e:Ia c==0
   ·have:=A0c c (by simpa using e);simp[this]
   ·simp[e,e2]at h
  ·have:=Ac4 c d (by simpa using e2);simp[this]
theorem Vd(p:UInt8->Bool)(c:UInt8)(r:List UInt8)(h:p c=true):0<((c::r).takeWhile p).length/\((c::r).takeWhile p).length<=(c::r).length:=by
 constructor
 ·rw[List.takeWhile_cons,h];simp
 ·exact(List.takeWhile_sublist p).length_le
theorem Aia:∀(r:List UInt8) (b:Bool) (x:List UInt8×Nat),quot b r=some x->x.2<=r.length:=by
 intro r;induction r with
 | nil=>intro b x h;cases b <;> cases h
 | cons c r ih=>
  intro b x h;cases b
  ·rw[quot]at h;split at h
   ·split at h
    ·cases h;simp
    ·split at h
     ·split at h
      ·rename_i y hy;cases h;have:=ih true y hy;simp;exact this
      ·cases h
     ·split at h
      ·rename_i y hy;cases h;have:=ih false y hy;simp;exact this
      ·cases h
   ·cases h
  ·rw[quot]at h;split at h
   ·split at h
    ·rename_i y hy;cases h;have:=ih false y hy;simp;exact this
    ·cases h
   ·cases h
theorem Ah2(l:List UInt8)(t:Tk)(n:Nat)(h:Er l=some (t,n)):0<n/\n<=l.length:=by
 cases l with
 | nil=>cases h
 | cons c r=>
  rw[Er]at h;split at h
  ·rename_i hd;split at h
   ·simp only[Option.some.injEq,Prod.mk.injEq]at h;rw[←h.2];exact Vd D9 c r hd
   ·cases h
  ·split at h
   ·rename_i ha;have ha':E4 c=true:=by simp[E4,ha]
    split at h
    ·simp only[Option.some.injEq,Prod.mk.injEq]at h;rw[←h.2];exact Vd E4 c r ha'
    ·split at h
     ·simp only[Option.some.injEq,Prod.mk.injEq]at h;rw[←h.2];exact Vd E4 c r ha'
     ·cases h
   ·split at h
    ·split at h
     ·rename_i x hx;simp only[Option.some.injEq,Prod.mk.injEq]at h;rw[←h.2];have:=Aia r false x hx;simp;exact this
     ·cases h
    ·split at h
     ·cases h
     ·rename_i hz;have hz':(Gm (c::r)).2≠0:=by simpa using hz
      simp only[Option.some.injEq,Prod.mk.injEq]at h;rw[←h.2];exact⟨by omega,(Afl _ hz').2.2.2⟩
def B6:Bool->List UInt8->Nat×Nat×Bool
 | _,[]=>(0,0,true)
 | true,c::r=>
  if c==10 then((B6 false r).1+1,(B6 false r).2.1+1,(B6 false r).2.2)
  else if c !=9&&!(Gr c) then(0,0,false)
  else((B6 true r).1+1,(B6 true r).2.1,(B6 true r).2.2)
 | false,c::r=>
  if c==10 then((B6 false r).1+1,(B6 false r).2.1+1,(B6 false r).2.2)
  else if c==32||c==9 then((B6 false r).1+1,(B6 false r).2.1,(B6 false r).2.2)
  else if c==47&&r.head?==some 47 then((B6 true r).1+1,(B6 true r).2.1,(B6 true r).2.2)
  else(0,0,true)
def Dz:List UInt8->Nat×Bool
 | []=>(0,true)
 | c::r=>if c==10 then(0,true) else if c !=9&&!(Gr c) then(0,false) else((Dz r).1+1,(Dz r).2)
theorem Aav:∀l:List UInt8,(Dz l).1<=l.length:=by
 intro l;induction l with
 | nil=>simp[Dz]
 | cons c r ih=>
  rw[Dz];split
  ·simp
  split
  ·simp
  ·simp;exact ih
theorem Vp:∀(l:List UInt8) (b:Bool),(B6 b l).1<=l.length/\(B6 b l).2.1<=(B6 b l).1:=by
 intro l;induction l with
 | nil=>intro b;cases b <;> simp[B6]
 | cons c r ih=>
  intro b;have h1:=ih true;have h0:=ih false;cases b
  ·rw[B6];split
   ·simp;omega
   split
   ·simp;omega
   split
   ·simp;omega
   ·simp
  ·rw[B6];split
   ·simp;omega
   split
   ·simp
   ·simp;omega
theorem Ae7:∀l:List UInt8,B6 true l=if(Dz l).2 then((Dz l).1+(B6 false (l.drop (Dz l).1)).1,(B6 false (l.drop (Dz l).1)).2.1,(B6 false (l.drop (Dz l).1)).2.2) else((Dz l).1,0,false):=by
 intro l;induction l with
 | nil=>simp[B6,Dz]
 | cons c r ih=>
  rw[B6,Dz];by_cases h1:(c==10)=true
  ·simp only[h1,if_true,List.drop_zero];rw[B6,if_pos h1];simp
  ·simp only[h1,Bool.false_eq_true,if_false];by_cases h2:(c !=9&&!(Gr c))=true
   ·simp[h2]
   ·simp only[h2,Bool.false_eq_true,if_false];rw[ih];by_cases h3:(Dz r).2=true
    ·simp only[h3,if_true,List.drop_succ_cons];refine Prod.ext ?_ rfl;simp only;omega
    ·simp only[h3,Bool.false_eq_true,if_false]
theorem Ai4{c:UInt8}{r:List UInt8}(h:c=10):B6 false (c::r)=((B6 false r).1+1,(B6 false r).2.1+1,(B6 false r).2.2):=by
 subst h;rw[B6,if_pos (by decide)]
theorem Aku{c:UInt8}{r:List UInt8}(h:c=32\/c=9):B6 false (c::r)=((B6 false r).1+1,(B6 false r).2.1,(B6 false r).2.2):=by
 rcases h with h|h <;> subst h <;> rw[B6,if_neg (by decide),if_pos (by decide)]
theorem A4b{c:UInt8}{r:List UInt8}(h:c=47)(hr:r.head?=some 47):B6 false (c::r)=B6 true (c::r):=by
 subst h;have h1:B6 false (47::r)=((B6 true r).1+1,(B6 true r).2.1,(B6 true r).2.2):=by
  rw[B6,if_neg (by decide),if_neg (by decide),if_pos (by rw[hr];decide)]
 have h2:B6 true (47::r)=((B6 true r).1+1,(B6 true r).2.1,(B6 true r).2.2):=by
  rw[B6,if_neg (by decide),if_neg (by decide)]
 rw[h1,h2]
theorem A2h{c:UInt8}{r:List UInt8}(h1:c≠10)(h2:c≠32)(h3:c≠9)(h4:¬(c=47/\r.head?=some 47)):B6 false (c::r)=(0,0,true):=by
 rw[B6,if_neg (by simpa using h1),if_neg (by simp[h2,h3]),if_neg];intro e;simp only[Bool.and_eq_true,beq_iff_eq]at e;exact h4 e
end
section
open Go.RowKit
theorem A7k(c:UInt8):(decide (32<=(c.toNat:Int))&&decide ((c.toNat:Int)<=126))=Gr c:=by
 unfold Gr;congr 1 <;> (apply decide_eq_decide.2;omega)
theorem Pv(c:UInt8)(w:World):Calls Tryz.prog 126 #[.int .u8 c.toNat] w fun e w'=>e=.returned (.bool (D9 c))/\w'=w:=by
 rw[←Ace];have hn:0<=(c.toNat:Int):=by omega
 generalize (c.toNat:Int)=n at *;by_cases h1:48<=n <;> by_cases h2:n<=57;all_goals
  go_enter Tryz.func126,Tryz.ntmps126;go_wp2;go_ret;exact⟨by simp[h1,h2],rfl⟩
theorem A5k(c:UInt8)(w:World):Calls Tryz.prog 180 #[.int .u8 c.toNat] w fun e w'=>e=.returned (.bool (Gr c))/\w'=w:=by
 rw[←A7k];have hn:0<=(c.toNat:Int):=by omega
 generalize (c.toNat:Int)=n at *;by_cases h1:32<=n <;> by_cases h2:n<=126;all_goals
  go_enter Tryz.func180,Tryz.ntmps180;go_wp2;go_ret;exact⟨by simp[h1,h2],rfl⟩
theorem Qj(c:UInt8)(w:World):Calls Tryz.prog 124 #[.int .u8 c.toNat] w fun e w'=>e=.returned (.bool (isLet c))/\w'=w:=by
 rw[←A5v];have hn:0<=(c.toNat:Int):=by omega
 generalize (c.toNat:Int)=n at *;by_cases h1:97<=n <;> by_cases h2:n<=122 <;> by_cases h3:65<=n <;> by_cases h4:n<=90;all_goals
  try (exfalso;omega)
 all_goals
  go_enter Tryz.func124,Tryz.ntmps124;go_wp2;go_ret;exact⟨by simp[h1,h2,h3,h4],rfl⟩
theorem A01(c:UInt8)(w:World):Calls Tryz.prog 177 #[.int .u8 c.toNat] w fun e w'=>e=.returned (.bool (E4 c))/\w'=w:=by
 have hN:E4 c=(isLet c||D9 c||(c==95)):=rfl;have h95:(c==95)=((c.toNat:Int)==95):=by
  by_cases h:c=95
  ·subst h;rfl
  ·rw[beq_eq_false_iff_ne.2 h];symm
   rw[beq_eq_false_iff_ne];intro e;exact h (UInt8.toNat_inj.1 (by show c.toNat=95;omega))
 have HN:=A0 (hN.trans (by rw[h95]));clear hN h95;cases h1:isLet c <;> cases h2:D9 c;all_goals
  have HN2:=HN.o;rw[h1,h2]at HN2;have HN:=A0 HN2;clear HN2;go_enter Tryz.func177,Tryz.ntmps177;go_wp2_with fail
  refine(Qj _ _).mono ?_;rintro e w' ⟨rfl,rfl⟩;rw[h1];go_wp2_with (go_at_call 126;refine(Pv _ _).mono ?_;rintro e w' ⟨rfl,rfl⟩;rw[h2])
  go_ret;exact⟨by rw[HN.o];simp,rfl⟩
end
end Go.Proofs.YtjdlndhfaaolaaaGreatDoor
