import Derived.Test.YtjdlndhfaaolaaaGreatDoorV06
set_option maxHeartbeats 20000000
namespace Go.Proofs.YtjdlndhfaaolaaaGreatDoor
section
theorem Yo(p:UInt8->Bool)(c:UInt8)(r:List UInt8)(h:p c=true):0<((c::r).takeWhile p).length/\((c::r).takeWhile p).length<=(c::r).length:=by
 constructor
 ·rw[List.takeWhile_cons,h];simp
 ·exact(List.takeWhile_sublist p).length_le
theorem z4la {P:Prop} (h:P:=by
  split at h
  ·rename_i y hy;cases h;have:=ih false y hy;simp;exact this
  ·cases h):P:=h
theorem Aj0:∀(r:List UInt8) (b:Bool) (x:List UInt8×Nat),quot b r=some x->x.2<=r.length:=by
 intro r;induction r with
 | nil=>intro b x h;cases b <;> cases h
 | cons c r ih=>
  intro b x h;cases b
  ·rw[quot]at h;split at h
   ·split at h
    ·cases h;simp
    ·split at h
     ·split at h
      ·rename_i y hy;cases h;have:=ih true y hy;simp;exact this
      ·cases h
     ·exact z4la
   ·cases h
  ·rw[quot]at h;split at h
   ·exact z4la
   ·cases h
theorem z4oa {P:Prop} (h:P:=by
  simp only[Option.some.injEq,Prod.mk.injEq]at h;rw[←h.2];exact Yo Ec c r ha'):P:=h
theorem Ap1(l:List UInt8)(t:Tk)(n:Nat)(h:F5 l=some (t,n)):0<n/\n<=l.length:=by
 cases l with
 | nil=>cases h
 | cons c r=>
  rw[F5]at h;split at h
  ·rename_i hd;split at h
   ·simp only[Option.some.injEq,Prod.mk.injEq]at h;rw[←h.2];exact Yo De c r hd
   ·cases h
  ·split at h
   ·rename_i ha;have ha':Ec c=true:=by simp[Ec,ha]
    split at h
    ·exact z4oa
    ·split at h
     ·exact z4oa
     ·cases h
   ·split at h
    ·split at h
     ·rename_i x hx;simp only[Option.some.injEq,Prod.mk.injEq]at h;rw[←h.2];have:=Aj0 r false x hx;simp;exact this
     ·cases h
    ·split at h
     ·cases h
     ·rename_i hz;have hz':(Gn (c::r)).2≠0:=by simpa using hz
      simp only[Option.some.injEq,Prod.mk.injEq]at h;rw[←h.2];exact⟨by omega,(Als _ hz').2.2.2⟩
def Ba:Bool->List UInt8->Nat×Nat×Bool
 | _,[]=>(0,0,true)
 | true,c::r=>
  if c==10 then((Ba false r).1+1,(Ba false r).2.1+1,(Ba false r).2.2)
  else if c !=9&&!(Gu c) then(0,0,false)
  else((Ba true r).1+1,(Ba true r).2.1,(Ba true r).2.2)
 | false,c::r=>
  if c==10 then((Ba false r).1+1,(Ba false r).2.1+1,(Ba false r).2.2)
  else if c==32||c==9 then((Ba false r).1+1,(Ba false r).2.1,(Ba false r).2.2)
  else if c==47&&r.head?==some 47 then((Ba true r).1+1,(Ba true r).2.1,(Ba true r).2.2)
  else(0,0,true)
def E8:List UInt8->Nat×Bool
 | []=>(0,true)
 | c::r=>if c==10 then(0,true) else if c !=9&&!(Gu c) then(0,false) else((E8 r).1+1,(E8 r).2)
theorem Aji:∀l:List UInt8,(E8 l).1<=l.length:=by
 intro l;induction l with
 | nil=>simp[E8]
 | cons c r ih=>
  rw[E8];split
  ·simp
  split
  ·simp
  ·simp;exact ih
theorem Ye:∀(l:List UInt8) (b:Bool),(Ba b l).1<=l.length/\(Ba b l).2.1<=(Ba b l).1:=by
 intro l;induction l with
 | nil=>intro b;cases b <;> simp[Ba]
 | cons c r ih=>
  intro b;have h1:=ih true;have h0:=ih false;cases b
  ·rw[Ba];split
   ·simp;omega
   split
   ·simp;omega
   split
   ·simp;omega
   ·simp
  ·rw[Ba];split
   ·simp;omega
   split
   ·simp
   ·simp;omega
theorem Am1:∀l:List UInt8,Ba true l=if(E8 l).2 then((E8 l).1+(Ba false (l.drop (E8 l).1)).1,(Ba false (l.drop (E8 l).1)).2.1,(Ba false (l.drop (E8 l).1)).2.2) else((E8 l).1,0,false):=by
 intro l;induction l with
 | nil=>simp[Ba,E8]
 | cons c r ih=>
  rw[Ba,E8];by_cases h1:(c==10)=true
  ·simp only[h1,if_true,List.drop_zero];rw[Ba,if_pos h1];simp
  ·simp only[h1,Bool.false_eq_true,if_false];by_cases h2:(c !=9&&!(Gu c))=true
   ·simp[h2]
   ·simp only[h2,Bool.false_eq_true,if_false];rw[ih];by_cases h3:(E8 r).2=true
    ·simp only[h3,if_true,List.drop_succ_cons];refine Prod.ext ?_ rfl;simp only;omega
    ·simp only[h3,Bool.false_eq_true,if_false]
theorem Alz{c:UInt8}{r:List UInt8}(h:c=10):Ba false (c::r)=((Ba false r).1+1,(Ba false r).2.1+1,(Ba false r).2.2):=by
 subst h;rw[Ba,if_pos (by decide)]
theorem Am2{c:UInt8}{r:List UInt8}(h:c=32\/c=9):Ba false (c::r)=((Ba false r).1+1,(Ba false r).2.1,(Ba false r).2.2):=by
 rcases h with h|h <;> subst h <;> rw[Ba,if_neg (by decide),if_pos (by decide)]
theorem Am0{c:UInt8}{r:List UInt8}(h:c=47)(hr:r.head?=some 47):Ba false (c::r)=Ba true (c::r):=by
 subst h;have h1:Ba false (47::r)=((Ba true r).1+1,(Ba true r).2.1,(Ba true r).2.2):=by
  rw[Ba,if_neg (by decide),if_neg (by decide),if_pos (by rw[hr];decide)]
 have h2:Ba true (47::r)=((Ba true r).1+1,(Ba true r).2.1,(Ba true r).2.2):=by
  rw[Ba,if_neg (by decide),if_neg (by decide)]
 rw[h1,h2]
theorem A41{c:UInt8}{r:List UInt8}(h1:c≠10)(h2:c≠32)(h3:c≠9)(h4:¬(c=47/\r.head?=some 47)):Ba false (c::r)=(0,0,true):=by
 rw[Ba,if_neg (by simpa using h1),if_neg (by simp[h2,h3]),if_neg];intro e;simp only[Bool.and_eq_true,beq_iff_eq]at e;exact h4 e
end
section
open Go.RowKit
theorem Aer(c:UInt8):(decide (32<=(c.toNat:Int))&&decide ((c.toNat:Int)<=126))=Gu c:=by
 unfold Gu;congr 1 <;> (apply decide_eq_decide.2;omega)
theorem Ql(c:UInt8)(w:World):Calls Tryz.prog 126 #[.int .u8 c.toNat] w fun e w'=>e=.returned (.bool (De c))/\w'=w:=by
 rw[←Aep];have hn:0<=(c.toNat:Int):=by omega
 generalize (c.toNat:Int)=n at *;by_cases h1:48<=n <;> by_cases h2:n<=57;all_goals
  go_enter Tryz.func126,Tryz.ntmps126;go_wp2;go_ret;exact⟨by simp[h1,h2],rfl⟩
theorem Aar(c:UInt8)(w:World):Calls Tryz.prog 180 #[.int .u8 c.toNat] w fun e w'=>e=.returned (.bool (Gu c))/\w'=w:=by
 rw[←Aer];have hn:0<=(c.toNat:Int):=by omega
 generalize (c.toNat:Int)=n at *;by_cases h1:32<=n <;> by_cases h2:n<=126;all_goals
  go_enter Tryz.func180,Tryz.ntmps180;go_wp2;go_ret;exact⟨by simp[h1,h2],rfl⟩
theorem Ry(c:UInt8)(w:World):Calls Tryz.prog 124 #[.int .u8 c.toNat] w fun e w'=>e=.returned (.bool (isLet c))/\w'=w:=by
 rw[←Aeq];have hn:0<=(c.toNat:Int):=by omega
 generalize (c.toNat:Int)=n at *;by_cases h1:97<=n <;> by_cases h2:n<=122 <;> by_cases h3:65<=n <;> by_cases h4:n<=90;all_goals
  try (exfalso;omega)
 all_goals
  go_enter Tryz.func124,Tryz.ntmps124;go_wp2;go_ret;exact⟨by simp[h1,h2,h3,h4],rfl⟩
theorem b7(c:UInt8)(w:World):Calls Tryz.prog 177 #[.int .u8 c.toNat] w fun e w'=>e=.returned (.bool (Ec c))/\w'=w:=by
 have hN:Ec c=(isLet c||De c||(c==95)):=rfl;have h95:(c==95)=((c.toNat:Int)==95):=by
  by_cases h:c=95
  ·subst h;rfl
  ·rw[beq_eq_false_iff_ne.2 h];symm
   rw[beq_eq_false_iff_ne];intro e;exact h (UInt8.toNat_inj.1 (by show c.toNat=95;omega))
 have HN:=A0 (hN.trans (by rw[h95]));clear hN h95;cases h1:isLet c <;> cases h2:De c;all_goals
  have HN2:=HN.o;rw[h1,h2]at HN2;have HN:=A0 HN2;clear HN2;go_enter Tryz.func177,Tryz.ntmps177;go_wp2_with fail
  refine(Ry _ _).mono ?_;rintro e w' ⟨rfl,rfl⟩;rw[h1];go_wp2_with (go_at_call 126;refine(Ql _ _).mono ?_;rintro e w' ⟨rfl,rfl⟩;rw[h2])
  go_ret;exact⟨by rw[HN.o];simp,rfl⟩
end
section
set_option maxRecDepth 100000
open Go.RowKit
theorem z03a {P:Prop} (h:P:=by
  go_wp2;go_ret;exact⟨rfl,rfl⟩):P:=h
theorem z0ta {P:Prop} (h:P:=by
  go_enter Tryz.func166,Tryz.ntmps166;exact z03a):P:=h
theorem Aku(w:World):Calls Tryz.prog 166 #[.int .i64 12] w fun e w'=>e=.returned (.func (.func 212) #[] #[])/\w'=w:=by
 exact z0ta
theorem Akv(w:World):Calls Tryz.prog 166 #[.int .i64 13] w fun e w'=>e=.returned (.func (.func 212) #[] #[])/\w'=w:=by
 exact z0ta
theorem Akw(w:World):Calls Tryz.prog 166 #[.int .i64 14] w fun e w'=>e=.returned (.func (.func 213) #[] #[])/\w'=w:=by
 exact z0ta
theorem Akx(w:World):Calls Tryz.prog 166 #[.int .i64 15] w fun e w'=>e=.returned (.func (.func 214) #[] #[])/\w'=w:=by
 exact z0ta
theorem Aky(w:World):Calls Tryz.prog 166 #[.int .i64 16] w fun e w'=>e=.returned (.func (.func 214) #[] #[])/\w'=w:=by
 exact z0ta
theorem Akz(w:World):Calls Tryz.prog 166 #[.int .i64 17] w fun e w'=>e=.returned (.func (.func 215) #[] #[])/\w'=w:=by
 exact z0ta
theorem Al0(w:World):Calls Tryz.prog 166 #[.int .i64 18] w fun e w'=>e=.returned (.func (.func 215) #[] #[])/\w'=w:=by
 exact z0ta
theorem Al1(w:World):Calls Tryz.prog 166 #[.int .i64 19] w fun e w'=>e=.returned (.func (.func 216) #[] #[])/\w'=w:=by
 exact z0ta
theorem Al2(w:World):Calls Tryz.prog 166 #[.int .i64 20] w fun e w'=>e=.returned (.func (.func 216) #[] #[])/\w'=w:=by
 exact z0ta
theorem Al3(w:World):Calls Tryz.prog 166 #[.int .i64 21] w fun e w'=>e=.returned (.func (.func 217) #[] #[])/\w'=w:=by
 exact z0ta
theorem Al4(w:World):Calls Tryz.prog 166 #[.int .i64 22] w fun e w'=>e=.returned (.func (.func 217) #[] #[])/\w'=w:=by
 exact z0ta
theorem Al5(w:World):Calls Tryz.prog 166 #[.int .i64 23] w fun e w'=>e=.returned (.func (.func 218) #[] #[])/\w'=w:=by
 exact z0ta
theorem Al6(w:World):Calls Tryz.prog 166 #[.int .i64 24] w fun e w'=>e=.returned (.func (.func 218) #[] #[])/\w'=w:=by
 exact z0ta
theorem Al7(w:World):Calls Tryz.prog 166 #[.int .i64 25] w fun e w'=>e=.returned (.func (.func 219) #[] #[])/\w'=w:=by
 exact z0ta
theorem Al8(w:World):Calls Tryz.prog 166 #[.int .i64 26] w fun e w'=>e=.returned (.func (.func 220) #[] #[])/\w'=w:=by
 exact z0ta
theorem Al9(w:World):Calls Tryz.prog 166 #[.int .i64 27] w fun e w'=>e=.returned (.func (.func 220) #[] #[])/\w'=w:=by
 exact z0ta
theorem Ala(w:World):Calls Tryz.prog 166 #[.int .i64 28] w fun e w'=>e=.returned (.func (.func 221) #[] #[])/\w'=w:=by
 exact z0ta
theorem Alb(w:World):Calls Tryz.prog 166 #[.int .i64 29] w fun e w'=>e=.returned (.func (.func 221) #[] #[])/\w'=w:=by
 exact z0ta
theorem Alc(w:World):Calls Tryz.prog 166 #[.int .i64 30] w fun e w'=>e=.returned (.func (.func 221) #[] #[])/\w'=w:=by
 exact z0ta
theorem Ald(w:World):Calls Tryz.prog 166 #[.int .i64 31] w fun e w'=>e=.returned (.func (.func 221) #[] #[])/\w'=w:=by
 exact z0ta
theorem Ale(w:World):Calls Tryz.prog 166 #[.int .i64 32] w fun e w'=>e=.returned (.func (.func 222) #[] #[])/\w'=w:=by
 exact z0ta
theorem Alf(w:World):Calls Tryz.prog 166 #[.int .i64 33] w fun e w'=>e=.returned (.func (.func 222) #[] #[])/\w'=w:=by
 exact z0ta
theorem Alg(w:World):Calls Tryz.prog 166 #[.int .i64 34] w fun e w'=>e=.returned (.func (.func 222) #[] #[])/\w'=w:=by
 exact z0ta
theorem Alh(w:World):Calls Tryz.prog 166 #[.int .i64 35] w fun e w'=>e=.returned (.func (.func 222) #[] #[])/\w'=w:=by
 exact z0ta
theorem z0ua {P:Prop} (h:P:=by
  go_enter Tryz.func100,Tryz.ntmps100;exact z03a):P:=h
theorem A66(w:World):Calls Tryz.prog 100 #[.int .i64 0] w fun e w'=>e=.returned (.func (.func 148) #[] #[])/\w'=w:=by
 exact z0ua
theorem A67(w:World):Calls Tryz.prog 100 #[.int .i64 1] w fun e w'=>e=.returned (.func (.func 149) #[] #[])/\w'=w:=by
 exact z0ua
theorem A6f(w:World):Calls Tryz.prog 100 #[.int .i64 2] w fun e w'=>e=.returned (.func (.func 150) #[] #[])/\w'=w:=by
 exact z0ua
theorem A6k(w:World):Calls Tryz.prog 100 #[.int .i64 3] w fun e w'=>e=.returned (.func (.func 151) #[] #[])/\w'=w:=by
 exact z0ua
theorem A6p(w:World):Calls Tryz.prog 100 #[.int .i64 4] w fun e w'=>e=.returned (.func (.func 152) #[] #[])/\w'=w:=by
 exact z0ua
theorem A6s(w:World):Calls Tryz.prog 100 #[.int .i64 5] w fun e w'=>e=.returned (.func (.func 153) #[] #[])/\w'=w:=by
 exact z0ua
theorem A6t(w:World):Calls Tryz.prog 100 #[.int .i64 6] w fun e w'=>e=.returned (.func (.func 154) #[] #[])/\w'=w:=by
 exact z0ua
theorem Ru(w:World):Calls Tryz.prog 100 #[.int .i64 7] w fun e w'=>e=.returned (.func (.func 155) #[] #[])/\w'=w:=by
 exact z0ua
theorem Vv(w:World):Calls Tryz.prog 100 #[.int .i64 8] w fun e w'=>e=.returned (.func (.func 155) #[] #[])/\w'=w:=by
 exact z0ua
theorem Vw(w:World):Calls Tryz.prog 100 #[.int .i64 9] w fun e w'=>e=.returned (.func (.func 156) #[] #[])/\w'=w:=by
 exact z0ua
theorem Vn(w:World):Calls Tryz.prog 100 #[.int .i64 10] w fun e w'=>e=.returned (.func (.func 156) #[] #[])/\w'=w:=by
 exact z0ua
theorem A68(w:World):Calls Tryz.prog 100 #[.int .i64 11] w fun e w'=>e=.returned (.func (.func 157) #[] #[])/\w'=w:=by
 exact z0ua
theorem z0za {P:Prop} (h:P:=by
  rintro e w1 ⟨rfl,rfl⟩;exact z03a):P:=h
theorem Tp(w:World):Calls Tryz.prog 100 #[.int .i64 12] w fun e w'=>e=.returned (.func (.func 212) #[] #[])/\w'=w:=by
 go_enter Tryz.func100,Tryz.ntmps100;go_wp2_with fail
 refine(Aku w).mono ?_;exact z0za
theorem A69(w:World):Calls Tryz.prog 100 #[.int .i64 13] w fun e w'=>e=.returned (.func (.func 212) #[] #[])/\w'=w:=by
 go_enter Tryz.func100,Tryz.ntmps100;go_wp2_with fail
 refine(Akv w).mono ?_;exact z0za
theorem Z9(w:World):Calls Tryz.prog 100 #[.int .i64 14] w fun e w'=>e=.returned (.func (.func 213) #[] #[])/\w'=w:=by
 go_enter Tryz.func100,Tryz.ntmps100;go_wp2_with fail
 refine(Akw w).mono ?_;exact z0za
theorem A6a(w:World):Calls Tryz.prog 100 #[.int .i64 15] w fun e w'=>e=.returned (.func (.func 214) #[] #[])/\w'=w:=by
 go_enter Tryz.func100,Tryz.ntmps100;go_wp2_with fail
 refine(Akx w).mono ?_;exact z0za
theorem A6b(w:World):Calls Tryz.prog 100 #[.int .i64 16] w fun e w'=>e=.returned (.func (.func 214) #[] #[])/\w'=w:=by
 go_enter Tryz.func100,Tryz.ntmps100;go_wp2_with fail
 refine(Aky w).mono ?_;exact z0za
theorem A6c(w:World):Calls Tryz.prog 100 #[.int .i64 17] w fun e w'=>e=.returned (.func (.func 215) #[] #[])/\w'=w:=by
 go_enter Tryz.func100,Tryz.ntmps100;go_wp2_with fail
 refine(Akz w).mono ?_;exact z0za
theorem A6d(w:World):Calls Tryz.prog 100 #[.int .i64 18] w fun e w'=>e=.returned (.func (.func 215) #[] #[])/\w'=w:=by
 go_enter Tryz.func100,Tryz.ntmps100;go_wp2_with fail
 refine(Al0 w).mono ?_;exact z0za
theorem A6e(w:World):Calls Tryz.prog 100 #[.int .i64 19] w fun e w'=>e=.returned (.func (.func 216) #[] #[])/\w'=w:=by
 go_enter Tryz.func100,Tryz.ntmps100;go_wp2_with fail
 refine(Al1 w).mono ?_;exact z0za
theorem Za(w:World):Calls Tryz.prog 100 #[.int .i64 20] w fun e w'=>e=.returned (.func (.func 216) #[] #[])/\w'=w:=by
 go_enter Tryz.func100,Tryz.ntmps100;go_wp2_with fail
 refine(Al2 w).mono ?_;exact z0za
theorem A6g(w:World):Calls Tryz.prog 100 #[.int .i64 21] w fun e w'=>e=.returned (.func (.func 217) #[] #[])/\w'=w:=by
 go_enter Tryz.func100,Tryz.ntmps100;go_wp2_with fail
 refine(Al3 w).mono ?_;exact z0za
theorem Zb(w:World):Calls Tryz.prog 100 #[.int .i64 22] w fun e w'=>e=.returned (.func (.func 217) #[] #[])/\w'=w:=by
 go_enter Tryz.func100,Tryz.ntmps100;go_wp2_with fail
 refine(Al4 w).mono ?_;exact z0za
theorem Zc(w:World):Calls Tryz.prog 100 #[.int .i64 23] w fun e w'=>e=.returned (.func (.func 218) #[] #[])/\w'=w:=by
 go_enter Tryz.func100,Tryz.ntmps100;go_wp2_with fail
 refine(Al5 w).mono ?_;exact z0za
theorem A6h(w:World):Calls Tryz.prog 100 #[.int .i64 24] w fun e w'=>e=.returned (.func (.func 218) #[] #[])/\w'=w:=by
 go_enter Tryz.func100,Tryz.ntmps100;go_wp2_with fail
 refine(Al6 w).mono ?_;exact z0za
theorem A6i(w:World):Calls Tryz.prog 100 #[.int .i64 25] w fun e w'=>e=.returned (.func (.func 219) #[] #[])/\w'=w:=by
 go_enter Tryz.func100,Tryz.ntmps100;go_wp2_with fail
 refine(Al7 w).mono ?_;exact z0za
theorem A6j(w:World):Calls Tryz.prog 100 #[.int .i64 26] w fun e w'=>e=.returned (.func (.func 220) #[] #[])/\w'=w:=by
 go_enter Tryz.func100,Tryz.ntmps100;go_wp2_with fail
 refine(Al8 w).mono ?_;exact z0za
theorem Zd(w:World):Calls Tryz.prog 100 #[.int .i64 27] w fun e w'=>e=.returned (.func (.func 220) #[] #[])/\w'=w:=by
 go_enter Tryz.func100,Tryz.ntmps100;go_wp2_with fail
 refine(Al9 w).mono ?_;exact z0za
theorem Vo(w:World):Calls Tryz.prog 100 #[.int .i64 28] w fun e w'=>e=.returned (.func (.func 221) #[] #[])/\w'=w:=by
 go_enter Tryz.func100,Tryz.ntmps100;go_wp2_with fail
 refine(Ala w).mono ?_;exact z0za
theorem Vp(w:World):Calls Tryz.prog 100 #[.int .i64 29] w fun e w'=>e=.returned (.func (.func 221) #[] #[])/\w'=w:=by
 go_enter Tryz.func100,Tryz.ntmps100;go_wp2_with fail
 refine(Alb w).mono ?_;exact z0za
theorem Vq(w:World):Calls Tryz.prog 100 #[.int .i64 30] w fun e w'=>e=.returned (.func (.func 221) #[] #[])/\w'=w:=by
 go_enter Tryz.func100,Tryz.ntmps100;go_wp2_with fail
 refine(Alc w).mono ?_;exact z0za
theorem Vr(w:World):Calls Tryz.prog 100 #[.int .i64 31] w fun e w'=>e=.returned (.func (.func 221) #[] #[])/\w'=w:=by
 go_enter Tryz.func100,Tryz.ntmps100;go_wp2_with fail
 refine(Ald w).mono ?_;exact z0za
theorem A6l(w:World):Calls Tryz.prog 100 #[.int .i64 32] w fun e w'=>e=.returned (.func (.func 222) #[] #[])/\w'=w:=by
 go_enter Tryz.func100,Tryz.ntmps100;go_wp2_with fail
 refine(Ale w).mono ?_;exact z0za
theorem A6m(w:World):Calls Tryz.prog 100 #[.int .i64 33] w fun e w'=>e=.returned (.func (.func 222) #[] #[])/\w'=w:=by
 go_enter Tryz.func100,Tryz.ntmps100;go_wp2_with fail
 refine(Alf w).mono ?_;exact z0za
theorem A6n(w:World):Calls Tryz.prog 100 #[.int .i64 34] w fun e w'=>e=.returned (.func (.func 222) #[] #[])/\w'=w:=by
 go_enter Tryz.func100,Tryz.ntmps100;go_wp2_with fail
 refine(Alg w).mono ?_;exact z0za
theorem A6o(w:World):Calls Tryz.prog 100 #[.int .i64 35] w fun e w'=>e=.returned (.func (.func 222) #[] #[])/\w'=w:=by
 go_enter Tryz.func100,Tryz.ntmps100;go_wp2_with fail
 refine(Alh w).mono ?_;exact z0za
theorem Ze(w:World):Calls Tryz.prog 100 #[.int .i64 36] w fun e w'=>e=.returned (.func (.func 161) #[] #[])/\w'=w:=by
 exact z0ua
theorem Zf(w:World):Calls Tryz.prog 100 #[.int .i64 37] w fun e w'=>e=.returned (.func (.func 162) #[] #[])/\w'=w:=by
 exact z0ua
theorem Vs(w:World):Calls Tryz.prog 100 #[.int .i64 38] w fun e w'=>e=.returned (.func (.func 163) #[] #[])/\w'=w:=by
 exact z0ua
theorem Rt(w:World):Calls Tryz.prog 100 #[.int .i64 39] w fun e w'=>e=.returned (.func (.func 164) #[] #[])/\w'=w:=by
 exact z0ua
theorem Qg(w:World):Calls Tryz.prog 100 #[.int .i64 40] w fun e w'=>e=.returned (.func (.func 165) #[] #[])/\w'=w:=by
 exact z0ua
theorem Vt(w:World):Calls Tryz.prog 100 #[.int .i64 41] w fun e w'=>e=.returned (.func (.func 158) #[] #[])/\w'=w:=by
 exact z0ua
theorem Vu(w:World):Calls Tryz.prog 100 #[.int .i64 42] w fun e w'=>e=.returned (.func (.func 159) #[] #[])/\w'=w:=by
 exact z0ua
theorem A6q(w:World):Calls Tryz.prog 100 #[.int .i64 43] w fun e w'=>e=.returned (.func (.func 160) #[] #[])/\w'=w:=by
 exact z0ua
theorem A6r(w:World):Calls Tryz.prog 100 #[.int .i64 44] w fun e w'=>e=.returned (.func (.func 160) #[] #[])/\w'=w:=by
 exact z0ua
end
end Go.Proofs.YtjdlndhfaaolaaaGreatDoor
