import Derived.Deep.AppendLies
import Derived.Test.YtjdlndhfaaolaaaGreatDoorRows
import Derived.WalkLawsBesides
import Derived.WalkSpells
set_option maxHeartbeats 20000000
namespace Go.Proofs.YtjdlndhfaaolaaaGreatDoor
section
set_option maxRecDepth 100000
open Go.RowKit
theorem z0ra {P:Prop} (h:P:=by
  go_enter Tryz.func166,Tryz.ntmps166;go_wp2;go_ret;exact⟨rfl,rfl⟩):P:=h
theorem Aj6(w:World):Calls Tryz.prog 166 #[.int .i64 12] w fun e w'=>e=.returned (.func (.func 212) #[] #[])/\w'=w:=by
 exact z0ra
theorem Aj7(w:World):Calls Tryz.prog 166 #[.int .i64 15] w fun e w'=>e=.returned (.func (.func 214) #[] #[])/\w'=w:=by
 exact z0ra
theorem Aj8(w:World):Calls Tryz.prog 166 #[.int .i64 17] w fun e w'=>e=.returned (.func (.func 215) #[] #[])/\w'=w:=by
 exact z0ra
theorem Aj9(w:World):Calls Tryz.prog 166 #[.int .i64 19] w fun e w'=>e=.returned (.func (.func 216) #[] #[])/\w'=w:=by
 exact z0ra
theorem Aja(w:World):Calls Tryz.prog 166 #[.int .i64 21] w fun e w'=>e=.returned (.func (.func 217) #[] #[])/\w'=w:=by
 exact z0ra
theorem Ajb(w:World):Calls Tryz.prog 166 #[.int .i64 23] w fun e w'=>e=.returned (.func (.func 218) #[] #[])/\w'=w:=by
 exact z0ra
theorem Ajc(w:World):Calls Tryz.prog 166 #[.int .i64 25] w fun e w'=>e=.returned (.func (.func 219) #[] #[])/\w'=w:=by
 exact z0ra
theorem Ajd(w:World):Calls Tryz.prog 166 #[.int .i64 26] w fun e w'=>e=.returned (.func (.func 220) #[] #[])/\w'=w:=by
 exact z0ra
theorem Aje(w:World):Calls Tryz.prog 166 #[.int .i64 27] w fun e w'=>e=.returned (.func (.func 220) #[] #[])/\w'=w:=by
 exact z0ra
theorem Ajf(w:World):Calls Tryz.prog 166 #[.int .i64 28] w fun e w'=>e=.returned (.func (.func 221) #[] #[])/\w'=w:=by
 exact z0ra
theorem Ajg(w:World):Calls Tryz.prog 166 #[.int .i64 29] w fun e w'=>e=.returned (.func (.func 221) #[] #[])/\w'=w:=by
 exact z0ra
theorem Ajh(w:World):Calls Tryz.prog 166 #[.int .i64 30] w fun e w'=>e=.returned (.func (.func 221) #[] #[])/\w'=w:=by
 exact z0ra
theorem Aji(w:World):Calls Tryz.prog 166 #[.int .i64 31] w fun e w'=>e=.returned (.func (.func 221) #[] #[])/\w'=w:=by
 exact z0ra
theorem z0ga {P:Prop} (h:P:=by
  go_enter Tryz.func100,Tryz.ntmps100;go_wp2;go_ret;exact⟨rfl,rfl⟩):P:=h
theorem A6c(w:World):Calls Tryz.prog 100 #[.int .i64 0] w fun e w'=>e=.returned (.func (.func 148) #[] #[])/\w'=w:=by
 exact z0ga
theorem A6d(w:World):Calls Tryz.prog 100 #[.int .i64 1] w fun e w'=>e=.returned (.func (.func 149) #[] #[])/\w'=w:=by
 exact z0ga
theorem A6i(w:World):Calls Tryz.prog 100 #[.int .i64 2] w fun e w'=>e=.returned (.func (.func 150) #[] #[])/\w'=w:=by
 exact z0ga
theorem A6m(w:World):Calls Tryz.prog 100 #[.int .i64 3] w fun e w'=>e=.returned (.func (.func 151) #[] #[])/\w'=w:=by
 exact z0ga
theorem A6n(w:World):Calls Tryz.prog 100 #[.int .i64 4] w fun e w'=>e=.returned (.func (.func 152) #[] #[])/\w'=w:=by
 exact z0ga
theorem A6q(w:World):Calls Tryz.prog 100 #[.int .i64 5] w fun e w'=>e=.returned (.func (.func 153) #[] #[])/\w'=w:=by
 exact z0ga
theorem A6r(w:World):Calls Tryz.prog 100 #[.int .i64 6] w fun e w'=>e=.returned (.func (.func 154) #[] #[])/\w'=w:=by
 exact z0ga
theorem R7(w:World):Calls Tryz.prog 100 #[.int .i64 7] w fun e w'=>e=.returned (.func (.func 155) #[] #[])/\w'=w:=by
 exact z0ga
theorem Vn(w:World):Calls Tryz.prog 100 #[.int .i64 8] w fun e w'=>e=.returned (.func (.func 155) #[] #[])/\w'=w:=by
 exact z0ga
theorem Vo(w:World):Calls Tryz.prog 100 #[.int .i64 9] w fun e w'=>e=.returned (.func (.func 156) #[] #[])/\w'=w:=by
 exact z0ga
theorem Vf(w:World):Calls Tryz.prog 100 #[.int .i64 10] w fun e w'=>e=.returned (.func (.func 156) #[] #[])/\w'=w:=by
 exact z0ga
theorem A6e(w:World):Calls Tryz.prog 100 #[.int .i64 11] w fun e w'=>e=.returned (.func (.func 157) #[] #[])/\w'=w:=by
 exact z0ga
theorem z0wa {P:Prop} (h:P:=by
  rintro e w1 ⟨rfl,rfl⟩;go_wp2;go_ret;exact⟨rfl,rfl⟩):P:=h
theorem T2(w:World):Calls Tryz.prog 100 #[.int .i64 12] w fun e w'=>e=.returned (.func (.func 212) #[] #[])/\w'=w:=by
 go_enter Tryz.func100,Tryz.ntmps100;go_wp2_with fail
 refine(Aj6 w).mono ?_;exact z0wa
theorem A6f(w:World):Calls Tryz.prog 100 #[.int .i64 15] w fun e w'=>e=.returned (.func (.func 214) #[] #[])/\w'=w:=by
 go_enter Tryz.func100,Tryz.ntmps100;go_wp2_with fail
 refine(Aj7 w).mono ?_;exact z0wa
theorem A6g(w:World):Calls Tryz.prog 100 #[.int .i64 17] w fun e w'=>e=.returned (.func (.func 215) #[] #[])/\w'=w:=by
 go_enter Tryz.func100,Tryz.ntmps100;go_wp2_with fail
 refine(Aj8 w).mono ?_;exact z0wa
theorem A6h(w:World):Calls Tryz.prog 100 #[.int .i64 19] w fun e w'=>e=.returned (.func (.func 216) #[] #[])/\w'=w:=by
 go_enter Tryz.func100,Tryz.ntmps100;go_wp2_with fail
 refine(Aj9 w).mono ?_;exact z0wa
theorem A6j(w:World):Calls Tryz.prog 100 #[.int .i64 21] w fun e w'=>e=.returned (.func (.func 217) #[] #[])/\w'=w:=by
 go_enter Tryz.func100,Tryz.ntmps100;go_wp2_with fail
 refine(Aja w).mono ?_;exact z0wa
theorem b6(w:World):Calls Tryz.prog 100 #[.int .i64 23] w fun e w'=>e=.returned (.func (.func 218) #[] #[])/\w'=w:=by
 go_enter Tryz.func100,Tryz.ntmps100;go_wp2_with fail
 refine(Ajb w).mono ?_;exact z0wa
theorem A6k(w:World):Calls Tryz.prog 100 #[.int .i64 25] w fun e w'=>e=.returned (.func (.func 219) #[] #[])/\w'=w:=by
 go_enter Tryz.func100,Tryz.ntmps100;go_wp2_with fail
 refine(Ajc w).mono ?_;exact z0wa
theorem A6l(w:World):Calls Tryz.prog 100 #[.int .i64 26] w fun e w'=>e=.returned (.func (.func 220) #[] #[])/\w'=w:=by
 go_enter Tryz.func100,Tryz.ntmps100;go_wp2_with fail
 refine(Ajd w).mono ?_;exact z0wa
theorem b7(w:World):Calls Tryz.prog 100 #[.int .i64 27] w fun e w'=>e=.returned (.func (.func 220) #[] #[])/\w'=w:=by
 go_enter Tryz.func100,Tryz.ntmps100;go_wp2_with fail
 refine(Aje w).mono ?_;exact z0wa
theorem Vg(w:World):Calls Tryz.prog 100 #[.int .i64 28] w fun e w'=>e=.returned (.func (.func 221) #[] #[])/\w'=w:=by
 go_enter Tryz.func100,Tryz.ntmps100;go_wp2_with fail
 refine(Ajf w).mono ?_;exact z0wa
theorem Vh(w:World):Calls Tryz.prog 100 #[.int .i64 29] w fun e w'=>e=.returned (.func (.func 221) #[] #[])/\w'=w:=by
 go_enter Tryz.func100,Tryz.ntmps100;go_wp2_with fail
 refine(Ajg w).mono ?_;exact z0wa
theorem Vi(w:World):Calls Tryz.prog 100 #[.int .i64 30] w fun e w'=>e=.returned (.func (.func 221) #[] #[])/\w'=w:=by
 go_enter Tryz.func100,Tryz.ntmps100;go_wp2_with fail
 refine(Ajh w).mono ?_;exact z0wa
theorem Vj(w:World):Calls Tryz.prog 100 #[.int .i64 31] w fun e w'=>e=.returned (.func (.func 221) #[] #[])/\w'=w:=by
 go_enter Tryz.func100,Tryz.ntmps100;go_wp2_with fail
 refine(Aji w).mono ?_;exact z0wa
theorem b8(w:World):Calls Tryz.prog 100 #[.int .i64 36] w fun e w'=>e=.returned (.func (.func 161) #[] #[])/\w'=w:=by
 exact z0ga
theorem b9(w:World):Calls Tryz.prog 100 #[.int .i64 37] w fun e w'=>e=.returned (.func (.func 162) #[] #[])/\w'=w:=by
 exact z0ga
theorem Vk(w:World):Calls Tryz.prog 100 #[.int .i64 38] w fun e w'=>e=.returned (.func (.func 163) #[] #[])/\w'=w:=by
 exact z0ga
theorem Q1(w:World):Calls Tryz.prog 100 #[.int .i64 39] w fun e w'=>e=.returned (.func (.func 164) #[] #[])/\w'=w:=by
 exact z0ga
theorem Q2(w:World):Calls Tryz.prog 100 #[.int .i64 40] w fun e w'=>e=.returned (.func (.func 165) #[] #[])/\w'=w:=by
 exact z0ga
theorem Vl(w:World):Calls Tryz.prog 100 #[.int .i64 41] w fun e w'=>e=.returned (.func (.func 158) #[] #[])/\w'=w:=by
 exact z0ga
theorem Vm(w:World):Calls Tryz.prog 100 #[.int .i64 42] w fun e w'=>e=.returned (.func (.func 159) #[] #[])/\w'=w:=by
 exact z0ga
theorem A6o(w:World):Calls Tryz.prog 100 #[.int .i64 43] w fun e w'=>e=.returned (.func (.func 160) #[] #[])/\w'=w:=by
 exact z0ga
theorem A6p(w:World):Calls Tryz.prog 100 #[.int .i64 44] w fun e w'=>e=.returned (.func (.func 160) #[] #[])/\w'=w:=by
 exact z0ga
end
end Go.Proofs.YtjdlndhfaaolaaaGreatDoor
