import Derived.Deep.AppendLies
import Derived.Test.YtjdlndhfaaolaaaGreatDoorRows
import Derived.WalkLawsBesides
import Derived.WalkSpells
set_option maxHeartbeats 20000000
namespace Go.Proofs.YtjdlndhfaaolaaaGreatDoor
section
set_option maxRecDepth 100000
open Go.RowKit
theorem Ag9(w:World):Calls Tryz.prog 166 #[.int .i64 12] w fun e w'=>e=.returned (.func (.func 212) #[] #[])/\w'=w:=by
 go_enter Tryz.func166,Tryz.ntmps166;go_wp2;go_ret;exact⟨rfl,rfl⟩
theorem Al4(w:World):Calls Tryz.prog 166 #[.int .i64 13] w fun e w'=>e=.returned (.func (.func 212) #[] #[])/\w'=w:=by
 go_enter Tryz.func166,Tryz.ntmps166;go_wp2;go_ret;exact⟨rfl,rfl⟩
theorem Adk(w:World):Calls Tryz.prog 166 #[.int .i64 14] w fun e w'=>e=.returned (.func (.func 213) #[] #[])/\w'=w:=by
 go_enter Tryz.func166,Tryz.ntmps166;go_wp2;go_ret;exact⟨rfl,rfl⟩
theorem Aji(w:World):Calls Tryz.prog 166 #[.int .i64 15] w fun e w'=>e=.returned (.func (.func 214) #[] #[])/\w'=w:=by
 go_enter Tryz.func166,Tryz.ntmps166;go_wp2;go_ret;exact⟨rfl,rfl⟩
theorem Ahg(w:World):Calls Tryz.prog 166 #[.int .i64 16] w fun e w'=>e=.returned (.func (.func 214) #[] #[])/\w'=w:=by
 go_enter Tryz.func166,Tryz.ntmps166;go_wp2;go_ret;exact⟨rfl,rfl⟩
theorem A8h(w:World):Calls Tryz.prog 166 #[.int .i64 17] w fun e w'=>e=.returned (.func (.func 215) #[] #[])/\w'=w:=by
 go_enter Tryz.func166,Tryz.ntmps166;go_wp2;go_ret;exact⟨rfl,rfl⟩
theorem Abk(w:World):Calls Tryz.prog 166 #[.int .i64 18] w fun e w'=>e=.returned (.func (.func 215) #[] #[])/\w'=w:=by
 go_enter Tryz.func166,Tryz.ntmps166;go_wp2;go_ret;exact⟨rfl,rfl⟩
theorem Agi(w:World):Calls Tryz.prog 166 #[.int .i64 19] w fun e w'=>e=.returned (.func (.func 216) #[] #[])/\w'=w:=by
 go_enter Tryz.func166,Tryz.ntmps166;go_wp2;go_ret;exact⟨rfl,rfl⟩
theorem Ac2(w:World):Calls Tryz.prog 166 #[.int .i64 20] w fun e w'=>e=.returned (.func (.func 216) #[] #[])/\w'=w:=by
 go_enter Tryz.func166,Tryz.ntmps166;go_wp2;go_ret;exact⟨rfl,rfl⟩
theorem Aim(w:World):Calls Tryz.prog 166 #[.int .i64 21] w fun e w'=>e=.returned (.func (.func 217) #[] #[])/\w'=w:=by
 go_enter Tryz.func166,Tryz.ntmps166;go_wp2;go_ret;exact⟨rfl,rfl⟩
theorem Amr(w:World):Calls Tryz.prog 166 #[.int .i64 22] w fun e w'=>e=.returned (.func (.func 217) #[] #[])/\w'=w:=by
 go_enter Tryz.func166,Tryz.ntmps166;go_wp2;go_ret;exact⟨rfl,rfl⟩
theorem A7w(w:World):Calls Tryz.prog 166 #[.int .i64 23] w fun e w'=>e=.returned (.func (.func 218) #[] #[])/\w'=w:=by
 go_enter Tryz.func166,Tryz.ntmps166;go_wp2;go_ret;exact⟨rfl,rfl⟩
theorem A5a(w:World):Calls Tryz.prog 166 #[.int .i64 24] w fun e w'=>e=.returned (.func (.func 218) #[] #[])/\w'=w:=by
 go_enter Tryz.func166,Tryz.ntmps166;go_wp2;go_ret;exact⟨rfl,rfl⟩
theorem Am6(w:World):Calls Tryz.prog 166 #[.int .i64 25] w fun e w'=>e=.returned (.func (.func 219) #[] #[])/\w'=w:=by
 go_enter Tryz.func166,Tryz.ntmps166;go_wp2;go_ret;exact⟨rfl,rfl⟩
theorem Adm(w:World):Calls Tryz.prog 166 #[.int .i64 26] w fun e w'=>e=.returned (.func (.func 220) #[] #[])/\w'=w:=by
 go_enter Tryz.func166,Tryz.ntmps166;go_wp2;go_ret;exact⟨rfl,rfl⟩
theorem Abs(w:World):Calls Tryz.prog 166 #[.int .i64 27] w fun e w'=>e=.returned (.func (.func 220) #[] #[])/\w'=w:=by
 go_enter Tryz.func166,Tryz.ntmps166;go_wp2;go_ret;exact⟨rfl,rfl⟩
theorem Aff(w:World):Calls Tryz.prog 166 #[.int .i64 28] w fun e w'=>e=.returned (.func (.func 221) #[] #[])/\w'=w:=by
 go_enter Tryz.func166,Tryz.ntmps166;go_wp2;go_ret;exact⟨rfl,rfl⟩
theorem A33(w:World):Calls Tryz.prog 166 #[.int .i64 29] w fun e w'=>e=.returned (.func (.func 221) #[] #[])/\w'=w:=by
 go_enter Tryz.func166,Tryz.ntmps166;go_wp2;go_ret;exact⟨rfl,rfl⟩
theorem Acr(w:World):Calls Tryz.prog 166 #[.int .i64 30] w fun e w'=>e=.returned (.func (.func 221) #[] #[])/\w'=w:=by
 go_enter Tryz.func166,Tryz.ntmps166;go_wp2;go_ret;exact⟨rfl,rfl⟩
theorem A34(w:World):Calls Tryz.prog 166 #[.int .i64 31] w fun e w'=>e=.returned (.func (.func 221) #[] #[])/\w'=w:=by
 go_enter Tryz.func166,Tryz.ntmps166;go_wp2;go_ret;exact⟨rfl,rfl⟩
theorem A8o(w:World):Calls Tryz.prog 166 #[.int .i64 32] w fun e w'=>e=.returned (.func (.func 222) #[] #[])/\w'=w:=by
 go_enter Tryz.func166,Tryz.ntmps166;go_wp2;go_ret;exact⟨rfl,rfl⟩
theorem A8x(w:World):Calls Tryz.prog 166 #[.int .i64 33] w fun e w'=>e=.returned (.func (.func 222) #[] #[])/\w'=w:=by
 go_enter Tryz.func166,Tryz.ntmps166;go_wp2;go_ret;exact⟨rfl,rfl⟩
theorem A6p(w:World):Calls Tryz.prog 166 #[.int .i64 34] w fun e w'=>e=.returned (.func (.func 222) #[] #[])/\w'=w:=by
 go_enter Tryz.func166,Tryz.ntmps166;go_wp2;go_ret;exact⟨rfl,rfl⟩
theorem Ad8(w:World):Calls Tryz.prog 166 #[.int .i64 35] w fun e w'=>e=.returned (.func (.func 222) #[] #[])/\w'=w:=by
 go_enter Tryz.func166,Tryz.ntmps166;go_wp2;go_ret;exact⟨rfl,rfl⟩
theorem A6t(w:World):Calls Tryz.prog 100 #[.int .i64 0] w fun e w'=>e=.returned (.func (.func 148) #[] #[])/\w'=w:=by
 go_enter Tryz.func100,Tryz.ntmps100;go_wp2;go_ret;exact⟨rfl,rfl⟩
theorem Ahy(w:World):Calls Tryz.prog 100 #[.int .i64 1] w fun e w'=>e=.returned (.func (.func 149) #[] #[])/\w'=w:=by
 go_enter Tryz.func100,Tryz.ntmps100;go_wp2;go_ret;exact⟨rfl,rfl⟩
theorem A3k(w:World):Calls Tryz.prog 100 #[.int .i64 3] w fun e w'=>e=.returned (.func (.func 151) #[] #[])/\w'=w:=by
 go_enter Tryz.func100,Tryz.ntmps100;go_wp2;go_ret;exact⟨rfl,rfl⟩
theorem Ahi(w:World):Calls Tryz.prog 100 #[.int .i64 5] w fun e w'=>e=.returned (.func (.func 153) #[] #[])/\w'=w:=by
 go_enter Tryz.func100,Tryz.ntmps100;go_wp2;go_ret;exact⟨rfl,rfl⟩
theorem Ak1(w:World):Calls Tryz.prog 100 #[.int .i64 6] w fun e w'=>e=.returned (.func (.func 154) #[] #[])/\w'=w:=by
 go_enter Tryz.func100,Tryz.ntmps100;go_wp2;go_ret;exact⟨rfl,rfl⟩
theorem Q8(w:World):Calls Tryz.prog 100 #[.int .i64 7] w fun e w'=>e=.returned (.func (.func 155) #[] #[])/\w'=w:=by
 go_enter Tryz.func100,Tryz.ntmps100;go_wp2;go_ret;exact⟨rfl,rfl⟩
theorem U1(w:World):Calls Tryz.prog 100 #[.int .i64 8] w fun e w'=>e=.returned (.func (.func 155) #[] #[])/\w'=w:=by
 go_enter Tryz.func100,Tryz.ntmps100;go_wp2;go_ret;exact⟨rfl,rfl⟩
theorem U5(w:World):Calls Tryz.prog 100 #[.int .i64 9] w fun e w'=>e=.returned (.func (.func 156) #[] #[])/\w'=w:=by
 go_enter Tryz.func100,Tryz.ntmps100;go_wp2;go_ret;exact⟨rfl,rfl⟩
theorem U3(w:World):Calls Tryz.prog 100 #[.int .i64 10] w fun e w'=>e=.returned (.func (.func 156) #[] #[])/\w'=w:=by
 go_enter Tryz.func100,Tryz.ntmps100;go_wp2;go_ret;exact⟨rfl,rfl⟩
theorem A5q(w:World):Calls Tryz.prog 100 #[.int .i64 11] w fun e w'=>e=.returned (.func (.func 157) #[] #[])/\w'=w:=by
 go_enter Tryz.func100,Tryz.ntmps100;go_wp2;go_ret;exact⟨rfl,rfl⟩
theorem Rv(w:World):Calls Tryz.prog 100 #[.int .i64 12] w fun e w'=>e=.returned (.func (.func 212) #[] #[])/\w'=w:=by
 go_enter Tryz.func100,Tryz.ntmps100;go_wp2_with fail
 refine(Ag9 w).mono ?_;rintro e w1 ⟨rfl,rfl⟩;go_wp2;go_ret;exact⟨rfl,rfl⟩
theorem A2v(w:World):Calls Tryz.prog 100 #[.int .i64 13] w fun e w'=>e=.returned (.func (.func 212) #[] #[])/\w'=w:=by
 go_enter Tryz.func100,Tryz.ntmps100;go_wp2_with fail
 refine(Al4 w).mono ?_;rintro e w1 ⟨rfl,rfl⟩;go_wp2;go_ret;exact⟨rfl,rfl⟩
theorem Yu(w:World):Calls Tryz.prog 100 #[.int .i64 14] w fun e w'=>e=.returned (.func (.func 213) #[] #[])/\w'=w:=by
 go_enter Tryz.func100,Tryz.ntmps100;go_wp2_with fail
 refine(Adk w).mono ?_;rintro e w1 ⟨rfl,rfl⟩;go_wp2;go_ret;exact⟨rfl,rfl⟩
theorem A80(w:World):Calls Tryz.prog 100 #[.int .i64 15] w fun e w'=>e=.returned (.func (.func 214) #[] #[])/\w'=w:=by
 go_enter Tryz.func100,Tryz.ntmps100;go_wp2_with fail
 refine(Aji w).mono ?_;rintro e w1 ⟨rfl,rfl⟩;go_wp2;go_ret;exact⟨rfl,rfl⟩
theorem Aie(w:World):Calls Tryz.prog 100 #[.int .i64 16] w fun e w'=>e=.returned (.func (.func 214) #[] #[])/\w'=w:=by
 go_enter Tryz.func100,Tryz.ntmps100;go_wp2_with fail
 refine(Ahg w).mono ?_;rintro e w1 ⟨rfl,rfl⟩;go_wp2;go_ret;exact⟨rfl,rfl⟩
theorem A58(w:World):Calls Tryz.prog 100 #[.int .i64 17] w fun e w'=>e=.returned (.func (.func 215) #[] #[])/\w'=w:=by
 go_enter Tryz.func100,Tryz.ntmps100;go_wp2_with fail
 refine(A8h w).mono ?_;rintro e w1 ⟨rfl,rfl⟩;go_wp2;go_ret;exact⟨rfl,rfl⟩
theorem A69(w:World):Calls Tryz.prog 100 #[.int .i64 18] w fun e w'=>e=.returned (.func (.func 215) #[] #[])/\w'=w:=by
 go_enter Tryz.func100,Tryz.ntmps100;go_wp2_with fail
 refine(Abk w).mono ?_;rintro e w1 ⟨rfl,rfl⟩;go_wp2;go_ret;exact⟨rfl,rfl⟩
theorem Ag7(w:World):Calls Tryz.prog 100 #[.int .i64 19] w fun e w'=>e=.returned (.func (.func 216) #[] #[])/\w'=w:=by
 go_enter Tryz.func100,Tryz.ntmps100;go_wp2_with fail
 refine(Agi w).mono ?_;rintro e w1 ⟨rfl,rfl⟩;go_wp2;go_ret;exact⟨rfl,rfl⟩
theorem n8(w:World):Calls Tryz.prog 100 #[.int .i64 20] w fun e w'=>e=.returned (.func (.func 216) #[] #[])/\w'=w:=by
 go_enter Tryz.func100,Tryz.ntmps100;go_wp2_with fail
 refine(Ac2 w).mono ?_;rintro e w1 ⟨rfl,rfl⟩;go_wp2;go_ret;exact⟨rfl,rfl⟩
theorem Ama(w:World):Calls Tryz.prog 100 #[.int .i64 21] w fun e w'=>e=.returned (.func (.func 217) #[] #[])/\w'=w:=by
 go_enter Tryz.func100,Tryz.ntmps100;go_wp2_with fail
 refine(Aim w).mono ?_;rintro e w1 ⟨rfl,rfl⟩;go_wp2;go_ret;exact⟨rfl,rfl⟩
theorem A14(w:World):Calls Tryz.prog 100 #[.int .i64 22] w fun e w'=>e=.returned (.func (.func 217) #[] #[])/\w'=w:=by
 go_enter Tryz.func100,Tryz.ntmps100;go_wp2_with fail
 refine(Amr w).mono ?_;rintro e w1 ⟨rfl,rfl⟩;go_wp2;go_ret;exact⟨rfl,rfl⟩
theorem Xv(w:World):Calls Tryz.prog 100 #[.int .i64 23] w fun e w'=>e=.returned (.func (.func 218) #[] #[])/\w'=w:=by
 go_enter Tryz.func100,Tryz.ntmps100;go_wp2_with fail
 refine(A7w w).mono ?_;rintro e w1 ⟨rfl,rfl⟩;go_wp2;go_ret;exact⟨rfl,rfl⟩
theorem Aiv(w:World):Calls Tryz.prog 100 #[.int .i64 24] w fun e w'=>e=.returned (.func (.func 218) #[] #[])/\w'=w:=by
 go_enter Tryz.func100,Tryz.ntmps100;go_wp2_with fail
 refine(A5a w).mono ?_;rintro e w1 ⟨rfl,rfl⟩;go_wp2;go_ret;exact⟨rfl,rfl⟩
theorem Akh(w:World):Calls Tryz.prog 100 #[.int .i64 25] w fun e w'=>e=.returned (.func (.func 219) #[] #[])/\w'=w:=by
 go_enter Tryz.func100,Tryz.ntmps100;go_wp2_with fail
 refine(Am6 w).mono ?_;rintro e w1 ⟨rfl,rfl⟩;go_wp2;go_ret;exact⟨rfl,rfl⟩
theorem A9b(w:World):Calls Tryz.prog 100 #[.int .i64 26] w fun e w'=>e=.returned (.func (.func 220) #[] #[])/\w'=w:=by
 go_enter Tryz.func100,Tryz.ntmps100;go_wp2_with fail
 refine(Adm w).mono ?_;rintro e w1 ⟨rfl,rfl⟩;go_wp2;go_ret;exact⟨rfl,rfl⟩
theorem Xs(w:World):Calls Tryz.prog 100 #[.int .i64 27] w fun e w'=>e=.returned (.func (.func 220) #[] #[])/\w'=w:=by
 go_enter Tryz.func100,Tryz.ntmps100;go_wp2_with fail
 refine(Abs w).mono ?_;rintro e w1 ⟨rfl,rfl⟩;go_wp2;go_ret;exact⟨rfl,rfl⟩
theorem Wm(w:World):Calls Tryz.prog 100 #[.int .i64 28] w fun e w'=>e=.returned (.func (.func 221) #[] #[])/\w'=w:=by
 go_enter Tryz.func100,Tryz.ntmps100;go_wp2_with fail
 refine(Aff w).mono ?_;rintro e w1 ⟨rfl,rfl⟩;go_wp2;go_ret;exact⟨rfl,rfl⟩
theorem Vf(w:World):Calls Tryz.prog 100 #[.int .i64 29] w fun e w'=>e=.returned (.func (.func 221) #[] #[])/\w'=w:=by
 go_enter Tryz.func100,Tryz.ntmps100;go_wp2_with fail
 refine(A33 w).mono ?_;rintro e w1 ⟨rfl,rfl⟩;go_wp2;go_ret;exact⟨rfl,rfl⟩
theorem V7(w:World):Calls Tryz.prog 100 #[.int .i64 30] w fun e w'=>e=.returned (.func (.func 221) #[] #[])/\w'=w:=by
 go_enter Tryz.func100,Tryz.ntmps100;go_wp2_with fail
 refine(Acr w).mono ?_;rintro e w1 ⟨rfl,rfl⟩;go_wp2;go_ret;exact⟨rfl,rfl⟩
theorem Wg(w:World):Calls Tryz.prog 100 #[.int .i64 31] w fun e w'=>e=.returned (.func (.func 221) #[] #[])/\w'=w:=by
 go_enter Tryz.func100,Tryz.ntmps100;go_wp2_with fail
 refine(A34 w).mono ?_;rintro e w1 ⟨rfl,rfl⟩;go_wp2;go_ret;exact⟨rfl,rfl⟩
theorem Aij(w:World):Calls Tryz.prog 100 #[.int .i64 32] w fun e w'=>e=.returned (.func (.func 222) #[] #[])/\w'=w:=by
 go_enter Tryz.func100,Tryz.ntmps100;go_wp2_with fail
 refine(A8o w).mono ?_;rintro e w1 ⟨rfl,rfl⟩;go_wp2;go_ret;exact⟨rfl,rfl⟩
theorem Alb(w:World):Calls Tryz.prog 100 #[.int .i64 33] w fun e w'=>e=.returned (.func (.func 222) #[] #[])/\w'=w:=by
 go_enter Tryz.func100,Tryz.ntmps100;go_wp2_with fail
 refine(A8x w).mono ?_;rintro e w1 ⟨rfl,rfl⟩;go_wp2;go_ret;exact⟨rfl,rfl⟩
theorem A9v(w:World):Calls Tryz.prog 100 #[.int .i64 34] w fun e w'=>e=.returned (.func (.func 222) #[] #[])/\w'=w:=by
 go_enter Tryz.func100,Tryz.ntmps100;go_wp2_with fail
 refine(A6p w).mono ?_;rintro e w1 ⟨rfl,rfl⟩;go_wp2;go_ret;exact⟨rfl,rfl⟩
theorem Acw(w:World):Calls Tryz.prog 100 #[.int .i64 35] w fun e w'=>e=.returned (.func (.func 222) #[] #[])/\w'=w:=by
 go_enter Tryz.func100,Tryz.ntmps100;go_wp2_with fail
 refine(Ad8 w).mono ?_;rintro e w1 ⟨rfl,rfl⟩;go_wp2;go_ret;exact⟨rfl,rfl⟩
theorem U2(w:World):Calls Tryz.prog 100 #[.int .i64 41] w fun e w'=>e=.returned (.func (.func 158) #[] #[])/\w'=w:=by
 go_enter Tryz.func100,Tryz.ntmps100;go_wp2;go_ret;exact⟨rfl,rfl⟩
theorem Ux(w:World):Calls Tryz.prog 100 #[.int .i64 42] w fun e w'=>e=.returned (.func (.func 159) #[] #[])/\w'=w:=by
 go_enter Tryz.func100,Tryz.ntmps100;go_wp2;go_ret;exact⟨rfl,rfl⟩
theorem Aj0(w:World):Calls Tryz.prog 100 #[.int .i64 43] w fun e w'=>e=.returned (.func (.func 160) #[] #[])/\w'=w:=by
 go_enter Tryz.func100,Tryz.ntmps100;go_wp2;go_ret;exact⟨rfl,rfl⟩
theorem A7a(w:World):Calls Tryz.prog 100 #[.int .i64 44] w fun e w'=>e=.returned (.func (.func 160) #[] #[])/\w'=w:=by
 go_enter Tryz.func100,Tryz.ntmps100;go_wp2;go_ret;exact⟨rfl,rfl⟩
end
end Go.Proofs.YtjdlndhfaaolaaaGreatDoor
