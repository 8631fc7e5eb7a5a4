import Derived.Deep.AppendLies
import Derived.Test.YtjdlndhfaaolaaaGreatDoorRows
import Derived.WalkLawsBesides
import Derived.WalkSpells
set_option maxHeartbeats 20000000
namespace Go.Proofs.YtjdlndhfaaolaaaGreatDoor
section
set_option maxRecDepth 100000
open Go.RowKit
theorem z0fa {P:Prop} (h:P:=by
  go_wp2;go_ret;exact⟨rfl,rfl⟩):P:=h
theorem z0va {P:Prop} (h:P:=by
  go_enter Tryz.func166,Tryz.ntmps166;exact z0fa):P:=h
theorem Akn(w:World):Calls Tryz.prog 166 #[.int .i64 12] w fun e w'=>e=.returned (.func (.func 212) #[] #[])/\w'=w:=by
 exact z0va
theorem Ako(w:World):Calls Tryz.prog 166 #[.int .i64 13] w fun e w'=>e=.returned (.func (.func 212) #[] #[])/\w'=w:=by
 exact z0va
theorem Akp(w:World):Calls Tryz.prog 166 #[.int .i64 14] w fun e w'=>e=.returned (.func (.func 213) #[] #[])/\w'=w:=by
 exact z0va
theorem Akq(w:World):Calls Tryz.prog 166 #[.int .i64 15] w fun e w'=>e=.returned (.func (.func 214) #[] #[])/\w'=w:=by
 exact z0va
theorem Akr(w:World):Calls Tryz.prog 166 #[.int .i64 16] w fun e w'=>e=.returned (.func (.func 214) #[] #[])/\w'=w:=by
 exact z0va
theorem Aks(w:World):Calls Tryz.prog 166 #[.int .i64 17] w fun e w'=>e=.returned (.func (.func 215) #[] #[])/\w'=w:=by
 exact z0va
theorem Akt(w:World):Calls Tryz.prog 166 #[.int .i64 18] w fun e w'=>e=.returned (.func (.func 215) #[] #[])/\w'=w:=by
 exact z0va
theorem Aku(w:World):Calls Tryz.prog 166 #[.int .i64 19] w fun e w'=>e=.returned (.func (.func 216) #[] #[])/\w'=w:=by
 exact z0va
theorem Akv(w:World):Calls Tryz.prog 166 #[.int .i64 20] w fun e w'=>e=.returned (.func (.func 216) #[] #[])/\w'=w:=by
 exact z0va
theorem Akw(w:World):Calls Tryz.prog 166 #[.int .i64 21] w fun e w'=>e=.returned (.func (.func 217) #[] #[])/\w'=w:=by
 exact z0va
theorem Akx(w:World):Calls Tryz.prog 166 #[.int .i64 22] w fun e w'=>e=.returned (.func (.func 217) #[] #[])/\w'=w:=by
 exact z0va
theorem Aky(w:World):Calls Tryz.prog 166 #[.int .i64 23] w fun e w'=>e=.returned (.func (.func 218) #[] #[])/\w'=w:=by
 exact z0va
theorem Akz(w:World):Calls Tryz.prog 166 #[.int .i64 24] w fun e w'=>e=.returned (.func (.func 218) #[] #[])/\w'=w:=by
 exact z0va
theorem Al0(w:World):Calls Tryz.prog 166 #[.int .i64 25] w fun e w'=>e=.returned (.func (.func 219) #[] #[])/\w'=w:=by
 exact z0va
theorem Al1(w:World):Calls Tryz.prog 166 #[.int .i64 26] w fun e w'=>e=.returned (.func (.func 220) #[] #[])/\w'=w:=by
 exact z0va
theorem Al2(w:World):Calls Tryz.prog 166 #[.int .i64 27] w fun e w'=>e=.returned (.func (.func 220) #[] #[])/\w'=w:=by
 exact z0va
theorem Al3(w:World):Calls Tryz.prog 166 #[.int .i64 28] w fun e w'=>e=.returned (.func (.func 221) #[] #[])/\w'=w:=by
 exact z0va
theorem Al4(w:World):Calls Tryz.prog 166 #[.int .i64 29] w fun e w'=>e=.returned (.func (.func 221) #[] #[])/\w'=w:=by
 exact z0va
theorem Al5(w:World):Calls Tryz.prog 166 #[.int .i64 30] w fun e w'=>e=.returned (.func (.func 221) #[] #[])/\w'=w:=by
 exact z0va
theorem Al6(w:World):Calls Tryz.prog 166 #[.int .i64 31] w fun e w'=>e=.returned (.func (.func 221) #[] #[])/\w'=w:=by
 exact z0va
theorem Al7(w:World):Calls Tryz.prog 166 #[.int .i64 32] w fun e w'=>e=.returned (.func (.func 222) #[] #[])/\w'=w:=by
 exact z0va
theorem Al8(w:World):Calls Tryz.prog 166 #[.int .i64 33] w fun e w'=>e=.returned (.func (.func 222) #[] #[])/\w'=w:=by
 exact z0va
theorem Al9(w:World):Calls Tryz.prog 166 #[.int .i64 34] w fun e w'=>e=.returned (.func (.func 222) #[] #[])/\w'=w:=by
 exact z0va
theorem Ala(w:World):Calls Tryz.prog 166 #[.int .i64 35] w fun e w'=>e=.returned (.func (.func 222) #[] #[])/\w'=w:=by
 exact z0va
theorem z0wa {P:Prop} (h:P:=by
  go_enter Tryz.func100,Tryz.ntmps100;exact z0fa):P:=h
theorem A5z(w:World):Calls Tryz.prog 100 #[.int .i64 0] w fun e w'=>e=.returned (.func (.func 148) #[] #[])/\w'=w:=by
 exact z0wa
theorem A60(w:World):Calls Tryz.prog 100 #[.int .i64 1] w fun e w'=>e=.returned (.func (.func 149) #[] #[])/\w'=w:=by
 exact z0wa
theorem A68(w:World):Calls Tryz.prog 100 #[.int .i64 2] w fun e w'=>e=.returned (.func (.func 150) #[] #[])/\w'=w:=by
 exact z0wa
theorem A6d(w:World):Calls Tryz.prog 100 #[.int .i64 3] w fun e w'=>e=.returned (.func (.func 151) #[] #[])/\w'=w:=by
 exact z0wa
theorem A6i(w:World):Calls Tryz.prog 100 #[.int .i64 4] w fun e w'=>e=.returned (.func (.func 152) #[] #[])/\w'=w:=by
 exact z0wa
theorem A6l(w:World):Calls Tryz.prog 100 #[.int .i64 5] w fun e w'=>e=.returned (.func (.func 153) #[] #[])/\w'=w:=by
 exact z0wa
theorem A6m(w:World):Calls Tryz.prog 100 #[.int .i64 6] w fun e w'=>e=.returned (.func (.func 154) #[] #[])/\w'=w:=by
 exact z0wa
theorem R8(w:World):Calls Tryz.prog 100 #[.int .i64 7] w fun e w'=>e=.returned (.func (.func 155) #[] #[])/\w'=w:=by
 exact z0wa
theorem Vm(w:World):Calls Tryz.prog 100 #[.int .i64 8] w fun e w'=>e=.returned (.func (.func 155) #[] #[])/\w'=w:=by
 exact z0wa
theorem Vn(w:World):Calls Tryz.prog 100 #[.int .i64 9] w fun e w'=>e=.returned (.func (.func 156) #[] #[])/\w'=w:=by
 exact z0wa
theorem Ve(w:World):Calls Tryz.prog 100 #[.int .i64 10] w fun e w'=>e=.returned (.func (.func 156) #[] #[])/\w'=w:=by
 exact z0wa
theorem A61(w:World):Calls Tryz.prog 100 #[.int .i64 11] w fun e w'=>e=.returned (.func (.func 157) #[] #[])/\w'=w:=by
 exact z0wa
theorem z12a {P:Prop} (h:P:=by
  rintro e w1 ⟨rfl,rfl⟩;exact z0fa):P:=h
theorem T8(w:World):Calls Tryz.prog 100 #[.int .i64 12] w fun e w'=>e=.returned (.func (.func 212) #[] #[])/\w'=w:=by
 go_enter Tryz.func100,Tryz.ntmps100;go_wp2_with fail
 refine(Akn w).mono ?_;exact z12a
theorem A62(w:World):Calls Tryz.prog 100 #[.int .i64 13] w fun e w'=>e=.returned (.func (.func 212) #[] #[])/\w'=w:=by
 go_enter Tryz.func100,Tryz.ntmps100;go_wp2_with fail
 refine(Ako w).mono ?_;exact z12a
theorem Yy(w:World):Calls Tryz.prog 100 #[.int .i64 14] w fun e w'=>e=.returned (.func (.func 213) #[] #[])/\w'=w:=by
 go_enter Tryz.func100,Tryz.ntmps100;go_wp2_with fail
 refine(Akp w).mono ?_;exact z12a
theorem A63(w:World):Calls Tryz.prog 100 #[.int .i64 15] w fun e w'=>e=.returned (.func (.func 214) #[] #[])/\w'=w:=by
 go_enter Tryz.func100,Tryz.ntmps100;go_wp2_with fail
 refine(Akq w).mono ?_;exact z12a
theorem A64(w:World):Calls Tryz.prog 100 #[.int .i64 16] w fun e w'=>e=.returned (.func (.func 214) #[] #[])/\w'=w:=by
 go_enter Tryz.func100,Tryz.ntmps100;go_wp2_with fail
 refine(Akr w).mono ?_;exact z12a
theorem A65(w:World):Calls Tryz.prog 100 #[.int .i64 17] w fun e w'=>e=.returned (.func (.func 215) #[] #[])/\w'=w:=by
 go_enter Tryz.func100,Tryz.ntmps100;go_wp2_with fail
 refine(Aks w).mono ?_;exact z12a
theorem A66(w:World):Calls Tryz.prog 100 #[.int .i64 18] w fun e w'=>e=.returned (.func (.func 215) #[] #[])/\w'=w:=by
 go_enter Tryz.func100,Tryz.ntmps100;go_wp2_with fail
 refine(Akt w).mono ?_;exact z12a
theorem A67(w:World):Calls Tryz.prog 100 #[.int .i64 19] w fun e w'=>e=.returned (.func (.func 216) #[] #[])/\w'=w:=by
 go_enter Tryz.func100,Tryz.ntmps100;go_wp2_with fail
 refine(Aku w).mono ?_;exact z12a
theorem Yz(w:World):Calls Tryz.prog 100 #[.int .i64 20] w fun e w'=>e=.returned (.func (.func 216) #[] #[])/\w'=w:=by
 go_enter Tryz.func100,Tryz.ntmps100;go_wp2_with fail
 refine(Akv w).mono ?_;exact z12a
theorem A69(w:World):Calls Tryz.prog 100 #[.int .i64 21] w fun e w'=>e=.returned (.func (.func 217) #[] #[])/\w'=w:=by
 go_enter Tryz.func100,Tryz.ntmps100;go_wp2_with fail
 refine(Akw w).mono ?_;exact z12a
theorem Z0(w:World):Calls Tryz.prog 100 #[.int .i64 22] w fun e w'=>e=.returned (.func (.func 217) #[] #[])/\w'=w:=by
 go_enter Tryz.func100,Tryz.ntmps100;go_wp2_with fail
 refine(Akx w).mono ?_;exact z12a
theorem Z1(w:World):Calls Tryz.prog 100 #[.int .i64 23] w fun e w'=>e=.returned (.func (.func 218) #[] #[])/\w'=w:=by
 go_enter Tryz.func100,Tryz.ntmps100;go_wp2_with fail
 refine(Aky w).mono ?_;exact z12a
theorem A6a(w:World):Calls Tryz.prog 100 #[.int .i64 24] w fun e w'=>e=.returned (.func (.func 218) #[] #[])/\w'=w:=by
 go_enter Tryz.func100,Tryz.ntmps100;go_wp2_with fail
 refine(Akz w).mono ?_;exact z12a
theorem A6b(w:World):Calls Tryz.prog 100 #[.int .i64 25] w fun e w'=>e=.returned (.func (.func 219) #[] #[])/\w'=w:=by
 go_enter Tryz.func100,Tryz.ntmps100;go_wp2_with fail
 refine(Al0 w).mono ?_;exact z12a
theorem A6c(w:World):Calls Tryz.prog 100 #[.int .i64 26] w fun e w'=>e=.returned (.func (.func 220) #[] #[])/\w'=w:=by
 go_enter Tryz.func100,Tryz.ntmps100;go_wp2_with fail
 refine(Al1 w).mono ?_;exact z12a
theorem Z2(w:World):Calls Tryz.prog 100 #[.int .i64 27] w fun e w'=>e=.returned (.func (.func 220) #[] #[])/\w'=w:=by
 go_enter Tryz.func100,Tryz.ntmps100;go_wp2_with fail
 refine(Al2 w).mono ?_;exact z12a
theorem Vf(w:World):Calls Tryz.prog 100 #[.int .i64 28] w fun e w'=>e=.returned (.func (.func 221) #[] #[])/\w'=w:=by
 go_enter Tryz.func100,Tryz.ntmps100;go_wp2_with fail
 refine(Al3 w).mono ?_;exact z12a
theorem Vg(w:World):Calls Tryz.prog 100 #[.int .i64 29] w fun e w'=>e=.returned (.func (.func 221) #[] #[])/\w'=w:=by
 go_enter Tryz.func100,Tryz.ntmps100;go_wp2_with fail
 refine(Al4 w).mono ?_;exact z12a
theorem Vh(w:World):Calls Tryz.prog 100 #[.int .i64 30] w fun e w'=>e=.returned (.func (.func 221) #[] #[])/\w'=w:=by
 go_enter Tryz.func100,Tryz.ntmps100;go_wp2_with fail
 refine(Al5 w).mono ?_;exact z12a
theorem Vi(w:World):Calls Tryz.prog 100 #[.int .i64 31] w fun e w'=>e=.returned (.func (.func 221) #[] #[])/\w'=w:=by
 go_enter Tryz.func100,Tryz.ntmps100;go_wp2_with fail
 refine(Al6 w).mono ?_;exact z12a
theorem A6e(w:World):Calls Tryz.prog 100 #[.int .i64 32] w fun e w'=>e=.returned (.func (.func 222) #[] #[])/\w'=w:=by
 go_enter Tryz.func100,Tryz.ntmps100;go_wp2_with fail
 refine(Al7 w).mono ?_;exact z12a
theorem A6f(w:World):Calls Tryz.prog 100 #[.int .i64 33] w fun e w'=>e=.returned (.func (.func 222) #[] #[])/\w'=w:=by
 go_enter Tryz.func100,Tryz.ntmps100;go_wp2_with fail
 refine(Al8 w).mono ?_;exact z12a
theorem A6g(w:World):Calls Tryz.prog 100 #[.int .i64 34] w fun e w'=>e=.returned (.func (.func 222) #[] #[])/\w'=w:=by
 go_enter Tryz.func100,Tryz.ntmps100;go_wp2_with fail
 refine(Al9 w).mono ?_;exact z12a
theorem A6h(w:World):Calls Tryz.prog 100 #[.int .i64 35] w fun e w'=>e=.returned (.func (.func 222) #[] #[])/\w'=w:=by
 go_enter Tryz.func100,Tryz.ntmps100;go_wp2_with fail
 refine(Ala w).mono ?_;exact z12a
theorem Z3(w:World):Calls Tryz.prog 100 #[.int .i64 36] w fun e w'=>e=.returned (.func (.func 161) #[] #[])/\w'=w:=by
 exact z0wa
theorem Z4(w:World):Calls Tryz.prog 100 #[.int .i64 37] w fun e w'=>e=.returned (.func (.func 162) #[] #[])/\w'=w:=by
 exact z0wa
theorem Vj(w:World):Calls Tryz.prog 100 #[.int .i64 38] w fun e w'=>e=.returned (.func (.func 163) #[] #[])/\w'=w:=by
 exact z0wa
theorem R7(w:World):Calls Tryz.prog 100 #[.int .i64 39] w fun e w'=>e=.returned (.func (.func 164) #[] #[])/\w'=w:=by
 exact z0wa
theorem Q0(w:World):Calls Tryz.prog 100 #[.int .i64 40] w fun e w'=>e=.returned (.func (.func 165) #[] #[])/\w'=w:=by
 exact z0wa
theorem Vk(w:World):Calls Tryz.prog 100 #[.int .i64 41] w fun e w'=>e=.returned (.func (.func 158) #[] #[])/\w'=w:=by
 exact z0wa
theorem Vl(w:World):Calls Tryz.prog 100 #[.int .i64 42] w fun e w'=>e=.returned (.func (.func 159) #[] #[])/\w'=w:=by
 exact z0wa
theorem A6j(w:World):Calls Tryz.prog 100 #[.int .i64 43] w fun e w'=>e=.returned (.func (.func 160) #[] #[])/\w'=w:=by
 exact z0wa
theorem A6k(w:World):Calls Tryz.prog 100 #[.int .i64 44] w fun e w'=>e=.returned (.func (.func 160) #[] #[])/\w'=w:=by
 exact z0wa
end
end Go.Proofs.YtjdlndhfaaolaaaGreatDoor
