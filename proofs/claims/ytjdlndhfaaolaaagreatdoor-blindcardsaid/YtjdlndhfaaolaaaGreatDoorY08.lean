import Derived.Test.YtjdlndhfaaolaaaGreatDoorY05
set_option maxHeartbeats 20000000
set_option linter.defProp false
namespace Go.Proofs.YtjdlndhfaaolaaaGreatDoor
section
set_option maxRecDepth 100000
open Go.RowKit
def z07a {P:Prop} (h:P:=by
  go_wp2;go_ret;exact⟨rfl,rfl⟩):P:=h
def Arf(w:World):Calls Tryz.prog 166 #[.i 12] w fun e w'=>e=.returned (.func (.func 212) #[] #[])/\w'=w:=by
 go_in;exact z07a
def Arh(w:World):Calls Tryz.prog 166 #[.i 13] w fun e w'=>e=.returned (.func (.func 212) #[] #[])/\w'=w:=by
 go_in;exact z07a
def Ari(w:World):Calls Tryz.prog 166 #[.i 14] w fun e w'=>e=.returned (.func (.func 213) #[] #[])/\w'=w:=by
 go_in;exact z07a
def Arj(w:World):Calls Tryz.prog 166 #[.i 15] w fun e w'=>e=.returned (.func (.func 214) #[] #[])/\w'=w:=by
 go_in;exact z07a
def Ark(w:World):Calls Tryz.prog 166 #[.i 16] w fun e w'=>e=.returned (.func (.func 214) #[] #[])/\w'=w:=by
 go_in;exact z07a
def Arl(w:World):Calls Tryz.prog 166 #[.i 17] w fun e w'=>e=.returned (.func (.func 215) #[] #[])/\w'=w:=by
 go_in;exact z07a
def Arm(w:World):Calls Tryz.prog 166 #[.i 18] w fun e w'=>e=.returned (.func (.func 215) #[] #[])/\w'=w:=by
 go_in;exact z07a
def Arn(w:World):Calls Tryz.prog 166 #[.i 19] w fun e w'=>e=.returned (.func (.func 216) #[] #[])/\w'=w:=by
 go_in;exact z07a
def Aro(w:World):Calls Tryz.prog 166 #[.i 20] w fun e w'=>e=.returned (.func (.func 216) #[] #[])/\w'=w:=by
 go_in;exact z07a
def Arp(w:World):Calls Tryz.prog 166 #[.i 21] w fun e w'=>e=.returned (.func (.func 217) #[] #[])/\w'=w:=by
 go_in;exact z07a
def Arq(w:World):Calls Tryz.prog 166 #[.i 22] w fun e w'=>e=.returned (.func (.func 217) #[] #[])/\w'=w:=by
 go_in;exact z07a
def Arr(w:World):Calls Tryz.prog 166 #[.i 23] w fun e w'=>e=.returned (.func (.func 218) #[] #[])/\w'=w:=by
 go_in;exact z07a
def Ars(w:World):Calls Tryz.prog 166 #[.i 24] w fun e w'=>e=.returned (.func (.func 218) #[] #[])/\w'=w:=by
 go_in;exact z07a
def Art(w:World):Calls Tryz.prog 166 #[.i 25] w fun e w'=>e=.returned (.func (.func 219) #[] #[])/\w'=w:=by
 go_in;exact z07a
def Aru(w:World):Calls Tryz.prog 166 #[.i 26] w fun e w'=>e=.returned (.func (.func 220) #[] #[])/\w'=w:=by
 go_in;exact z07a
def Arv(w:World):Calls Tryz.prog 166 #[.i 27] w fun e w'=>e=.returned (.func (.func 220) #[] #[])/\w'=w:=by
 go_in;exact z07a
def Arw(w:World):Calls Tryz.prog 166 #[.i 28] w fun e w'=>e=.returned (.func (.func 221) #[] #[])/\w'=w:=by
 go_in;exact z07a
def Arx(w:World):Calls Tryz.prog 166 #[.i 29] w fun e w'=>e=.returned (.func (.func 221) #[] #[])/\w'=w:=by
 go_in;exact z07a
def Ary(w:World):Calls Tryz.prog 166 #[.i 30] w fun e w'=>e=.returned (.func (.func 221) #[] #[])/\w'=w:=by
 go_in;exact z07a
def Arz(w:World):Calls Tryz.prog 166 #[.i 31] w fun e w'=>e=.returned (.func (.func 221) #[] #[])/\w'=w:=by
 go_in;exact z07a
def As0(w:World):Calls Tryz.prog 166 #[.i 32] w fun e w'=>e=.returned (.func (.func 222) #[] #[])/\w'=w:=by
 go_in;exact z07a
def As1(w:World):Calls Tryz.prog 166 #[.i 33] w fun e w'=>e=.returned (.func (.func 222) #[] #[])/\w'=w:=by
 go_in;exact z07a
def As2(w:World):Calls Tryz.prog 166 #[.i 34] w fun e w'=>e=.returned (.func (.func 222) #[] #[])/\w'=w:=by
 go_in;exact z07a
def As3(w:World):Calls Tryz.prog 166 #[.i 35] w fun e w'=>e=.returned (.func (.func 222) #[] #[])/\w'=w:=by
 go_in;exact z07a
def Abv(w:World):Calls Tryz.prog 100 #[.i 0] w fun e w'=>e=.returned (.func (.func 148) #[] #[])/\w'=w:=by
 go_in;exact z07a
def Abw(w:World):Calls Tryz.prog 100 #[.i 1] w fun e w'=>e=.returned (.func (.func 149) #[] #[])/\w'=w:=by
 go_in;exact z07a
def Ac4(w:World):Calls Tryz.prog 100 #[.i 2] w fun e w'=>e=.returned (.func (.func 150) #[] #[])/\w'=w:=by
 go_in;exact z07a
def Ac9(w:World):Calls Tryz.prog 100 #[.i 3] w fun e w'=>e=.returned (.func (.func 151) #[] #[])/\w'=w:=by
 go_in;exact z07a
def Acf(w:World):Calls Tryz.prog 100 #[.i 4] w fun e w'=>e=.returned (.func (.func 152) #[] #[])/\w'=w:=by
 go_in;exact z07a
def Aci(w:World):Calls Tryz.prog 100 #[.i 5] w fun e w'=>e=.returned (.func (.func 153) #[] #[])/\w'=w:=by
 go_in;exact z07a
def Acj(w:World):Calls Tryz.prog 100 #[.i 6] w fun e w'=>e=.returned (.func (.func 154) #[] #[])/\w'=w:=by
 go_in;exact z07a
def Vh(w:World):Calls Tryz.prog 100 #[.i 7] w fun e w'=>e=.returned (.func (.func 155) #[] #[])/\w'=w:=by
 go_in;exact z07a
def j9(w:World):Calls Tryz.prog 100 #[.i 8] w fun e w'=>e=.returned (.func (.func 155) #[] #[])/\w'=w:=by
 go_in;exact z07a
def k7(w:World):Calls Tryz.prog 100 #[.i 9] w fun e w'=>e=.returned (.func (.func 156) #[] #[])/\w'=w:=by
 go_in;exact z07a
def b5(w:World):Calls Tryz.prog 100 #[.i 10] w fun e w'=>e=.returned (.func (.func 156) #[] #[])/\w'=w:=by
 go_in;exact z07a
def Abx(w:World):Calls Tryz.prog 100 #[.i 11] w fun e w'=>e=.returned (.func (.func 157) #[] #[])/\w'=w:=by
 go_in;exact z07a
def z13a {P:Prop} (h:P:=by
  rintro e w1 ⟨rfl,rfl⟩;exact z07a):P:=h
def Xl(w:World):Calls Tryz.prog 100 #[.i 12] w fun e w'=>e=.returned (.func (.func 212) #[] #[])/\w'=w:=by
 go_in;go_wp2_with fail
 refine(Arf w).mono ?_;exact z13a
def Aby(w:World):Calls Tryz.prog 100 #[.i 13] w fun e w'=>e=.returned (.func (.func 212) #[] #[])/\w'=w:=by
 go_in;go_wp2_with fail
 refine(Arh w).mono ?_;exact z13a
def A44(w:World):Calls Tryz.prog 100 #[.i 14] w fun e w'=>e=.returned (.func (.func 213) #[] #[])/\w'=w:=by
 go_in;go_wp2_with fail
 refine(Ari w).mono ?_;exact z13a
def Abz(w:World):Calls Tryz.prog 100 #[.i 15] w fun e w'=>e=.returned (.func (.func 214) #[] #[])/\w'=w:=by
 go_in;go_wp2_with fail
 refine(Arj w).mono ?_;exact z13a
def Ac0(w:World):Calls Tryz.prog 100 #[.i 16] w fun e w'=>e=.returned (.func (.func 214) #[] #[])/\w'=w:=by
 go_in;go_wp2_with fail
 refine(Ark w).mono ?_;exact z13a
def Ac1(w:World):Calls Tryz.prog 100 #[.i 17] w fun e w'=>e=.returned (.func (.func 215) #[] #[])/\w'=w:=by
 go_in;go_wp2_with fail
 refine(Arl w).mono ?_;exact z13a
def Ac2(w:World):Calls Tryz.prog 100 #[.i 18] w fun e w'=>e=.returned (.func (.func 215) #[] #[])/\w'=w:=by
 go_in;go_wp2_with fail
 refine(Arm w).mono ?_;exact z13a
def Ac3(w:World):Calls Tryz.prog 100 #[.i 19] w fun e w'=>e=.returned (.func (.func 216) #[] #[])/\w'=w:=by
 go_in;go_wp2_with fail
 refine(Arn w).mono ?_;exact z13a
def A45(w:World):Calls Tryz.prog 100 #[.i 20] w fun e w'=>e=.returned (.func (.func 216) #[] #[])/\w'=w:=by
 go_in;go_wp2_with fail
 refine(Aro w).mono ?_;exact z13a
def Ac5(w:World):Calls Tryz.prog 100 #[.i 21] w fun e w'=>e=.returned (.func (.func 217) #[] #[])/\w'=w:=by
 go_in;go_wp2_with fail
 refine(Arp w).mono ?_;exact z13a
def A46(w:World):Calls Tryz.prog 100 #[.i 22] w fun e w'=>e=.returned (.func (.func 217) #[] #[])/\w'=w:=by
 go_in;go_wp2_with fail
 refine(Arq w).mono ?_;exact z13a
def A47(w:World):Calls Tryz.prog 100 #[.i 23] w fun e w'=>e=.returned (.func (.func 218) #[] #[])/\w'=w:=by
 go_in;go_wp2_with fail
 refine(Arr w).mono ?_;exact z13a
def Ac6(w:World):Calls Tryz.prog 100 #[.i 24] w fun e w'=>e=.returned (.func (.func 218) #[] #[])/\w'=w:=by
 go_in;go_wp2_with fail
 refine(Ars w).mono ?_;exact z13a
def Ac7(w:World):Calls Tryz.prog 100 #[.i 25] w fun e w'=>e=.returned (.func (.func 219) #[] #[])/\w'=w:=by
 go_in;go_wp2_with fail
 refine(Art w).mono ?_;exact z13a
def Ac8(w:World):Calls Tryz.prog 100 #[.i 26] w fun e w'=>e=.returned (.func (.func 220) #[] #[])/\w'=w:=by
 go_in;go_wp2_with fail
 refine(Aru w).mono ?_;exact z13a
def A48(w:World):Calls Tryz.prog 100 #[.i 27] w fun e w'=>e=.returned (.func (.func 220) #[] #[])/\w'=w:=by
 go_in;go_wp2_with fail
 refine(Arv w).mono ?_;exact z13a
def b6(w:World):Calls Tryz.prog 100 #[.i 28] w fun e w'=>e=.returned (.func (.func 221) #[] #[])/\w'=w:=by
 go_in;go_wp2_with fail
 refine(Arw w).mono ?_;exact z13a
def b7(w:World):Calls Tryz.prog 100 #[.i 29] w fun e w'=>e=.returned (.func (.func 221) #[] #[])/\w'=w:=by
 go_in;go_wp2_with fail
 refine(Arx w).mono ?_;exact z13a
def b8(w:World):Calls Tryz.prog 100 #[.i 30] w fun e w'=>e=.returned (.func (.func 221) #[] #[])/\w'=w:=by
 go_in;go_wp2_with fail
 refine(Ary w).mono ?_;exact z13a
def b9(w:World):Calls Tryz.prog 100 #[.i 31] w fun e w'=>e=.returned (.func (.func 221) #[] #[])/\w'=w:=by
 go_in;go_wp2_with fail
 refine(Arz w).mono ?_;exact z13a
def Aca(w:World):Calls Tryz.prog 100 #[.i 32] w fun e w'=>e=.returned (.func (.func 222) #[] #[])/\w'=w:=by
 go_in;go_wp2_with fail
 refine(As0 w).mono ?_;exact z13a
def Acb(w:World):Calls Tryz.prog 100 #[.i 33] w fun e w'=>e=.returned (.func (.func 222) #[] #[])/\w'=w:=by
 go_in;go_wp2_with fail
 refine(As1 w).mono ?_;exact z13a
def Acd(w:World):Calls Tryz.prog 100 #[.i 34] w fun e w'=>e=.returned (.func (.func 222) #[] #[])/\w'=w:=by
 go_in;go_wp2_with fail
 refine(As2 w).mono ?_;exact z13a
def Ace(w:World):Calls Tryz.prog 100 #[.i 35] w fun e w'=>e=.returned (.func (.func 222) #[] #[])/\w'=w:=by
 go_in;go_wp2_with fail
 refine(As3 w).mono ?_;exact z13a
def A49(w:World):Calls Tryz.prog 100 #[.i 36] w fun e w'=>e=.returned (.func (.func 161) #[] #[])/\w'=w:=by
 go_in;exact z07a
def A4a(w:World):Calls Tryz.prog 100 #[.i 37] w fun e w'=>e=.returned (.func (.func 162) #[] #[])/\w'=w:=by
 go_in;exact z07a
def j0(w:World):Calls Tryz.prog 100 #[.i 38] w fun e w'=>e=.returned (.func (.func 163) #[] #[])/\w'=w:=by
 go_in;exact z07a
def Tt(w:World):Calls Tryz.prog 100 #[.i 39] w fun e w'=>e=.returned (.func (.func 164) #[] #[])/\w'=w:=by
 go_in;exact z07a
def Tu(w:World):Calls Tryz.prog 100 #[.i 40] w fun e w'=>e=.returned (.func (.func 165) #[] #[])/\w'=w:=by
 go_in;exact z07a
def j7(w:World):Calls Tryz.prog 100 #[.i 41] w fun e w'=>e=.returned (.func (.func 158) #[] #[])/\w'=w:=by
 go_in;exact z07a
def j8(w:World):Calls Tryz.prog 100 #[.i 42] w fun e w'=>e=.returned (.func (.func 159) #[] #[])/\w'=w:=by
 go_in;exact z07a
def Acg(w:World):Calls Tryz.prog 100 #[.i 43] w fun e w'=>e=.returned (.func (.func 160) #[] #[])/\w'=w:=by
 go_in;exact z07a
def Ach(w:World):Calls Tryz.prog 100 #[.i 44] w fun e w'=>e=.returned (.func (.func 160) #[] #[])/\w'=w:=by
 go_in;exact z07a
