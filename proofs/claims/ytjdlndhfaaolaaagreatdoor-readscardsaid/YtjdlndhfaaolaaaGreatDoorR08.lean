import Derived.Test.YtjdlndhfaaolaaaGreatDoorR06
set_option maxHeartbeats 20000000
namespace Go.Proofs.YtjdlndhfaaolaaaGreatDoor
section
open Go.RowKit
theorem A6d(c:UInt8):(decide (32<=(c.toNat:Int))&&decide ((c.toNat:Int)<=126))=Ez c:=by
 unfold Ez;congr 1 <;> (apply decide_eq_decide.2;omega)
theorem Qo(c:UInt8)(w:World):Calls Tryz.prog 126 #[.int .u8 c.toNat] w fun e w'=>e=.returned (.bool (Cd c))/\w'=w:=by
 rw[←Z9];have hn:0<=(c.toNat:Int):=by omega
 generalize (c.toNat:Int)=n at *;by_cases h1:48<=n <;> by_cases h2:n<=57;all_goals
  go_enter Tryz.func126,Tryz.ntmps126;go_wp2;go_ret;exact⟨by simp[h1,h2],rfl⟩
theorem A3u(c:UInt8)(w:World):Calls Tryz.prog 180 #[.int .u8 c.toNat] w fun e w'=>e=.returned (.bool (Ez c))/\w'=w:=by
 rw[←A6d];have hn:0<=(c.toNat:Int):=by omega
 generalize (c.toNat:Int)=n at *;by_cases h1:32<=n <;> by_cases h2:n<=126;all_goals
  go_enter Tryz.func180,Tryz.ntmps180;go_wp2;go_ret;exact⟨by simp[h1,h2],rfl⟩
theorem Rn(c:UInt8)(w:World):Calls Tryz.prog 124 #[.int .u8 c.toNat] w fun e w'=>e=.returned (.bool (isLet c))/\w'=w:=by
 rw[←Za];have hn:0<=(c.toNat:Int):=by omega
 generalize (c.toNat:Int)=n at *;by_cases h1:97<=n <;> by_cases h2:n<=122 <;> by_cases h3:65<=n <;> by_cases h4:n<=90;all_goals
  try (exfalso;omega)
 all_goals
  go_enter Tryz.func124,Tryz.ntmps124;go_wp2;go_ret;exact⟨by simp[h1,h2,h3,h4],rfl⟩
theorem Xa(c:UInt8)(w:World):Calls Tryz.prog 177 #[.int .u8 c.toNat] w fun e w'=>e=.returned (.bool (Ct c))/\w'=w:=by
 have hN:Ct c=(isLet c||Cd c||(c==95)):=rfl;have h95:(c==95)=((c.toNat:Int)==95):=by
  by_cases h:c=95
  ·subst h;rfl
  ·rw[beq_eq_false_iff_ne.2 h];symm
   rw[beq_eq_false_iff_ne];intro e;exact h (UInt8.toNat_inj.1 (by show c.toNat=95;omega))
 have HN:=A0 (hN.trans (by rw[h95]));clear hN h95;cases h1:isLet c <;> cases h2:Cd c;all_goals
  have HN2:=HN.o;rw[h1,h2]at HN2;have HN:=A0 HN2;clear HN2;go_enter Tryz.func177,Tryz.ntmps177;go_wp2_with fail
  refine(Rn _ _).mono ?_;rintro e w' ⟨rfl,rfl⟩;rw[h1];go_wp2_with (go_at_call 126;refine(Qo _ _).mono ?_;rintro e w' ⟨rfl,rfl⟩;rw[h2])
  go_ret;exact⟨by rw[HN.o];simp,rfl⟩
end
end Go.Proofs.YtjdlndhfaaolaaaGreatDoor
