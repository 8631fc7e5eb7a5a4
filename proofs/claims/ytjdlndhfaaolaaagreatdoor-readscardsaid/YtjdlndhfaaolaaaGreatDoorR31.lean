import Derived.Test.YtjdlndhfaaolaaaGreatDoorR10
import Derived.Test.YtjdlndhfaaolaaaGreatDoorR30
set_option maxHeartbeats 20000000
namespace Go.Proofs.YtjdlndhfaaolaaaGreatDoor
section
open Go.Deep (BT)
theorem A8a(l:List UInt8)(h:l.length<=2000):Ul l:=by
 intro ts ht;rcases Wh l h with⟨n,h1,_⟩|⟨ts',h1,h2,h3⟩
 ·rw[ht]at h1;cases h1
 ·rw[ht]at h1;cases h1;obtain⟨r,hr,_,hs⟩:=b5 h3 h2;exact⟨r,hr,fun hb=>(hs hb).2.2⟩
theorem A05(l:List UInt8):(K7 l).1=(Js l).1/\∀c,Js l=((0,0),some c)->K7 l=((0,0),Bf c):=by
 unfold Js K7;by_cases h0:2000<l.length
 ·rw[if_pos h0,if_pos h0];exact⟨rfl,fun c h=>by simp at h⟩
 rw[if_neg h0,if_neg h0];cases lex (l.length+1) l 1 false with
 | inl n=>exact⟨rfl,fun c h=>by simp at h⟩
 | inr ts=>
  dsimp only;cases A7 100000 10 0 .nil ⟨ts,0⟩ with
  | none=>exact⟨rfl,fun c h=>by simp at h⟩
  | some r=>
   dsimp only;by_cases h1:r.2.bad≠0
   ·rw[if_pos h1,if_pos h1];exact⟨rfl,fun c h=>by simp at h⟩
   rw[if_neg h1,if_neg h1];by_cases h2:nest ts 0≠0
   ·rw[if_pos h2,if_pos h2];exact⟨rfl,fun c h=>by simp at h⟩
   rw[if_neg h2,if_neg h2];by_cases h3:(Dj (Bf r.1) r.1 [] [] (0,0)).1≠0
   ·rw[if_pos h3,if_pos h3];exact⟨rfl,fun c h=>by simp at h⟩
   rw[if_neg h3,if_neg h3];refine⟨rfl,fun c h=>?_⟩;simp only[Prod.mk.injEq,Option.some.injEq,true_and]at h;rw[h]
theorem A55(fns:List (Nm×Nat))(c:BT A2):∀(gl:List Nm) (fs:List Fn) (e:Em),(Np fns c gl fs e).fns.map Fn.name=fs.map Fn.name++(Bf c).map Prod.fst:=by
 induction c with
 | nil=>intro gl fs e;simp[Np,Bf]
 | node x y l c r _ ih=>
  intro gl fs e;rw[Np,Bf];by_cases h:l.kd=20
  ·rw[if_pos h,if_pos h,ih];simp[N3]
  ·rw[if_neg h,if_neg h];split
   ·exact ih _ _ _
   ·exact ih _ _ _
theorem A54(c:BT A2):(Qp c).fns.map Fn.name=(Bf c).map Prod.fst:=by
 unfold Qp;rw[A55];rfl
theorem A5s(c:BT A2):(Bf c).length<=bsize c:=by
 induction c with
 | nil=>simp[Bf]
 | node x y l c r _ ih=>
  rw[Bf,bsize];split
  ·simp;omega
  ·omega
end
end Go.Proofs.YtjdlndhfaaolaaaGreatDoor
