import Derived.Test.YtjdlndhfaaolaaaGreatDoorV18
import Derived.Test.YtjdlndhfaaolaaaGreatDoorV27
set_option maxHeartbeats 20000000
namespace Go.Proofs.YtjdlndhfaaolaaaGreatDoor
section
set_option maxRecDepth 100000
open Go.RowKit
theorem A4h(n:Int)(h:n<0):∃d:Nat,d<10/\n.tmod 10=-(d:Int):=by
 obtain⟨u,rfl⟩:∃u:Nat,n=-(u:Int):=⟨n.natAbs,by omega⟩;refine⟨u % 10,Nat.mod_lt _ z4va,?_⟩;rw[Int.neg_tmod];rfl
theorem A4j(n:Int){d:Nat}(hd:d<10)(e:n.tmod 10=-(d:Int)):wrap64 (48+wrap64 (-n.tmod 10)) % 256=((Ll d).toNat:Int):=by
 rw[Wh hd,e];unfold wrap64;omega
theorem Ap4(n:Int)(h0:n<0)(h1:¬n.tdiv 10<0)(hn:-9223372036854775808<=n)(w:World):Calls Tryz.prog 18 #[.int .i64 n] w fun e w'=>e=.returned (.string ⟨(Lib.itoa n).toArray⟩)/\Below w.heap.size w w':=by
 obtain⟨d,hd,ed⟩:=A4h n h0;have e1:(-(n.tmod 10)).toNat=d:=by omega
 rw[itoa_neg h0,if_neg h1,U5,e1];have HC:=A0 (U0 w (Ll d) _ (A4j n hd ed));have SA:=A0 (N9 [45] [Ll d] z50a z50a);clear ed e1;go_enter Tryz.func18,Tryz.ntmps18;go_wp2;rw[HC.o];have sa:=SA.out;go_wp2;go_ret;exact⟨rfl,Below.alloc (Below.refl _ _) (Nat.le_refl _) _⟩
theorem Ap3(n:Int)(h0:n<0)(h1:n.tdiv 10<0)(hn:-9223372036854775808<=n)(hl:(Lib.itoa (n.tdiv 10)).length<=1000)(w:World)(ih:Calls Tryz.prog 18 #[.int .i64 (n.tdiv 10)] w fun e w'=>e=.returned (.string ⟨(Lib.itoa (n.tdiv 10)).toArray⟩)/\Below w.heap.size w w'):Calls Tryz.prog 18 #[.int .i64 n] w fun e w'=>e=.returned (.string ⟨(Lib.itoa n).toArray⟩)/\Below w.heap.size w w':=by
 obtain⟨d,hd,ed⟩:=A4h n h0;have e1:(-(n.tmod 10)).toNat=d:=by omega
 rw[itoa_neg h0,if_pos h1,U5,e1];have HC:=A0 (fun(W:World)=>U0 W (Ll d) _ (A4j n hd ed));generalize Lib.itoa (n.tdiv 10)=l at *;have SA:=A0 (N9 l [Ll d] z4va z50a);have HI:=A0 ih;clear ed e1 ih;go_enter Tryz.func18,Tryz.ntmps18;go_wp2_with fail
 refine HI.o.mono ?_;rintro e w1 ⟨rfl,hb⟩;have HB:=A0 hb;have ls:=hb.size;clear hb;go_wp2;rw[HC.o w1];have sa:=SA.out;go_wp2;go_ret;exact⟨rfl,Below.alloc HB.o ls _⟩
theorem Ap5:∀(u:Nat),0<u->(u:Int)<=9223372036854775808->∀w:World,Calls Tryz.prog 18 #[.int .i64 (-(u:Int))] w fun e w'=>e=.returned (.string ⟨(Lib.itoa (-(u:Int))).toArray⟩)/\Below w.heap.size w w':=by
 intro u;induction u using Nat.strongRecOn with
 | _ u ih=>
  intro h0 hu w;have e1:(-(u:Int)).tdiv 10=-((u / 10:Nat):Int):=by rw[Int.neg_tdiv];rfl
  by_cases h:u / 10=0
  ·exact Ap4 _ z4va (by rw[e1];omega) z4va w
  ·refine Ap3 _ z4va (by rw[e1];omega) z4va ?_ w ?_
   ·rw[e1];have:=A1b (-((u / 10:Nat):Int)) z4va z4va;omega
   ·rw[e1];exact ih (u / 10) z4va z4va z4va w
theorem Ap2(n:Int)(hn:D4 n)(w:World):Calls Tryz.prog 18 #[.int .i64 n] w fun e w'=>e=.returned (.string ⟨(Lib.itoa n).toArray⟩)/\Below w.heap.size w w':=by
 by_cases h:n<0
 ·have:=Ap5 n.natAbs z4va (by have:=hn.1;omega) w;rw[show -((n.natAbs:Nat):Int)=n by omega]at this;exact this
 ·rw[Aet z4va];have HI:=A0 (n8 n hn w);clear hn;go_enter Tryz.func18,Tryz.ntmps18;exact z3fa
def strs(l:List (List UInt8)):List Value:=l.map fun t=>.string ⟨t.toArray⟩
theorem A3n(l:List (List UInt8))(hfew:l.length<=100000)(w:World)(va:Option Addr)(vn vc:Nat)(ua:Option Addr)(un uc:Nat)(h1:w.ownsRow 0 9 1 (.slice va vn vc) l.length (strs l))(h2:w.ownsRow 0 9 1 (.slice ua un uc) l.length (strs l)) :
  Calls Tryz.prog 20 #[.slice va vn vc,.slice ua un uc] w fun e w'=>e=.returned (.bool true)/\Below w.heap.size w w':=by
 have hvn:vn=l.length:=(C9 h1).1;have hun:un=l.length:=(C9 h2).1;subst hvn hun;have H1:=A0 h1;have H2:=A0 h2;clear h1 h2;go_enter Tryz.func20,Tryz.ntmps20;go_wp2;go_loopg [5] l.length (fun k v wr=>∃i:Nat,v=.int .i64 i/\i+k=l.length/\Below w.heap.size w wr)
 case atStart=>exact⟨0,rfl,by omega,Below.refl _ _⟩
 case round=>
  obtain⟨i,rfl,hik,hbel⟩:=hrel;have HB:=A0 hbel;by_cases hlt:i<l.length
  ·obtain⟨g1,e1,_,c1,l1,k1⟩:=Fo H1.o z4va;obtain⟨g2,e2,_,c2,l2,k2⟩:=Fo H2.o z4va;subst e1 e2;have hv:(strs l)[i]?=some (.string ⟨l[i].toArray⟩):=by simp[strs,List.getElem?_eq_getElem hlt]
   have d1:=(World.cell?_of_block (hbel.block g1 l1)).trans (k1 i _ hv);have d2:=(World.cell?_of_block (hbel.block g2 l2)).trans (k2 i _ hv);have ls:=hbel.size;have m1:g1<wr.heap.size:=by omega
   have m2:g2<wr.heap.size:=by omega
   generalize l[i].toArray=nm at *;clear hbel k1 k2 hv;go_wp2;go_quiet (fail)
   go_wp2;go_roundg (gk-1)
   case measure=>omega
   case rel=>exact⟨i+1,rfl,by omega,⟨HB.o.os,HB.o.tape,HB.o.output,HB.o.size,HB.o.block⟩⟩
  ·clear hbel;go_wp2;exact bodyPost_ret (v:=.bool true) (by simp[results,Tryz.results20,go_sem]) rfl ⟨rfl,HB.o⟩
end
end Go.Proofs.YtjdlndhfaaolaaaGreatDoor
