import Derived.Deep.AppendLies
import Derived.Test.YtjdlndhfaaolaaaGreatDoorProg
import Derived.WalkLawsBesides
import Derived.WalkSpells
import Derived.Test.YtjdlndhfaaolaaaGreatDoorY01
set_option maxHeartbeats 20000000
set_option linter.defProp false
namespace Go.Proofs.YtjdlndhfaaolaaaGreatDoor
section
def Ah:=@Go.RowKit.Below.alloc
def Al:=@Go.RowKit.Below.refl
def B0:=@Go.RowKit.Below.setCell
def B8:=@Go.RowKit.Below.drew
def B9:=@Go.bodyPost_ret
def Bh:=@Go.RowKit.Below.heap_setCell
def Bp:=@Go.heap_alloc_new
def Ck:=@Go.RowKit.Below.heap_alloc
def D9:=@Go.World.cell?_of_block
def Ib:=@Go.RowKit.Below.trans
def K2:=@Go.cell_of_row
def K3:=@Go.World.size_alloc
def M9:=@Go.World.ownsRow_nil
def N7:=@Go.RowKit.Below.mono
def O3:=@Go.block_lt_of_cell
def O7:=@Go.IntKind.wrap_i64
def Oo:=@Go.World.grownBy_alloc
def P7:=@Go.run_underlying
def Qr:=@Go.info_parts
def V6:=@Go.size_madeCells
def Wz:=@Go.World.news_of_block
def X8:=@Go.Lib.wpList_append_own_string
def Zg:=@Go.Lib.run_clear_slice
def Zh:=@Go.Value.slice.injEq
def A36:=@Go.DataW.trod_int
def A38:=@Go.step_append_lies
def A3g:=@Go.Value.pointer.injEq
end
end Go.Proofs.YtjdlndhfaaolaaaGreatDoor
namespace Go
section
@[go_sem]abbrev Value.i(n:Int):Value:=.int .i64 n
@[go_sem]abbrev Value.n(k:Nat):Value:=.int .i64 (k:Int)
@[go_sem]abbrev Value.p(b:Nat):Value:=.pointer (some ⟨b,0,none⟩)
@[go_sem]abbrev Value.s(l:List UInt8):Value:=.string ⟨l.toArray⟩
abbrev Bw(w v:World):Prop:=RowKit.Below w.heap.size w v
end
end Go
namespace Go.Proofs.YtjdlndhfaaolaaaGreatDoor
section
open Go.RowKit
def A5h(l:List UInt8)(hd:∀c∈l,E5 c=true):∀a:Int,0<=a->a<=Kw a l:=by
 induction l with
 | nil=>intro a _;exact Int.le_refl _
 | cons c r ih=>
  intro a ha;have hc:=hd c (by simp);simp only[E5,F3,Jg]at hc;have:=ih (fun x hx=>hd x (by simp[hx])) (10*a+((c.toNat:Int)-48)) z4ma;rw[Kw];omega
def Akw(c:UInt8):(decide (48<=(c.toNat:Int))&&decide ((c.toNat:Int)<=57))=E5 c:=by
 unfold E5;congr 1 <;> (apply A31.2;omega)
def Akx(c:UInt8):((decide (97<=(c.toNat:Int))&&decide ((c.toNat:Int)<=122))||(decide (65<=(c.toNat:Int))&&decide ((c.toNat:Int)<=90)))=isLet c:=by
 unfold isLet;congr 1 <;> congr 1 <;> (apply A31.2;omega)
def Avc(l:List UInt8)(i:Nat)(hi:i<l.length)(hd:E5 l[i]=true) :
  Fq (l.drop i)=match numOf ((l.drop i).takeWhile E5) with
   | some n=>some (⟨2,0,[],n⟩,((l.drop i).takeWhile E5).length)
   | none=>none:=by
 rw[Gk hi,Fq,A7 hd];cases numOf ((l[i]::l.drop (i+1)).takeWhile E5) <;> rfl
def Avd(l:List UInt8)(i:Nat)(hi:i<l.length)(hd:E5 l[i]=false)(ha:isLet l[i]=true) :
  Fq (l.drop i)=if O0 ((l.drop i).takeWhile Es) !=0 then some (⟨O0 ((l.drop i).takeWhile Es),0,[],0⟩,((l.drop i).takeWhile Es).length)
   else if((l.drop i).takeWhile Es).length<=16 then some (⟨1,0,(l.drop i).takeWhile Es,0⟩,((l.drop i).takeWhile Es).length) else none:=by
 rw[Gk hi,Fq,A1 (by simp[hd]),A7 ha]
