import Derived.Deep.AppendLies
import Derived.Test.YtjdlndhfaaolaaaGreatDoorRows
import Derived.WalkLawsBesides
import Derived.WalkSpells
import Derived.Test.YtjdlndhfaaolaaaGreatDoorX01
set_option maxHeartbeats 20000000
namespace Go.RowKit
theorem Hid.o{p:Prop}(h:Hid p):p:=h.out
end Go.RowKit
namespace Go.Proofs.YtjdlndhfaaolaaaGreatDoor
section
open Go.RowKit
theorem A0{p:Prop}(h:p):Hid p:=h
theorem S9{a b:Bool}(h:a=b):Ending.returned (.bool a)=.returned (.bool b):=by rw[h]
theorem Yw{k:IntKind}{a b:Int}(h:a=b):Ending.returned (.int k a)=.returned (.int k b):=by rw[h]
theorem Md{a b c:World}{r:Option Nat}(h:a.grownBy b none)(k:b.grownBy c r):a.grownBy c r:=
 ⟨k.os.trans h.os,k.tape.trans h.tape,k.output.trans h.output,Nat.le_trans h.size k.size,fun i hi hne=>(k.block i (Nat.lt_of_lt_of_le hi h.size) hne).trans (h.block i hi (by simp))⟩
theorem z3sa {P:Prop} (h:P:=by
  intro g cap w' k1 k2 k3 k4;exact h g cap w' k1 (Md (World.grownBy_alloc W _ none) k2) k3 k4):P:=h
theorem z4za {P:Prop} (h:P:=by simp;omega):P:=h
theorem Ju{P:Program}{ops:Array Oper}{rest:List Oper}{o:Oper}{a:Act}{Q:Exit->Act->World->Prop}(W:World)(cs:Array Value)(e:TypeId)(hgd:o.guard=none)(s x:Operand)(t:TypeId)
  (ho:o.op=.call { callee:=.builtin .append,args:=#[s,x],argTypes:=#[t,t] })
  (base size bytes:Nat) (z:Value) (ht:P.underlying t=some (.slice e)) (hinfo:(P.info? e).map (fun i=>(i.zero,i.size,i.bytes))=some (some z,size,bytes))
  (hzs:z.cells.size=size) (hsz:0<size)
  (v:Value) (n:Nat) (xs:List Value) (hs:a.eval s=v) (hx:a.eval x=.slice (some ⟨W.heap.size,0,none⟩) 1 1)
  (hown:W.ownsRow base e size v n xs) (hl:cs.size=size) (h1:∀u∈cs.toList,u.oneCell'=true)
  (hn:n<=1000000) (hby:bytes<=1000) (hbase:base<=W.heap.size)
  (h:∀g cap w',w'.ownsRow base e size (.slice (some ⟨g,0,none⟩) (n+1) cap) (n+1) (xs++cs.toList)->W.grownBy w' v.ownBlock->(v.ownBlock=some g\/g=W.heap.size+1)->g<w'.heap.size->
   wpList P ops Q rest (a.put o.dst (.slice (some ⟨g,0,none⟩) (n+1) cap)) w'):wpList P ops Q (o::rest) a (W.alloc (.cells cs e)):=by
 obtain⟨i,hi,Gt,Bq,Bw⟩:=info_parts hinfo;have hb:=Nat.mul_le_mul (show n+1<=1000001 by omega) hby;refine wpList_append_lies (P:=P) (W.alloc (.cells cs e)) hgd s x t ho base e i z size bytes ht hi Gt Bq Bw hzs hsz v n xs hs (hown.alloc _) ⟨W.heap.size,0,none⟩ 1 1 cs.toList hx (by simp[hl])
  (World.news_of_block (heap_alloc_new W _)) h1 z4sa (by simp only[maxLen];omega) z4sa z4za (W.heap.size+1) (by simp) ?_
 exact z3sa
def Hx(b:UInt8):Value:=.int .u8 b.toNat
theorem Kz{c d:UInt8}{n:Int}(hd:(d.toNat:Int)=n)(h:c≠d):((c.toNat:Int)==n)=false:=by
 rw[beq_eq_false_iff_ne];intro e;apply h;apply UInt8.toNat_inj.1;omega
theorem Mu{c d:UInt8}{n:Int}(hd:(d.toNat:Int)=n)(h:c=d):((c.toNat:Int)==n)=true:=by
 subst h;rw[beq_iff_eq];exact hd
theorem l9{c d:UInt8}{n:Int}(hd:(d.toNat:Int)=n)(h:c≠d):((c.toNat:Int) !=n)=true:=by
 rw[bne,Kz hd h];rfl
theorem n8{c d:UInt8}{n:Int}(hd:(d.toNat:Int)=n)(h:c=d):((c.toNat:Int) !=n)=false:=by
 rw[bne,Mu hd h];rfl
theorem P5(l:List UInt8)(k:Nat)(h:k<(⟨l.toArray⟩:ByteArray).size):((⟨l.toArray⟩:ByteArray)[k]'h)=l[k]'(by simpa [ByteArray.size]using h):=by
 rfl
theorem Qa(l:List UInt8)(i j:Nat):(⟨l.toArray⟩:ByteArray).extract i j=⟨((l.drop i).take (j-i)).toArray⟩:=by
 apply ByteArray.ext;simp[ByteArray.data_extract]
theorem A6{w:World}{g:Nat}{o:Obj}(h:w.heap[g]?=some o):g<w.heap.size:=by
 rcases Nat.lt_or_ge g w.heap.size with h'|h'
 ·exact h'
 ·rw[Array.getElem?_eq_none h']at h;cases h
theorem B2{w w':World}{base:Nat}{e:TypeId}{size:Nat}{v:Value}{n:Nat}{xs:List Value}(h:w.ownsRow base e size v n xs)(hb:∀g,v.ownBlock=some g->g<w.heap.size->w'.heap[g]?=w.heap[g]?):w'.ownsRow base e size v n xs:=by
 obtain⟨h1,h2⟩:=h;refine⟨h1,?_⟩;rcases h2 with h2|⟨g,cap,cur,rfl,hg,hh,r⟩
 ·exact .inl h2
 ·exact .inr ⟨g,cap,cur,rfl,hg,(hb g rfl (A6 hh)).trans hh,r⟩
theorem Lh{w w':World}{base:Nat}{e:TypeId}{size:Nat}{v:Value}{n:Nat}{xs:List Value}(h:w.ownsRow base e size v n xs)(hb:Below w.heap.size w w'):w'.ownsRow base e size v n xs:=
 B2 h fun g _ hg=>hb.block g hg
theorem Bg{w:World}{base:Nat}{e:TypeId}{size:Nat}{v:Value}{n:Nat}{xs:List Value}(h:w.ownsRow base e size v n xs):∀g,v.ownBlock=some g->g<w.heap.size:=by
 intro k hk;rcases h.2 with⟨rfl,_⟩|⟨g,cap,cur,rfl,_,hh,_⟩
 ·simp[Value.ownBlock]at hk
 ·simp[Value.ownBlock]at hk;rw[←hk];exact A6 hh
theorem U3{w:World}{base:Nat}{e:TypeId}{size:Nat}{v:Value}{n:Nat}{xs:List Value}(h:w.ownsRow base e size v n xs)(a:Addr)(u:Value)(hne:v.ownBlock≠some a.block):(w.setCell a u).ownsRow base e size v n xs:=
 B2 h fun g hg _=>Below.heap_setCell w a u g (fun e=>hne (by rw[hg,e]))
theorem Cf{w:World}{base:Nat}{e:TypeId}{size n:Nat}{va:Option Addr}{vn vc:Nat}{xs:List Value}(h:w.ownsRow base e size (.slice va vn vc) n xs) :
  vn=n/\(va=none->vn=0/\vc=0)/\xs.length=n*size/\∀b,va=some b->∀j u,xs[j]?=some u->w.cell? (b.add j)=some u:=by
 obtain⟨hl,h1|⟨g,cap,cur,hv,_,hg,_,_,_,ht⟩⟩:=h
 ·obtain⟨h2,h3⟩:=h1;injection h2 with e1 e2 e3;subst e1 e2 e3 h3;exact⟨rfl,(fun _=>⟨rfl,rfl⟩),hl,fun b hb=>by cases hb⟩
 ·injection hv with e1 e2 e3;subst e1 e2 e3;refine⟨rfl,(fun h=>by cases h),hl,fun b hb j u hu=>?_⟩;injection hb with hb;subst hb;refine World.news_of_block hg j u ?_;rw[←ht,List.getElem?_take]at hu;split at hu
  ·exact hu
  ·cases hu
theorem A03(l:List UInt8)(hd:∀c∈l,Cw c=true):∀a:Int,0<=a->a<=Jl a l:=by
 induction l with
 | nil=>intro a _;exact Int.le_refl _
 | cons c r ih=>
  intro a ha;have hc:=hd c (by simp);simp only[Cw,Bool.and_eq_true,decide_eq_true_eq]at hc;have:=ih (fun x hx=>hd x (by simp[hx])) (10*a+((c.toNat:Int)-48)) z4sa;rw[Jl];omega
theorem Nq:(Tryz.prog.info? 5).map (fun i=>(i.zero,i.size,i.bytes))=some (some (.int .u8 0),1,1):=by kernel_rfl
theorem r7{w:World}{base:Nat}{v:Value}{bs:List UInt8}(h:w.ownsRow base 5 1 v bs.length (bs.map Hx)) :
  (convert 85 9 v).run Tryz.prog w=.ok (.string ⟨bs.toArray⟩) w:=by
 rcases h.2 with⟨rfl,h0⟩|⟨g,cap,cur,rfl,hb,hg,hc1,hc2,hsz,ht⟩
 ·have:bs=[]:=List.length_eq_zero_iff.1 h0;subst this;rw[run_convert_bytes_string w 85 9 5 none 0 0 Tryz.underlying85 Tryz.underlying5 Tryz.underlying9];rfl
 ·refine run_convert_bytes_back w 85 9 5 ⟨g,0,none⟩ cap bs Tryz.underlying85 Tryz.underlying5 Tryz.underlying9 ?_;intro j hj;rw[Addr.add_lit,cell_of_row w g (0+j) cur 5 (0,0) hg];have e:cur.toList[j]?=(bs.map Hx)[j]?:=by
   rw[←ht,List.getElem?_take,if_pos z4sa]
  rw[Nat.zero_add,←Array.getElem?_toList,e];simp[hj,Hx]
theorem Ads(c:UInt8):(decide (48<=(c.toNat:Int))&&decide ((c.toNat:Int)<=57))=Cw c:=by
 unfold Cw;congr 1 <;> (apply decide_eq_decide.2;omega)
theorem Adt(c:UInt8):((decide (97<=(c.toNat:Int))&&decide ((c.toNat:Int)<=122))||(decide (65<=(c.toNat:Int))&&decide ((c.toNat:Int)<=90)))=isLet c:=by
 unfold isLet;congr 1 <;> congr 1 <;> (apply decide_eq_decide.2;omega)
theorem Amk(l:List UInt8)(i:Nat)(hi:i<l.length)(hd:Cw l[i]=true) :
  E7 (l.drop i)=match numOf ((l.drop i).takeWhile Cw) with
   | some n=>some (⟨2,0,[],n⟩,((l.drop i).takeWhile Cw).length)
   | none=>none:=by
 rw[List.drop_eq_getElem_cons hi,E7,if_pos hd];cases numOf ((l[i]::l.drop (i+1)).takeWhile Cw) <;> rfl
end
end Go.Proofs.YtjdlndhfaaolaaaGreatDoor
