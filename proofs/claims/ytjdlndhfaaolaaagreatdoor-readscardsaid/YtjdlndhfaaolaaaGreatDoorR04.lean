import Derived.Deep.AppendLies
import Derived.Test.YtjdlndhfaaolaaaGreatDoorRows
import Derived.WalkLawsBesides
import Derived.WalkSpells
import Derived.Test.YtjdlndhfaaolaaaGreatDoorR01
set_option maxHeartbeats 20000000
namespace Go.RowKit
theorem Hid.o{p:Prop}(h:Hid p):p:=h.out
end Go.RowKit
namespace Go.Proofs.YtjdlndhfaaolaaaGreatDoor
section
open Go.RowKit
variable {w:World}{base:Nat}{e:TypeId}{size:Nat}{v:Value}{n:Nat}{xs:List Value}
theorem A0{p:Prop}(h:p):Hid p:=h
theorem Nu{a b:Bool}(h:a=b):Ending.returned (.bool a)=.returned (.bool b):=by rw[h]
theorem R5{k:IntKind}{a b:Int}(h:a=b):Ending.returned (.int k a)=.returned (.int k b):=by rw[h]
theorem N6{a b c:World}{r:Option Nat}(h:a.grownBy b none)(k:b.grownBy c r):a.grownBy c r:=
 ⟨k.os.trans h.os,k.tape.trans h.tape,k.output.trans h.output,Nat.le_trans h.size k.size,fun i hi hne=>(k.block i (Nat.lt_of_lt_of_le hi h.size) hne).trans (h.block i hi (by simp))⟩
theorem F1{P:Program}{ops:Array Oper}{rest:List Oper}{o:Oper}{a:Act}{Q:Exit->Act->World->Prop}(W:World)(cs:Array Value)(e:TypeId)(hgd:o.guard=none)(s x:Operand)(t:TypeId)
  (ho:o.op=.call { callee:=.builtin .append,args:=#[s,x],argTypes:=#[t,t] })
  (base size bytes:Nat) (z:Value) (ht:P.underlying t=some (.slice e)) (hinfo:(P.info? e).map (fun i=>(i.zero,i.size,i.bytes))=some (some z,size,bytes))
  (hzs:z.cells.size=size) (hsz:0<size)
  (v:Value) (n:Nat) (xs:List Value) (hs:a.eval s=v) (hx:a.eval x=.slice (some ⟨W.heap.size,0,none⟩) 1 1)
  (hown:W.ownsRow base e size v n xs) (hl:cs.size=size) (h1:∀u∈cs.toList,u.oneCell'=true)
  (hn:n<=1000000) (hby:bytes<=1000) (hbase:base<=W.heap.size)
  (h:∀g cap w',w'.ownsRow base e size (.slice (some ⟨g,0,none⟩) (n+1) cap) (n+1) (xs++cs.toList)->W.grownBy w' v.ownBlock->(v.ownBlock=some g\/g=W.heap.size+1)->g<w'.heap.size->
   wpList P ops Q rest (a.put o.dst (.slice (some ⟨g,0,none⟩) (n+1) cap)) w'):wpList P ops Q (o::rest) a (W.alloc (.cells cs e)):=by
 obtain⟨i,hi,hz0,C4,Bv⟩:=info_parts hinfo;have hb:=Nat.mul_le_mul (show n+1<=1000001 by omega) hby;refine wpList_append_lies (P:=P) (W.alloc (.cells cs e)) hgd s x t ho base e i z size bytes ht hi hz0 C4 Bv hzs hsz v n xs hs (hown.alloc _) ⟨W.heap.size,0,none⟩ 1 1 cs.toList hx (by simp[hl])
  (World.news_of_block (heap_alloc_new W _)) h1 (by omega) (by simp only[maxLen];omega) (by omega) (by simp;omega) (W.heap.size+1) (by simp) ?_
 intro g cap w' k1 k2 k3 k4;exact h g cap w' k1 (N6 (World.grownBy_alloc W _ none) k2) k3 k4
def Jj(b:UInt8):Value:=.int .u8 b.toNat
theorem Ht{c d:UInt8}{n:Int}(hd:(d.toNat:Int)=n)(h:c≠d):((c.toNat:Int)==n)=false:=by
 rw[beq_eq_false_iff_ne];intro e;apply h;apply UInt8.toNat_inj.1;omega
theorem Km{c d:UInt8}{n:Int}(hd:(d.toNat:Int)=n)(h:c=d):((c.toNat:Int)==n)=true:=by
 subst h;rw[beq_iff_eq];exact hd
theorem Nk{c d:UInt8}{n:Int}(hd:(d.toNat:Int)=n)(h:c≠d):((c.toNat:Int) !=n)=true:=by
 rw[bne,Ht hd h];rfl
theorem Qn{c d:UInt8}{n:Int}(hd:(d.toNat:Int)=n)(h:c=d):((c.toNat:Int) !=n)=false:=by
 rw[bne,Km hd h];rfl
theorem L3(l:List UInt8)(k:Nat)(h:k<(⟨l.toArray⟩:ByteArray).size):((⟨l.toArray⟩:ByteArray)[k]'h)=l[k]'(by simpa [ByteArray.size]using h):=by
 rfl
theorem toList_data(s:ByteArray):s.toList=s.data.toList:=by
 show ByteArray.toList.loop s 0 []=_;rw[ByteArray.toList_loop_eq s _ 0 [] rfl (Nat.zero_le _)];simp
theorem X3(a b:List UInt8):((⟨a.toArray⟩:ByteArray)++(⟨b.toArray⟩:ByteArray))=⟨(a++b).toArray⟩:=by
 apply ByteArray.ext;simp
theorem Yk(a:List UInt8)(i j:Nat):((⟨a.toArray⟩:ByteArray).extract i j).toList=(a.drop i).take (j-i):=by
 rw[toList_data,ByteArray.data_extract];simp
theorem N5(l:List UInt8)(i j:Nat):(⟨l.toArray⟩:ByteArray).extract i j=⟨((l.drop i).take (j-i)).toArray⟩:=by
 apply ByteArray.ext;simp[ByteArray.data_extract]
theorem P1(h:w.ownsRow base e size v n xs):∀k,v.ownBlock=some k->base<=k:=by
 intro k hk;rcases h.2 with⟨rfl,_⟩|⟨g,cap,cur,rfl,hb,_⟩
 ·simp[Value.ownBlock]at hk
 ·simp[Value.ownBlock]at hk;omega
theorem A5{w:World}{g:Nat}{o:Obj}(h:w.heap[g]?=some o):g<w.heap.size:=by
 rcases Nat.lt_or_ge g w.heap.size with h'|h'
 ·exact h'
 ·rw[Array.getElem?_eq_none h']at h;cases h
theorem Bb{w w':World}{base:Nat}{e:TypeId}{size:Nat}{v:Value}{n:Nat}{xs:List Value}(h:w.ownsRow base e size v n xs)(hb:∀g,v.ownBlock=some g->g<w.heap.size->w'.heap[g]?=w.heap[g]?):w'.ownsRow base e size v n xs:=by
 obtain⟨h1,h2⟩:=h;refine⟨h1,?_⟩;rcases h2 with h2|⟨g,cap,cur,rfl,hg,hh,r⟩
 ·exact .inl h2
 ·exact .inr ⟨g,cap,cur,rfl,hg,(hb g rfl (A5 hh)).trans hh,r⟩
theorem Vj{w w':World}{base:Nat}{e:TypeId}{size:Nat}{v:Value}{n:Nat}{xs:List Value}(h:w.ownsRow base e size v n xs)(hb:Below w.heap.size w w'):w'.ownsRow base e size v n xs:=
 Bb h fun g _ hg=>hb.block g hg
theorem Ca(h:w.ownsRow base e size v n xs):∀g,v.ownBlock=some g->g<w.heap.size:=by
 intro k hk;rcases h.2 with⟨rfl,_⟩|⟨g,cap,cur,rfl,_,hh,_⟩
 ·simp[Value.ownBlock]at hk
 ·simp[Value.ownBlock]at hk;rw[←hk];exact A5 hh
theorem Ry(h:w.ownsRow base e size v n xs)(a:Addr)(u:Value)(hne:v.ownBlock≠some a.block):(w.setCell a u).ownsRow base e size v n xs:=
 Bb h fun g hg _=>Below.heap_setCell w a u g (fun e=>hne (by rw[hg,e]))
theorem A28{W w1:World}(hb:Below W.heap.size W w1):(∀b o,b<W.heap.size->w1.cell? ⟨b,o,none⟩=W.cell? ⟨b,o,none⟩)/\(∀b o,b<W.heap.size->w1.frozen? ⟨b,o,none⟩=W.frozen? ⟨b,o,none⟩):=
 ⟨fun b o h=>hb.cell (p:=⟨b,o,none⟩) h,fun b o h=>hb.frozen (p:=⟨b,o,none⟩) h⟩
end
section
open Go.RowKit
theorem Uf{P:Program}{ops:Array Oper}{rest:List Oper}{o:Oper}{a:Act}{Q:Exit->Act->World->Prop}(W:World)(cs:Array Value)(e:TypeId)(hgd:o.guard=none)(s x:Operand)(t:TypeId)(m:Nat)
  (ho:o.op=.call { callee:=.builtin .append,args:=#[s,x],argTypes:=#[t,t] })
  (base size bytes:Nat) (z:Value) (ht:P.underlying t=some (.slice e)) (hinfo:(P.info? e).map (fun i=>(i.zero,i.size,i.bytes))=some (some z,size,bytes))
  (hzs:z.cells.size=size) (hsz:0<size) (hm:0<m) (hm9:m<=9)
  (v:Value) (n:Nat) (xs:List Value) (hs:a.eval s=v) (hx:a.eval x=.slice (some ⟨W.heap.size,0,none⟩) m m)
  (hown:W.ownsRow base e size v n xs) (hl:cs.size=m*size) (h1:∀u∈cs.toList,u.oneCell'=true)
  (hn:n<=1000000) (hby:bytes<=1000) (hbase:base<=W.heap.size)
  (h:∀g cap w',w'.ownsRow base e size (.slice (some ⟨g,0,none⟩) (n+m) cap) (n+m) (xs++cs.toList)->W.grownBy w' v.ownBlock->(v.ownBlock=some g\/g=W.heap.size+1)->g<w'.heap.size->
   wpList P ops Q rest (a.put o.dst (.slice (some ⟨g,0,none⟩) (n+m) cap)) w'):wpList P ops Q (o::rest) a (W.alloc (.cells cs e)):=by
 obtain⟨i,hi,hz0,C4,Bv⟩:=info_parts hinfo;have hb:=Nat.mul_le_mul (show n+m<=1000009 by omega) hby;refine wpList_append_lies (P:=P) (W.alloc (.cells cs e)) hgd s x t ho base e i z size bytes ht hi hz0 C4 Bv hzs hsz v n xs hs (hown.alloc _) ⟨W.heap.size,0,none⟩ m m cs.toList hx (by simpa using hl)
  (World.news_of_block (heap_alloc_new W _)) h1 hm (by simp only[maxLen];omega) (by omega) (by simp;omega) (W.heap.size+1) (by simp) ?_
 intro g cap w' k1 k2 k3 k4;exact h g cap w' k1 (N6 (World.grownBy_alloc W _ none) k2) k3 k4
theorem C9{w:World}{base:Nat}{e:TypeId}{size n:Nat}{va:Option Addr}{vn vc:Nat}{xs:List Value}(h:w.ownsRow base e size (.slice va vn vc) n xs) :
  vn=n/\(va=none->vn=0/\vc=0)/\xs.length=n*size/\∀b,va=some b->∀j u,xs[j]?=some u->w.cell? (b.add j)=some u:=by
 obtain⟨hl,h1|⟨g,cap,cur,hv,_,hg,_,_,_,ht⟩⟩:=h
 ·obtain⟨h2,h3⟩:=h1;injection h2 with e1 e2 e3;subst e1 e2 e3 h3;exact⟨rfl,(fun _=>⟨rfl,rfl⟩),hl,fun b hb=>by cases hb⟩
 ·injection hv with e1 e2 e3;subst e1 e2 e3;refine⟨rfl,(fun h=>by cases h),hl,fun b hb j u hu=>?_⟩;injection hb with hb;subst hb;refine World.news_of_block hg j u ?_;rw[←ht,List.getElem?_take]at hu;split at hu
  ·exact hu
  ·cases hu
theorem A7z{w:World}{base:Nat}{e:TypeId}{size n:Nat}{v:Value}{xs:List Value}(h:w.ownsRow base e size v n xs):w.ownsRow 0 e size v n xs:=by
 obtain⟨hl,h1|⟨g,cap,cur,hv,_,hg,h3⟩⟩:=h
 ·exact⟨hl,.inl h1⟩
 ·exact⟨hl,.inr ⟨g,cap,cur,hv,Nat.zero_le _,hg,h3⟩⟩
theorem Ae0{P:Program}{ops:Array Oper}{rest:List Oper}{o:Oper}{a:Act}{Q:Exit->Act->World->Prop}(W:World)(cs:Array Value)(e:TypeId)(hgd:o.guard=none)(s x:Operand)(t:TypeId)
  (ho:o.op=.call { callee:=.builtin .append,args:=#[s,x],argTypes:=#[t,t] })
  (base size bytes:Nat) (z:Value) (ht:P.underlying t=some (.slice e)) (hinfo:(P.info? e).map (fun i=>(i.zero,i.size,i.bytes))=some (some z,size,bytes))
  (hzs:z.cells.size=size) (hsz:0<size)
  (va:Option Addr) (n:Nat) (xs:List Value) (hs:a.eval s=.slice va n n) (hx:a.eval x=.slice (some ⟨W.heap.size,0,none⟩) 1 1)
  (hown:W.ownsRow base e size (.slice va n n) n xs) (hl:cs.size=size) (h1:∀u∈cs.toList,u.oneCell'=true)
  (hn:n<=1000000) (hby:bytes<=1000)
  (h:∀g cap w',w'.ownsRow 0 e size (.slice (some ⟨g,0,none⟩) (n+1) cap) (n+1) (xs++cs.toList)->W.grownBy w' none->W.heap.size<g->g<w'.heap.size->
   wpList P ops Q rest (a.put o.dst (.slice (some ⟨g,0,none⟩) (n+1) cap)) w'):wpList P ops Q (o::rest) a (W.alloc (.cells cs e)):=by
 obtain⟨i,hi,hz0,C4,Bv⟩:=info_parts hinfo;have hb:=Nat.mul_le_mul (show n+1<=1000001 by omega) hby;obtain⟨_,k2,k3,k4⟩:=C9 (hown.alloc (.cells cs e));refine wpList_append_grows (P:=P) (W.alloc (.cells cs e)) hgd s x t ho e i z size bytes ht hi hz0 C4 Bv hzs hsz va n n xs hs k2 k3 k4 ⟨W.heap.size,0,none⟩ 1 1 cs.toList hx (by simp[hl])
  (World.news_of_block (heap_alloc_new W _)) h1 (by omega) (by simp only[maxLen];omega) (by omega) ?_
 intro v' w' r1 r2;obtain⟨g,cap,rfl,hg,hlt⟩:=r1.form (by omega);exact h g cap w' (A7z r1) (N6 (World.grownBy_alloc W _ none) r2) (by simp at hg;omega) hlt
theorem A4k(n:Int)(w:World) :
  Calls Tryz.prog 101 #[.int .u8 n] w fun e w'=>e=.returned (.bool (decide (48<=n)&&decide (n<=57)))/\w'=w:=by
 by_cases h1:48<=n <;> by_cases h2:n<=57;all_goals
  go_enter Tryz.func101,Tryz.ntmps101;go_wp2;go_ret;exact⟨by simp[h1,h2],rfl⟩
theorem A6r(n:Int)(w:World) :
  Calls Tryz.prog 102 #[.int .u8 n] w fun e w'=>e=.returned (.bool ((decide (97<=n)&&decide (n<=122))||(decide (65<=n)&&decide (n<=90))))/\w'=w:=by
 by_cases h1:97<=n <;> by_cases h2:n<=122 <;> by_cases h3:65<=n <;> by_cases h4:n<=90;all_goals
  try (exfalso;omega)
 all_goals
  go_enter Tryz.func102,Tryz.ntmps102;go_wp2;go_ret;exact⟨by simp[h1,h2,h3,h4],rfl⟩
def Kp(t:List UInt8):List UInt8->Bool
 | []=>t==[]
 | c::r=>((c::r).take t.length==t)||Kp t r
theorem Z4(t l:List UInt8)(h:l.length<t.length):Kp t l=false:=by
 induction l with
 | nil=>cases t with
  | nil=>simp at h
  | cons c r=>simp[Kp]
 | cons c r ih=>
  have hr:Kp t r=false:=ih (by simp at h;omega);rw[Kp,hr,Bool.or_false];rw[beq_eq_false_iff_ne];intro e;have:=congrArg List.length e;simp at this h;omega
theorem A61(t a:List UInt8)(k:Nat)(h:k+t.length<=a.length)(ht:0<t.length)(hne:((a.drop k).take t.length==t)=false):Kp t (a.drop k)=Kp t (a.drop (k+1)):=by
 rw[List.drop_eq_getElem_cons (by omega)]at hne ⊢;rw[Kp,hne,Bool.false_or]
theorem A60(t a:List UInt8)(k:Nat)(h:k+t.length<=a.length)(ht:0<t.length)(he:((a.drop k).take t.length==t)=true):Kp t (a.drop k)=true:=by
 rw[List.drop_eq_getElem_cons (by omega)]at he ⊢;rw[Kp,he,Bool.true_or]
def Ic(s a:List UInt8):Bool:=Kp (32::(s++[32])) a
theorem La(s a:List UInt8)(w:World)(hs:s.length<=100000)(ha:a.length<=100000) :
  Calls Tryz.prog 104 #[.string ⟨s.toArray⟩,.string ⟨a.toArray⟩] w fun e w'=>e=.returned (.bool (Ic s a))/\w'=w:=by
 have e1:((⟨#[32]⟩:ByteArray)++(⟨s.toArray⟩:ByteArray))=⟨(32::s).toArray⟩:=X3 [32] s;have e2:((⟨(32::s).toArray⟩:ByteArray)++(⟨#[32]⟩:ByteArray))=⟨(32::s++[32]).toArray⟩:=X3 (32::s) [32];go_enter Tryz.func104,Tryz.ntmps104;go_wp2;go_loop [6] (fun i=>∃k:Nat,k<=a.length/\i=.int .i64 k/\Ic s a=Kp (32::(s++[32])) (a.drop k)) (fun i=>a.length-(intOf i).toNat)
 case atStart=>exact⟨0,Nat.zero_le _,rfl,rfl⟩
 case round=>
  obtain⟨k,hk,rfl,hsub⟩:=hrel;have HS:=A0 hsub;clear hsub;by_cases hlt:k+(s.length+2)<=a.length
  ·cases he:((a.drop k).take (32::(s++[32])).length==(32::(s++[32])))
   ·have he':(((⟨a.toArray⟩:ByteArray).extract k (k+(s.length+1+1))).toList==32::(s++[32]))=false:=by
     rw[Yk,Nat.add_sub_cancel_left];simpa using he
    have HE:=A0 he;clear he;go_wp2;go_round
    case rel=>exact⟨k+1,by omega,by go_num,by rw[HS.o];exact A61 _ a k (by simp;omega) (by simp) HE.o⟩
    case measure=>simp[intOf];omega
   ·have he':(((⟨a.toArray⟩:ByteArray).extract k (k+(s.length+1+1))).toList==32::(s++[32]))=true:=by
     rw[Yk,Nat.add_sub_cancel_left];simpa using he
    have HE:=A0 he;clear he;go_wp2;go_ret;exact⟨Nu (by rw[HS.o];exact(A60 _ a k (by simp;omega) (by simp) HE.o).symm),rfl⟩
  ·go_wp2;go_ret;exact⟨Nu (by rw[HS.o];exact(Z4 _ _ (by simp;omega)).symm),rfl⟩
theorem Sx(l:List UInt8)(hd:∀c∈l,Cd c=true):∀a:Int,0<=a->a<=F5 a l:=by
 induction l with
 | nil=>intro a _;exact Int.le_refl _
 | cons c r ih=>
  intro a ha;have hc:=hd c (by simp);simp only[Cd,Bool.and_eq_true,decide_eq_true_eq]at hc;have:=ih (fun x hx=>hd x (by simp[hx])) (10*a+((c.toNat:Int)-48)) (by omega);rw[F5];omega
theorem Xj(l:List UInt8)(k:Nat)(h:k<l.length):∀a,F5 a (l.take (k+1))=10*F5 a (l.take k)+((l[k].toNat:Int)-48):=by
 induction l generalizing k with
 | nil=>simp at h
 | cons c r ih=>
  intro a;cases k with
  | zero=>simp[F5]
  | succ k=>simp only[List.take_succ_cons,F5,List.getElem_cons_succ];exact ih k (by simpa using h) _
theorem A4f(a b:List UInt8):∀x,F5 x (a++b)=F5 (F5 x a) b:=by
 induction a with
 | nil=>intro x;rfl
 | cons c r ih=>intro x;simp only[List.cons_append,F5];exact ih _
theorem A4g(l:List UInt8)(hd:∀c∈l,Cd c=true)(k:Nat):F5 0 (l.take k)<=F5 0 l:=by
 have h1:F5 0 l=F5 (F5 0 (l.take k)) (l.drop k):=by rw[←A4f,List.take_append_drop]
 have h2:=Sx (l.take k) (fun c hc=>hd c (List.mem_of_mem_take hc)) 0 (by omega);have h3:=Sx (l.drop k) (fun c hc=>hd c (List.mem_of_mem_drop hc)) (F5 0 (l.take k)) h2;omega
theorem A7l(l:List UInt8)(hd:∀c∈l,Cd c=true)(k:Nat)(h:k<l.length)
  (hlt:(9223372036854775807-((l[k].toNat:Int)-48)) / 10<F5 0 (l.take k)):numOf l=none:=by
 have h1:=A4g l hd (k+1);rw[Xj l k h]at h1;unfold numOf Po;rw[if_neg (by omega)]
theorem A7m(l:List UInt8)(h:F5 0 l<=Po):numOf l=some (F5 0 l):=by
 unfold numOf;rw[if_pos h]
theorem A7n(l:List UInt8)(w:World)(hl:l.length<=100000)(hd:∀c∈l,Cd c=true) :
  Calls Tryz.prog 103 #[.string ⟨l.toArray⟩] w fun e w'=>e=.returned (.tuple #[.int .i64 ((numOf l).getD 0),.bool (numOf l).isSome])/\w'=w:=by
 have HD:=A0 hd;clear hd;go_enter Tryz.func103,Tryz.ntmps103;go_wp2;go_loop [4,5] (fun n i=>∃k:Nat,k<=l.length/\i=.int .i64 k/\∃m:Int,n=.int .i64 m/\0<=m/\m<=Po/\m=F5 0 (l.take k)) (fun _ i=>l.length-(intOf i).toNat)
 case atStart=>exact⟨0,Nat.zero_le _,rfl,0,rfl,by omega,by unfold Po;omega,rfl⟩
 case round=>
  obtain⟨k,hk,rfl,m,rfl,hm0,hm1,hm⟩:=hrel;have HM:=A0 hm;clear hm;by_cases hlt:k<l.length
  ·have hb:=HD.o l[k] (by simp);simp only[Cd,Bool.and_eq_true,decide_eq_true_eq]at hb;have Cf:48<=(l[k].toNat:Int):=by omega
   have A3:(l[k].toNat:Int)<=57:=by omega
   have hE:∀h,((⟨l.toArray⟩:ByteArray)[k]'h)=l[k]:=fun h=>L3 l k h;by_cases hc:(9223372036854775807-((l[k].toNat:Int)-48)) / 10<m
   ·have HN:=A0 (A7l l HD.o k hlt (by rw[←HM.o];exact hc));clear hb;go_wp2;go_ret2
    exact⟨by rw[HN.o];rfl,rfl⟩
   ·have hc':m<=(9223372036854775807-((l[k].toNat:Int)-48)) / 10:=by omega
    clear hc hb;go_wp2;go_round
    case rel=>
     exact⟨k+1,by omega,by go_num,10*m+((l[k].toNat:Int)-48),rfl,by omega,by unfold Po;omega,by rw[Xj l k hlt,HM.o]⟩
    case measure=>simp[intOf];omega
  ·go_wp2;go_ret2
   have hk':l.take k=l:=List.take_of_length_le (by omega);have hm:=HM.o;rw[hk']at hm;have hs:=A7m l (by omega);exact⟨by rw[hs,hm];rfl,rfl⟩
def R7:List UInt8:=[32,61,61,32,33,61,32,60,61,32,62,61,32,38,38,32,124,124,32]
def P7:List UInt8:=[32,40,32,41,32,123,32,125,32,91,32,93,32,44,32,59,32,61,32,33,32,60,32,62,32,43,32,45,32,42,32,47,32,37,32]
theorem A2w(p:UInt8->Bool)(h:(List.range 256).all (fun n=>p (UInt8.ofNat n))=true)(c:UInt8):p c=true:=by
 rw[List.all_eq_true]at h;have:=h c.toNat (by rw[List.mem_range];exact c.toNat_lt);simpa using this
theorem Wv(c:UInt8)(h:c≠32):Ic [c] P7=(Hz c !=0):=by
 have:=A2w (fun c=>c==32||(Ic [c] P7==(Hz c !=0))) (by decide +kernel) c;simpa [h]using this
theorem A1o(c d:UInt8):Ic [c,d] R7=(L1 c d !=0):=by
 simp only[Ic,R7,Kp,List.length_cons,List.length_nil,List.cons_append,List.nil_append,List.take_succ_cons,List.take_zero,List.take_nil,L1,List.cons_beq_cons,List.nil_beq_eq,List.isEmpty_nil];have k1:((32:UInt8)==32)=true:=rfl;have k2:((61:UInt8)==32)=false:=rfl;have k3:((33:UInt8)==32)=false:=rfl;have k4:((60:UInt8)==32)=false:=rfl;have k5:((62:UInt8)==32)=false:=rfl;have k6:((38:UInt8)==32)=false:=rfl;have k7:((124:UInt8)==32)=false:=rfl;have e0:∀a b:UInt8,(a==b)=(b==a):=fun a b=>BEq.comm;rw[e0 61 c,e0 33 c,e0 60 c,e0 62 c,e0 38 c,e0 124 c,e0 61 d,e0 38 d,e0 124 d];simp only[k1,k2,k3,k4,k5,k6,k7,Bool.false_and,Bool.true_and,Bool.and_true,Bool.false_or,List.isEmpty_cons];have k8:([32,c,d,32]==([]:List UInt8))=false:=rfl;rw[k8];generalize (c==61)=x1;generalize (c==33)=x2;generalize (c==60)=x3;generalize (c==62)=x4;generalize (c==38)=x5;generalize (c==124)=x6;generalize (d==61)=y1;generalize (d==38)=y2;generalize (d==124)=y3;revert x1 x2 x3 x4 x5 x6 y1 y2 y3;decide
theorem Xk(l:List UInt8)(i:Nat)(h:i+2<=l.length):l.drop i=l[i]::l[i+1]::l.drop (i+2):=by
 rw[List.drop_eq_getElem_cons (by omega),List.drop_eq_getElem_cons (i:=i+1) (by omega)]
theorem Abg(l:List UInt8)(i:Nat)(w:World)(hl:l.length<=100000)(hi:i<l.length)(hs:l[i]≠32) :
  Calls Tryz.prog 106 #[.string ⟨l.toArray⟩,.int .i64 i] w fun e w'=>e=.returned (.int .i64 (Ep (l.drop i)).2)/\w'=w:=by
 have G0:(⟨l.toArray⟩:ByteArray).extract i (i+1)=⟨[l[i]].toArray⟩:=by
  rw[N5,List.drop_eq_getElem_cons hi,Nat.add_sub_cancel_left];rfl
 have HS:=A0 hs;clear hs;by_cases h2:i+2<=l.length
 ·have G9:(⟨l.toArray⟩:ByteArray).extract i (i+2)=⟨[l[i],l[i+1]].toArray⟩:=by
   rw[N5,Xk l i h2,Nat.add_sub_cancel_left];rfl
  have HV:Hid ((Ep (l.drop i)).2=if Ic [l[i],l[i+1]] R7=true then 2 else if Ic [l[i]] P7=true then 1 else 0):=by
   show _=_;rw[Xk l i h2,Ep,A1o,Wv _ HS.o];cases h:L1 l[i] l[i+1] !=0 <;> cases h':Hz l[i]==0 <;> simp[bne,h']
  cases e2:Ic [l[i],l[i+1]] R7
  ·cases e1:Ic [l[i]] P7;all_goals
    have HW:Hid ((Ep (l.drop i)).2=_):=HV.o.trans (by rw[e1,e2]);clear HV;go_enter Tryz.func106,Tryz.ntmps106;go_wp2_with fail
    refine(La [l[i],l[i+1]] R7 _ (by simp) (by decide)).mono ?_;rintro e w' ⟨rfl,rfl⟩;go_wp2_with fail
    refine(La [l[i]] P7 _ (by simp) (by decide)).mono ?_;rintro e w' ⟨rfl,rfl⟩;go_wp2;go_ret;exact⟨R5 (by rw[HW.o];rfl),rfl⟩
  ·have HW:Hid ((Ep (l.drop i)).2=_):=HV.o.trans (by rw[e2]);clear HV;go_enter Tryz.func106,Tryz.ntmps106;go_wp2_with fail
   refine(La [l[i],l[i+1]] R7 _ (by simp) (by decide)).mono ?_;rintro e w' ⟨rfl,rfl⟩;go_wp2;go_ret;exact⟨R5 (by rw[HW.o];rfl),rfl⟩
 ·have hd:l.drop i=[l[i]]:=by
   rw[List.drop_eq_getElem_cons hi,List.drop_of_length_le (by omega)]
  have HV:Hid ((Ep (l.drop i)).2=if Ic [l[i]] P7=true then 1 else 0):=by
   show _=_;rw[hd,Ep,Wv _ HS.o];cases h':Hz l[i]==0 <;> simp[bne,h']
  clear hd;cases e1:Ic [l[i]] P7;all_goals
   have HW:Hid ((Ep (l.drop i)).2=_):=HV.o.trans (by rw[e1]);clear HV;go_enter Tryz.func106,Tryz.ntmps106;go_wp2_with fail
   refine(La [l[i]] P7 _ (by simp) (by decide)).mono ?_;rintro e w' ⟨rfl,rfl⟩;go_wp2;go_ret;exact⟨R5 (by rw[HW.o];rfl),rfl⟩
end
section
set_option maxRecDepth 100000
open Go.RowKit
theorem Pj:(Tryz.prog.info? 5).map (fun i=>(i.zero,i.size,i.bytes))=some (some (.int .u8 0),1,1):=by kernel_rfl
theorem Xd{w:World}{base:Nat}{v:Value}{bs:List UInt8}(h:w.ownsRow base 5 1 v bs.length (bs.map Jj)) :
  (convert 85 9 v).run Tryz.prog w=.ok (.string ⟨bs.toArray⟩) w:=by
 rcases h.2 with⟨rfl,h0⟩|⟨g,cap,cur,rfl,hb,hg,hc1,hc2,hsz,ht⟩
 ·have:bs=[]:=List.length_eq_zero_iff.1 h0;subst this;rw[run_convert_bytes_string w 85 9 5 none 0 0 Tryz.underlying85 Tryz.underlying5 Tryz.underlying9];rfl
 ·refine run_convert_bytes_back w 85 9 5 ⟨g,0,none⟩ cap bs Tryz.underlying85 Tryz.underlying5 Tryz.underlying9 ?_;intro j hj;rw[Addr.add_lit,cell_of_row w g (0+j) cur 5 (0,0) hg];have e:cur.toList[j]?=(bs.map Jj)[j]?:=by
   rw[←ht,List.getElem?_take,if_pos (by omega)]
  rw[Nat.zero_add,←Array.getElem?_toList,e];simp[hj,Jj]
theorem A9c(l:List UInt8)(i:Nat)(w:World)(hl:l.length<=100000)(hi:i<l.length) :
  Calls Tryz.prog 105 #[.string ⟨l.toArray⟩,.int .i64 i] w fun e w'=>e=.returned (.tuple #[.string ⟨(Sa (quot false (l.drop (i+1)))).toArray⟩,.int .i64 (S8 (quot false (l.drop (i+1))))])/\Below w.heap.size w w':=by
 obtain⟨i0,hi0,hz0,C4,Bv⟩:=info_parts Pj;go_enter Tryz.func105,Tryz.ntmps105;go_wp2;go_loopw [6,7] (fun v t wr=>∃(k:Nat) (acc:List UInt8),i+1<=k/\k<=l.length/\t=.int .i64 k/\wr.ownsRow w.heap.size 5 1 v acc.length (acc.map Jj)/\acc.length<=k/\Below w.heap.size w wr/\
   quot false (l.drop (i+1))=Kg acc (k-(i+1)) (quot false (l.drop k))) (fun _ t _=>l.length-(intOf t).toNat)
 case atStart=>
  refine⟨i+1,[],Nat.le_refl _,by omega,by go_num,World.ownsRow_nil _ _ _ _,by simp,Below.refl _ _,?_⟩;rw[Nat.sub_self];cases quot false (l.drop (i+1)) <;> simp[Kg]
 case round=>
  obtain⟨k,acc,Ks,Bk,rfl,hown,hacc,hbel,hq⟩:=hrel;have HQ:=A0 hq;clear hq;have fin:Hid (quot false (l.drop k)=none->Sa (quot false (l.drop (i+1)))=[]/\S8 (quot false (l.drop (i+1)))=0):=by
   intro h;rw[HQ.o,h];exact⟨rfl,rfl⟩
  by_cases hlt:k<l.length
  ·have hE:∀h,((⟨l.toArray⟩:ByteArray)[k]'h)=l[k]:=fun h=>L3 l k h;by_cases hp0:(32:Int)<=(l[k].toNat:Int)
   ·by_cases By:(l[k].toNat:Int)<=126
    ·have hp:Hid (Ez l[k]=true):=by
      show _=_;simp only[Ez,Bool.and_eq_true,decide_eq_true_eq];omega
     by_cases h34:l[k]=34
     ·have t34:=Km (n:=34) rfl h34;have HR:=A0 (b9 l k hlt h34);have HF:Hid (quot false (l.drop (i+1))=some (acc,k-(i+1)+1)):=by
       show _=_;rw[HQ.o,HR.o];simp[Kg]
      have hcv:=Xd hown;clear h34 HR HQ fin;go_wp2;go_ret2
      exact⟨by rw[HF.o];simp[Sa,S8];omega,hbel⟩
     ·have t34:=Ht (n:=34) rfl h34;by_cases h92:l[k]=92
      ·have t92:=Km (n:=92) rfl h92;by_cases hlt2:k+1<l.length
       ·have hE2:∀h,((⟨l.toArray⟩:ByteArray)[k+1]'h)=l[k+1]:=fun h=>L3 l (k+1) h;by_cases e34:l[k+1]=34
        ·have HR:=A0 (R4 l k hlt2 h92 (.inl e34));have HN:Hid (quot false (l.drop (i+1))=Kg (acc++[l[k+1]]) (k+2-(i+1)) (quot false (l.drop (k+2)))):=by
          show _=_;rw[HQ.o,HR.o,R3,e34,show k-(i+1)+2=k+2-(i+1) by omega];rfl
         have u34:=Qn (n:=34) rfl e34;have u110:=Ht (c:=l[k+1]) (d:=110) (n:=110) rfl (by rw[e34];decide);clear h34 h92 e34 HR HQ fin;go_wp2_with (at_builtin;refine F1 wr #[Jj l[k+1]] 5 rfl (.tmp 69) (.tmp 71) 85 rfl w.heap.size 1 1 (.int .u8 0) Tryz.underlying85 Pj rfl (by omega) _ _ _ rfl rfl hown rfl (by intro u hu;simp at hu;subst hu;rfl) (by omega) (by omega) hbel.size ?_;intro g cap w1 E1 hgrow hat hg)
         go_roundw
         case rel=>exact⟨k+2,acc++[l[k+1]],by omega,by omega,by go_num,by simpa using E1,by simp;omega,hbel.grown hgrow hbel.size (P1 hown),HN.o⟩
         case measure=>simp[intOf];omega
        ·by_cases e92:l[k+1]=92
         ·have HR:=A0 (R4 l k hlt2 h92 (.inr (.inl e92)));have HN:Hid (quot false (l.drop (i+1))=Kg (acc++[l[k+1]]) (k+2-(i+1)) (quot false (l.drop (k+2)))):=by
           show _=_;rw[HQ.o,HR.o,R3,e92,show k-(i+1)+2=k+2-(i+1) by omega];rfl
          have u34:=Nk (n:=34) rfl e34;have u92:=Qn (n:=92) rfl e92;have u110:=Ht (c:=l[k+1]) (d:=110) (n:=110) rfl (by rw[e92];decide);clear h34 h92 e34 e92 HR HQ fin;go_wp2_with (at_builtin;refine F1 wr #[Jj l[k+1]] 5 rfl (.tmp 69) (.tmp 71) 85 rfl w.heap.size 1 1 (.int .u8 0) Tryz.underlying85 Pj rfl (by omega) _ _ _ rfl rfl hown rfl (by intro u hu;simp at hu;subst hu;rfl) (by omega) (by omega) hbel.size ?_;intro g cap w1 E1 hgrow hat hg)
          go_roundw
          case rel=>exact⟨k+2,acc++[l[k+1]],by omega,by omega,by go_num,by simpa using E1,by simp;omega,hbel.grown hgrow hbel.size (P1 hown),HN.o⟩
          case measure=>simp[intOf];omega
         ·by_cases e110:l[k+1]=110
          ·have HR:=A0 (R4 l k hlt2 h92 (.inr (.inr e110)));have HN:Hid (quot false (l.drop (i+1))=Kg (acc++[10]) (k+2-(i+1)) (quot false (l.drop (k+2)))):=by
            show _=_;rw[HQ.o,HR.o,R3,e110,show k-(i+1)+2=k+2-(i+1) by omega];rfl
           have u34:=Nk (n:=34) rfl e34;have u92:=Nk (n:=92) rfl e92;have u110:=Qn (n:=110) rfl e110;have v110:=Km (n:=110) rfl e110;clear h34 h92 e34 e92 e110 HR HQ fin;go_wp2_with (at_builtin;refine F1 wr #[Jj 10] 5 rfl (.tmp 69) (.tmp 71) 85 rfl w.heap.size 1 1 (.int .u8 0) Tryz.underlying85 Pj rfl (by omega) _ _ _ rfl rfl hown rfl (by intro u hu;simp at hu;subst hu;rfl) (by omega) (by omega) hbel.size ?_;intro g cap w1 E1 hgrow hat hg)
           go_roundw
           case rel=>exact⟨k+2,acc++[10],by omega,by omega,by go_num,by simpa using E1,by simp;omega,hbel.grown hgrow hbel.size (P1 hown),HN.o⟩
           case measure=>simp[intOf];omega
          ·have HF:=A0 (fin.out (j6 l k hlt2 h92 e34 e92 e110));have u34:=Nk (n:=34) rfl e34;have u92:=Nk (n:=92) rfl e92;have u110:=Nk (n:=110) rfl e110;clear h34 h92 e34 e92 e110 HQ fin;go_wp2;go_ret2
           exact⟨by rw[HF.o.1,HF.o.2];rfl,hbel⟩
       ·have HF:=A0 (fin.out (j7 l k hlt h92 (by omega)));clear h34 h92 HQ fin;go_wp2;go_ret2
        exact⟨by rw[HF.o.1,HF.o.2];rfl,hbel⟩
      ·have HR:=A0 (j9 l k hlt hp.out h34 h92);have HN:Hid (quot false (l.drop (i+1))=Kg (acc++[l[k]]) (k+1-(i+1)) (quot false (l.drop (k+1)))):=by
        show _=_;rw[HQ.o,HR.o,R3,show k-(i+1)+1=k+1-(i+1) by omega]
       have t92:=Ht (n:=92) rfl h92;clear h34 h92 HR HQ fin;go_wp2_with (at_builtin;refine F1 wr #[Jj l[k]] 5 rfl (.tmp 69) (.tmp 71) 85 rfl w.heap.size 1 1 (.int .u8 0) Tryz.underlying85 Pj rfl (by omega) _ _ _ rfl rfl hown rfl (by intro u hu;simp at hu;subst hu;rfl) (by omega) (by omega) hbel.size ?_;intro g cap w1 E1 hgrow hat hg)
       go_roundw
       case rel=>exact⟨k+1,acc++[l[k]],by omega,by omega,by go_num,by simpa using E1,by simp;omega,hbel.grown hgrow hbel.size (P1 hown),HN.o⟩
       case measure=>simp[intOf];omega
    ·have HF:=A0 (fin.out (Vx l k hlt (by simp only[Ez,Bool.and_eq_false_iff,decide_eq_false_iff_not];omega)));go_wp2;go_ret2
     exact⟨by rw[HF.o.1,HF.o.2];rfl,hbel⟩
   ·have HF:=A0 (fin.out (Vx l k hlt (by simp only[Ez,Bool.and_eq_false_iff,decide_eq_false_iff_not];omega)));go_wp2;go_ret2
    exact⟨by rw[HF.o.1,HF.o.2];rfl,hbel⟩
  ·have HF:=A0 (fin.out (j8 l k (by omega)));go_wp2;go_ret2
   exact⟨by rw[HF.o.1,HF.o.2];rfl,hbel⟩
end
end Go.Proofs.YtjdlndhfaaolaaaGreatDoor
