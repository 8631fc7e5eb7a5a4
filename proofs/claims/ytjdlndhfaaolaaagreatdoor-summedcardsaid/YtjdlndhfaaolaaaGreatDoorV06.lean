import Derived.Deep.AppendLies
import Derived.Test.YtjdlndhfaaolaaaGreatDoorRows
import Derived.WalkLawsBesides
import Derived.WalkSpells
import Derived.Test.YtjdlndhfaaolaaaGreatDoorV01
set_option maxHeartbeats 20000000
namespace Go.RowKit
theorem Hid.o{p:Prop}(h:Hid p):p:=h.out
end Go.RowKit
namespace Go.Proofs.YtjdlndhfaaolaaaGreatDoor
section
open Go.RowKit
theorem A0{p:Prop}(h:p):Hid p:=h
theorem Sy{a b:Bool}(h:a=b):Ending.returned (.bool a)=.returned (.bool b):=by rw[h]
theorem Y5{k:IntKind}{a b:Int}(h:a=b):Ending.returned (.int k a)=.returned (.int k b):=by rw[h]
theorem M5{a b c:World}{r:Option Nat}(h:a.grownBy b none)(k:b.grownBy c r):a.grownBy c r:=
 ⟨k.os.trans h.os,k.tape.trans h.tape,k.output.trans h.output,Nat.le_trans h.size k.size,fun i hi hne=>(k.block i (Nat.lt_of_lt_of_le hi h.size) hne).trans (h.block i hi (by simp))⟩
theorem z43a {P:Prop} (h:P:=by
  intro g cap w' k1 k2 k3 k4;exact h g cap w' k1 (M5 (World.grownBy_alloc W _ none) k2) k3 k4):P:=h
theorem z4ya {P:Prop} (h:P:=by simp;omega):P:=h
theorem Kj{P:Program}{ops:Array Oper}{rest:List Oper}{o:Oper}{a:Act}{Q:Exit->Act->World->Prop}(W:World)(cs:Array Value)(e:TypeId)(hgd:o.guard=none)(s x:Operand)(t:TypeId)
  (ho:o.op=.call { callee:=.builtin .append,args:=#[s,x],argTypes:=#[t,t] })
  (base size bytes:Nat) (z:Value) (ht:P.underlying t=some (.slice e)) (hinfo:(P.info? e).map (fun i=>(i.zero,i.size,i.bytes))=some (some z,size,bytes))
  (hzs:z.cells.size=size) (hsz:0<size)
  (v:Value) (n:Nat) (xs:List Value) (hs:a.eval s=v) (hx:a.eval x=.slice (some ⟨W.heap.size,0,none⟩) 1 1)
  (hown:W.ownsRow base e size v n xs) (hl:cs.size=size) (h1:∀u∈cs.toList,u.oneCell'=true)
  (hn:n<=1000000) (hby:bytes<=1000) (hbase:base<=W.heap.size)
  (h:∀g cap w',w'.ownsRow base e size (.slice (some ⟨g,0,none⟩) (n+1) cap) (n+1) (xs++cs.toList)->W.grownBy w' v.ownBlock->(v.ownBlock=some g\/g=W.heap.size+1)->g<w'.heap.size->
   wpList P ops Q rest (a.put o.dst (.slice (some ⟨g,0,none⟩) (n+1) cap)) w'):wpList P ops Q (o::rest) a (W.alloc (.cells cs e)):=by
 obtain⟨i,hi,Hw,By,C5⟩:=info_parts hinfo;have hb:=Nat.mul_le_mul (show n+1<=1000001 by omega) hby;refine wpList_append_lies (P:=P) (W.alloc (.cells cs e)) hgd s x t ho base e i z size bytes ht hi Hw By C5 hzs hsz v n xs hs (hown.alloc _) ⟨W.heap.size,0,none⟩ 1 1 cs.toList hx (by simp[hl])
  (World.news_of_block (heap_alloc_new W _)) h1 z4va (by simp only[maxLen];omega) z4va z4ya (W.heap.size+1) (by simp) ?_
 exact z43a
def Ja(b:UInt8):Value:=.int .u8 b.toNat
theorem L7{c d:UInt8}{n:Int}(hd:(d.toNat:Int)=n)(h:c≠d):((c.toNat:Int)==n)=false:=by
 rw[beq_eq_false_iff_ne];intro e;apply h;apply UInt8.toNat_inj.1;omega
theorem Mz{c d:UInt8}{n:Int}(hd:(d.toNat:Int)=n)(h:c=d):((c.toNat:Int)==n)=true:=by
 subst h;rw[beq_iff_eq];exact hd
theorem Zt{c d:UInt8}{n:Int}(hd:(d.toNat:Int)=n)(h:c≠d):((c.toNat:Int) !=n)=true:=by
 rw[bne,L7 hd h];rfl
theorem Zu{c d:UInt8}{n:Int}(hd:(d.toNat:Int)=n)(h:c=d):((c.toNat:Int) !=n)=false:=by
 rw[bne,Mz hd h];rfl
theorem Pk(l:List UInt8)(k:Nat)(h:k<(⟨l.toArray⟩:ByteArray).size):((⟨l.toArray⟩:ByteArray)[k]'h)=l[k]'(by simpa [ByteArray.size]using h):=by
 rfl
theorem Sb(l:List UInt8)(i j:Nat):(⟨l.toArray⟩:ByteArray).extract i j=⟨((l.drop i).take (j-i)).toArray⟩:=by
 apply ByteArray.ext;simp[ByteArray.data_extract]
theorem A5{w:World}{g:Nat}{o:Obj}(h:w.heap[g]?=some o):g<w.heap.size:=by
 rcases Nat.lt_or_ge g w.heap.size with h'|h'
 ·exact h'
 ·rw[Array.getElem?_eq_none h']at h;cases h
theorem B4{w w':World}{base:Nat}{e:TypeId}{size:Nat}{v:Value}{n:Nat}{xs:List Value}(h:w.ownsRow base e size v n xs)(hb:∀g,v.ownBlock=some g->g<w.heap.size->w'.heap[g]?=w.heap[g]?):w'.ownsRow base e size v n xs:=by
 obtain⟨h1,h2⟩:=h;refine⟨h1,?_⟩;rcases h2 with h2|⟨g,cap,cur,rfl,hg,hh,r⟩
 ·exact .inl h2
 ·exact .inr ⟨g,cap,cur,rfl,hg,(hb g rfl (A5 hh)).trans hh,r⟩
theorem Qz{w w':World}{base:Nat}{e:TypeId}{size:Nat}{v:Value}{n:Nat}{xs:List Value}(h:w.ownsRow base e size v n xs)(hb:Below w.heap.size w w'):w'.ownsRow base e size v n xs:=
 B4 h fun g _ hg=>hb.block g hg
theorem Bn{w:World}{base:Nat}{e:TypeId}{size:Nat}{v:Value}{n:Nat}{xs:List Value}(h:w.ownsRow base e size v n xs):∀g,v.ownBlock=some g->g<w.heap.size:=by
 intro k hk;rcases h.2 with⟨rfl,_⟩|⟨g,cap,cur,rfl,_,hh,_⟩
 ·simp[Value.ownBlock]at hk
 ·simp[Value.ownBlock]at hk;rw[←hk];exact A5 hh
theorem Uo{w:World}{base:Nat}{e:TypeId}{size:Nat}{v:Value}{n:Nat}{xs:List Value}(h:w.ownsRow base e size v n xs)(a:Addr)(u:Value)(hne:v.ownBlock≠some a.block):(w.setCell a u).ownsRow base e size v n xs:=
 B4 h fun g hg _=>Below.heap_setCell w a u g (fun e=>hne (by rw[hg,e]))
theorem C9{w:World}{base:Nat}{e:TypeId}{size n:Nat}{va:Option Addr}{vn vc:Nat}{xs:List Value}(h:w.ownsRow base e size (.slice va vn vc) n xs) :
  vn=n/\(va=none->vn=0/\vc=0)/\xs.length=n*size/\∀b,va=some b->∀j u,xs[j]?=some u->w.cell? (b.add j)=some u:=by
 obtain⟨hl,h1|⟨g,cap,cur,hv,_,hg,_,_,_,ht⟩⟩:=h
 ·obtain⟨h2,h3⟩:=h1;injection h2 with e1 e2 e3;subst e1 e2 e3 h3;exact⟨rfl,(fun _=>⟨rfl,rfl⟩),hl,fun b hb=>by cases hb⟩
 ·injection hv with e1 e2 e3;subst e1 e2 e3;refine⟨rfl,(fun h=>by cases h),hl,fun b hb j u hu=>?_⟩;injection hb with hb;subst hb;refine World.news_of_block hg j u ?_;rw[←ht,List.getElem?_take]at hu;split at hu
  ·exact hu
  ·cases hu
theorem l6(l:List UInt8)(hd:∀c∈l,De c=true):∀a:Int,0<=a->a<=Hr a l:=by
 induction l with
 | nil=>intro a _;exact Int.le_refl _
 | cons c r ih=>
  intro a ha;have hc:=hd c (by simp);simp only[De,Bool.and_eq_true,decide_eq_true_eq]at hc;have:=ih (fun x hx=>hd x (by simp[hx])) (10*a+((c.toNat:Int)-48)) z4va;rw[Hr];omega
theorem Sg:(Tryz.prog.info? 5).map (fun i=>(i.zero,i.size,i.bytes))=some (some (.int .u8 0),1,1):=by kernel_rfl
theorem Wc{w:World}{base:Nat}{v:Value}{bs:List UInt8}(h:w.ownsRow base 5 1 v bs.length (bs.map Ja)) :
  (convert 85 9 v).run Tryz.prog w=.ok (.string ⟨bs.toArray⟩) w:=by
 rcases h.2 with⟨rfl,h0⟩|⟨g,cap,cur,rfl,hb,hg,hc1,He,hsz,ht⟩
 ·have:bs=[]:=List.length_eq_zero_iff.1 h0;subst this;rw[run_convert_bytes_string w 85 9 5 none 0 0 Tryz.underlying85 Tryz.underlying5 Tryz.underlying9];rfl
 ·refine run_convert_bytes_back w 85 9 5 ⟨g,0,none⟩ cap bs Tryz.underlying85 Tryz.underlying5 Tryz.underlying9 ?_;intro j hj;rw[Addr.add_lit,cell_of_row w g (0+j) cur 5 (0,0) hg];have e:cur.toList[j]?=(bs.map Ja)[j]?:=by
   rw[←ht,List.getElem?_take,if_pos z4va]
  rw[Nat.zero_add,←Array.getElem?_toList,e];simp[hj,Ja]
theorem Aep(c:UInt8):(decide (48<=(c.toNat:Int))&&decide ((c.toNat:Int)<=57))=De c:=by
 unfold De;congr 1 <;> (apply decide_eq_decide.2;omega)
theorem Aeq(c:UInt8):((decide (97<=(c.toNat:Int))&&decide ((c.toNat:Int)<=122))||(decide (65<=(c.toNat:Int))&&decide ((c.toNat:Int)<=90)))=isLet c:=by
 unfold isLet;congr 1 <;> congr 1 <;> (apply decide_eq_decide.2;omega)
theorem Aow(l:List UInt8)(i:Nat)(hi:i<l.length)(hd:De l[i]=true) :
  F5 (l.drop i)=match numOf ((l.drop i).takeWhile De) with
   | some n=>some (⟨2,0,[],n⟩,((l.drop i).takeWhile De).length)
   | none=>none:=by
 rw[List.drop_eq_getElem_cons hi,F5,if_pos hd];cases numOf ((l[i]::l.drop (i+1)).takeWhile De) <;> rfl
theorem Aox(l:List UInt8)(i:Nat)(hi:i<l.length)(hd:De l[i]=false)(ha:isLet l[i]=true) :
  F5 (l.drop i)=if Lw ((l.drop i).takeWhile Ec) !=0 then some (⟨Lw ((l.drop i).takeWhile Ec),0,[],0⟩,((l.drop i).takeWhile Ec).length)
   else if((l.drop i).takeWhile Ec).length<=16 then some (⟨1,0,(l.drop i).takeWhile Ec,0⟩,((l.drop i).takeWhile Ec).length) else none:=by
 rw[List.drop_eq_getElem_cons hi,F5,if_neg (by simp[hd]),if_pos ha]
theorem Aoy(l:List UInt8)(i:Nat)(hi:i<l.length)(hc:l[i]=34) :
  F5 (l.drop i)=match quot false (l.drop (i+1)) with
   | some x=>some (⟨3,0,x.1,0⟩,x.2+1)
   | none=>none:=by
 rw[List.drop_eq_getElem_cons hi,F5,if_neg (by rw[hc];decide),if_neg (by rw[hc];decide),if_pos (by rw[hc];rfl)];cases quot false (l.drop (i+1)) <;> rfl
theorem Aoz(l:List UInt8)(i:Nat)(hi:i<l.length)(hd:De l[i]=false)(ha:isLet l[i]=false)(hc:l[i]≠34) :
  F5 (l.drop i)=if(Gn (l.drop i)).2==0 then none else some (⟨(Gn (l.drop i)).1,0,[],0⟩,(Gn (l.drop i)).2):=by
 rw[List.drop_eq_getElem_cons hi,F5,if_neg (by simp[hd]),if_neg (by simp[ha]),if_neg (by simpa using hc)]
end
section
theorem A4k(p:UInt8->Bool)(l:List UInt8)(i:Nat):(l.drop i).takeWhile p=(l.drop i).take (i-i)++(l.drop i).takeWhile p:=by simp
theorem A4l(p:UInt8->Bool)(l:List UInt8)(i k:Nat)(hk:i<=k)(hlt:k<l.length)(hp:p l[k]=true)(h:(l.drop i).takeWhile p=(l.drop i).take (k-i)++(l.drop k).takeWhile p) :
  (l.drop i).takeWhile p=(l.drop i).take (k+1-i)++(l.drop (k+1)).takeWhile p:=by
 rw[h,List.drop_eq_getElem_cons hlt,List.takeWhile_cons,hp];rw[show k+1-i=(k-i)+1 by omega,List.take_succ_eq_append_getElem z4ya];simp[show i+(k-i)=k by omega]
theorem V7(p:UInt8->Bool)(l:List UInt8)(i k:Nat)(hp:∀h:k<l.length,p l[k]=false)(h:(l.drop i).takeWhile p=(l.drop i).take (k-i)++(l.drop k).takeWhile p) :
  (l.drop i).takeWhile p=(l.drop i).take (k-i):=by
 rw[h];by_cases hlt:k<l.length
 ·rw[List.drop_eq_getElem_cons hlt,List.takeWhile_cons,hp hlt];simp
 ·have:l.drop k=[]:=List.drop_of_length_le z4va;rw[this];simp
def spell(k:Nat):List UInt8:=
 if k=4 then [102,110] else if k=5 then [108,101,116] else if k=6 then [105,102] else if k=7 then [101,108,115,101]
 else if k=8 then [119,104,105,108,101] else if k=9 then [114,101,116,117,114,110] else if k=10 then [98,114,101,97,107]
 else if k=11 then [99,111,110,116,105,110,117,101] else if k=12 then [112,114,105,110,116] else if k=13 then [116,114,117,101]
 else if k=14 then [102,97,108,115,101] else if k=15 then [110,117,108,108] else if k=16 then [108,101,110] else if k=17 then [112,117,115,104]
 else if k=18 then [40] else if k=19 then [41] else if k=20 then [123] else if k=21 then [125] else if k=22 then [91] else if k=23 then [93]
 else if k=24 then [44] else if k=25 then [59] else if k=26 then [61] else if k=27 then [61,61] else if k=28 then [33] else if k=29 then [33,61]
 else if k=30 then [60] else if k=31 then [60,61] else if k=32 then [62] else if k=33 then [62,61] else if k=34 then [43] else if k=35 then [45]
 else if k=36 then [42] else if k=37 then [47] else if k=38 then [37] else if k=39 then [38,38] else if k=40 then [124,124] else []
theorem ifs{x:Bool}{n m:Nat}{P:Nat->Prop}(h1:x=true->P n)(h2:x=false->P m):P (if x=true then n else m):=by
 cases x
 ·simpa using h2 rfl
 ·simpa using h1 rfl
theorem Alr(c d:UInt8)(h:Kg c d≠0):spell (Kg c d)=[c,d]/\18<=Kg c d/\Kg c d<=40:=by
 revert h;unfold Kg;iterate 6 (refine ifs (P:=fun k=>k≠0->spell k=[c,d]/\18<=k/\k<=40) (fun e _=>?_) (fun _=>?_);· rw[Bool.and_eq_true]at e;rw[eq_of_beq e.1,eq_of_beq e.2];decide)
 intro h;exact absurd rfl h
theorem A3x(c:UInt8)(h:Ir c≠0):spell (Ir c)=[c]/\18<=Ir c/\Ir c<=40:=by
 revert h;unfold Ir;iterate 17 (refine ifs (P:=fun k=>k≠0->spell k=[c]/\18<=k/\k<=40) (fun e _=>?_) (fun _=>?_);· rw[eq_of_beq e];decide)
 intro h;exact absurd rfl h
theorem Als(l:List UInt8)(h:(Gn l).2≠0):spell (Gn l).1=l.take (Gn l).2/\18<=(Gn l).1/\(Gn l).1<=40/\(Gn l).2<=l.length:=by
 match l,h with
 | [],h=>exact absurd rfl h
 | [c],h=>
  rw[Gn]at h ⊢;cases e:Ir c==0
  ·have:=A3x c (by simpa using e);simp[this]
  ·simp[e]at h
 | c::d::r,h=>
  rw[Gn]at h ⊢;cases e2:Kg c d !=0
  ·cases e:Ir c==0
   ·have:=A3x c (by simpa using e);simp[this]
   ·simp[e,e2]at h
  ·have:=Alr c d (by simpa using e2);simp[this]
end
end Go.Proofs.YtjdlndhfaaolaaaGreatDoor
