import Derived.Test.YtjdlndhfaaolaaaGreatDoorY05
set_option maxHeartbeats 20000000
set_option linter.defProp false
namespace Go.RowKit
def Hid.o{p:Prop}(h:Hid p):p:=h.out
end Go.RowKit
namespace Go.Proofs.YtjdlndhfaaolaaaGreatDoor
section
open Go.RowKit
def Ave(l:List UInt8)(i:Nat)(hi:i<l.length)(hc:l[i]=34) :
  Fq (l.drop i)=match quot false (l.drop (i+1)) with
   | some x=>some (⟨3,0,x.1,0⟩,x.2+1)
   | none=>none:=by
 rw[Gk hi,Fq,A1 (by rw[hc];decide),A1 (by rw[hc];decide),A7 (by rw[hc];rfl)];cases quot false (l.drop (i+1)) <;> rfl
def Avf(l:List UInt8)(i:Nat)(hi:i<l.length)(hd:E5 l[i]=false)(ha:isLet l[i]=false)(hc:l[i]≠34) :
  Fq (l.drop i)=if(I9 (l.drop i)).2==0 then none else some (⟨(I9 (l.drop i)).1,0,[],0⟩,(I9 (l.drop i)).2):=by
 rw[Gk hi,Fq,A1 (by simp[hd]),A1 (by simp[ha]),A1 (by simpa using hc)]
def A0{p:Prop}(h:p):Hid p:=h
def Wg{a b:Bool}(h:a=b):Ending.returned (.bool a)=.returned (.bool b):=by rw[h]
def A22{k:IntKind}{a b:Int}(h:a=b):Ending.returned (.int k a)=.returned (.int k b):=by rw[h]
def Oh{a b c:World}{r:Option Nat}(h:a.grownBy b none)(k:b.grownBy c r):a.grownBy c r:=
 ⟨k.os.trans h.os,k.tape.trans h.tape,k.output.trans h.output,Fu h.size k.size,fun i hi hne=>(k.block i (Cb hi h.size) hne).trans (h.block i hi (by simp))⟩
def z4qa {P:Prop} (h:P:=by simp;omega):P:=h
def z64a {P:Prop} (h:P:=by simp only[maxLen];omega):P:=h
def Lh{P:Program}{ops:Array Oper}{rest:List Oper}{o:Oper}{a:Act}{Q:Exit->Act->World->Prop}(W:World)(cs:Array Value)(e:TypeId)(hgd:o.guard=none)(s x:Operand)(t:TypeId)
  (ho:o.op=.call { callee:=.builtin .append,args:=#[s,x],argTypes:=#[t,t] })
  (base size bytes:Nat) (z:Value) (ht:P.underlying t=some (.slice e)) (hinfo:(P.info? e).map (fun i=>(i.zero,i.size,i.bytes))=some (some z,size,bytes))
  (hzs:z.cells.size=size) (hsz:0<size)
  (v:Value) (n:Nat) (xs:List Value) (hs:a.eval s=v) (hx:a.eval x=.slice (some ⟨W.heap.size,0,none⟩) 1 1)
  (hown:W.ownsRow base e size v n xs) (hl:cs.size=size) (h1:∀u∈cs.toList,u.oneCell'=true)
  (hn:n<=1000000) (hby:bytes<=1000) (hbase:base<=W.heap.size)
  (h:∀g cap w',w'.ownsRow base e size (.slice (some ⟨g,0,none⟩) (n+1) cap) (n+1) (xs++cs.toList)->W.grownBy w' v.ownBlock->(v.ownBlock=some g\/g=W.heap.size+1)->g<w'.heap.size->
   wpList P ops Q rest (a.put o.dst (.slice (some ⟨g,0,none⟩) (n+1) cap)) w'):wpList P ops Q (o::rest) a (W.alloc (.cells cs e)):=by
 obtain⟨i,hi,I6,Cu,Dg⟩:=Qr hinfo;have hb:=Z7 (show n+1<=1000001 by omega) hby;refine wpList_append_lies (P:=P) (W.alloc (.cells cs e)) hgd s x t ho base e i z size bytes ht hi I6 Cu Dg hzs hsz v n xs hs (hown.alloc _) ⟨W.heap.size,0,none⟩ 1 1 cs.toList hx (by simp[hl])
  (Wz (Bp W _)) h1 z4ma z64a z4ma z4qa (W.heap.size+1) (by simp) ?_
 intro g cap w' k1 k2 k3 k4;exact h g cap w' k1 (Oh (Oo W _ none) k2) k3 k4
def J5(b:UInt8):Value:=.int .u8 b.toNat
def Ng{c d:UInt8}{n:Int}(hd:(d.toNat:Int)=n)(h:c≠d):((c.toNat:Int)==n)=false:=by
 rw[Am];intro e;apply h;apply UInt8.toNat_inj.1;omega
def Pe{c d:UInt8}{n:Int}(hd:(d.toNat:Int)=n)(h:c=d):((c.toNat:Int)==n)=true:=by
 subst h;rw[Fh];exact hd
def A4t{c d:UInt8}{n:Int}(hd:(d.toNat:Int)=n)(h:c≠d):((c.toNat:Int) !=n)=true:=by
 rw[bne,Ng hd h];rfl
def A4u{c d:UInt8}{n:Int}(hd:(d.toNat:Int)=n)(h:c=d):((c.toNat:Int) !=n)=false:=by
 rw[bne,Pe hd h];rfl
def Sn(l:List UInt8)(k:Nat)(h:k<(⟨l.toArray⟩:ByteArray).size):((⟨l.toArray⟩:ByteArray)[k]'h)=l[k]'(by simpa [ByteArray.size]using h):=by
 rfl
def U4(l:List UInt8)(i j:Nat):(⟨l.toArray⟩:ByteArray).extract i j=⟨((l.drop i).take (j-i)).toArray⟩:=by
 apply ByteArray.ext;simp[ByteArray.data_extract]
def A6{w:World}{g:Nat}{o:Obj}(h:w.heap[g]?=some o):g<w.heap.size:=by
 rcases N2 g w.heap.size with h'|h'
 ·exact h'
 ·rw[Aar h']at h;cases h
def Bc{w w':World}{base:Nat}{e:TypeId}{size:Nat}{v:Value}{n:Nat}{xs:List Value}(h:w.ownsRow base e size v n xs)(hb:∀g,v.ownBlock=some g->g<w.heap.size->w'.heap[g]?=w.heap[g]?):w'.ownsRow base e size v n xs:=by
 obtain⟨h1,h2⟩:=h;refine⟨h1,?_⟩;rcases h2 with h2|⟨g,cap,cur,rfl,hg,hh,r⟩
 ·exact .inl h2
 ·exact .inr ⟨g,cap,cur,rfl,hg,(hb g rfl (A6 hh)).trans hh,r⟩
def Kp{w w':World}{base:Nat}{e:TypeId}{size:Nat}{v:Value}{n:Nat}{xs:List Value}(h:w.ownsRow base e size v n xs)(hb:Bw w w'):w'.ownsRow base e size v n xs:=
 Bc h fun g _ hg=>hb.block g hg
def Bs{w:World}{base:Nat}{e:TypeId}{size:Nat}{v:Value}{n:Nat}{xs:List Value}(h:w.ownsRow base e size v n xs):∀g,v.ownBlock=some g->g<w.heap.size:=by
 intro k hk;rcases h.2 with⟨rfl,_⟩|⟨g,cap,cur,rfl,_,hh,_⟩
 ·simp[Value.ownBlock]at hk
 ·simp[Value.ownBlock]at hk;rw[←hk];exact A6 hh
def Yi{w:World}{base:Nat}{e:TypeId}{size:Nat}{v:Value}{n:Nat}{xs:List Value}(h:w.ownsRow base e size v n xs)(a:Addr)(u:Value)(hne:v.ownBlock≠some a.block):(w.setCell a u).ownsRow base e size v n xs:=
 Bc h fun g hg _=>Bh w a u g (fun e=>hne (by rw[hg,e]))
def Cm{w:World}{base:Nat}{e:TypeId}{size n:Nat}{va:Option Addr}{vn vc:Nat}{xs:List Value}(h:w.ownsRow base e size (.slice va vn vc) n xs) :
  vn=n/\(va=none->vn=0/\vc=0)/\xs.length=n*size/\∀b,va=some b->∀j u,xs[j]?=some u->w.cell? (b.add j)=some u:=by
 obtain⟨hl,h1|⟨g,cap,cur,hv,_,hg,_,_,_,ht⟩⟩:=h
 ·obtain⟨h2,h3⟩:=h1;injection h2 with e1 e2 e3;subst e1 e2 e3 h3;exact⟨rfl,(fun _=>⟨rfl,rfl⟩),hl,fun b hb=>by cases hb⟩
 ·injection hv with e1 e2 e3;subst e1 e2 e3;refine⟨rfl,(fun h=>by cases h),hl,fun b hb j u hu=>?_⟩;injection hb with hb;subst hb;refine Wz hg j u ?_;rw[←ht,Te]at hu;split at hu
  ·exact hu
  ·cases hu
