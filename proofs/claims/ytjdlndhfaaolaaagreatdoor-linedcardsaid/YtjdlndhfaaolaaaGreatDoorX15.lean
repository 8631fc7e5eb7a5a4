import Derived.Lib.ItoaNum
import Derived.Test.YtjdlndhfaaolaaaGreatDoorX03
import Derived.Test.YtjdlndhfaaolaaaGreatDoorX09
set_option maxHeartbeats 20000000
namespace Go.Proofs.YtjdlndhfaaolaaaGreatDoor
section
open Go.Deep (BT)
def PV.same(a b:PV):Bool:=a.k==b.k&&a.y==b.y&&a.n==b.n&&a.t==b.t&&a.r==b.r
def ofBool(b:Bool):PV:=⟨1,b,0,[],none⟩
def ofInt(n:Int):PV:=⟨2,false,n,[],none⟩
def ofStr(t:List UInt8):PV:=⟨3,false,0,t,none⟩
def Oi(i:Nat):PV:=⟨4,false,0,[],some i⟩
structure Kn where
 kind:Bool
 whole:Bool
 like:PV
structure Form where
 slots:Nat
 steps:List Af
 bet:List Kn
structure Fs where
 calls:Nat
 form:Option Form
 fast:Nat
 drops:Nat
structure Da where
 fn:Int
 after:Int
 kinds:List Int
 ints:List Int
structure Fr where
 steps:List Af
 pc:Nat
 base:Int
structure MS where
 vals:List PV
 gl:List PV
 calls:List Fr
 now:Fr
 fuel:Nat
 cells:Nat
 out:List (List UInt8)
 code:Nat
 line:Nat
 arr:List (List PV)
 lots:List Fs
def MS.push(v:PV)(m:MS):MS:={ m with vals:=m.vals++[v] }
def MS.top(m:MS):PV:=m.vals.getLastD Bp
def MS.at'(m:MS)(i:Int):PV:=if i<0 then Bp else(m.vals[i.toNat]?).getD Bp
def MS.pop(m:MS):MS:={ m with vals:=m.vals.dropLast }
def MS.put(i:Int)(v:PV)(m:MS):MS:={ m with vals:=if i<0 then m.vals else m.vals.set i.toNat v }
def MS.cut(n:Int)(m:MS):MS:={ m with vals:=if n<0 then m.vals else m.vals.take n.toNat }
def MS.fail(c:Nat)(i:Af)(m:MS):MS:={ m with code:=c,line:=i.line }
def MS.jump(a:Int)(m:MS):MS:={ m with now:=⟨m.now.steps,a.toNat,m.now.base⟩ }
def Jz(f:List UInt8->PV->List UInt8):Bool->List UInt8->List PV->List UInt8
 | _,l,[]=>l++[93]
 | b,l,v::r=>if 500<l.length then l else Jz f true (f (if b then l++[44] else l) v) r
def Dr(arr:List (List PV)):Nat->List UInt8->PV->List UInt8
 | n,l,v=>
  if v.k=1 then l++(if v.y then [116,114,117,101] else [102,97,108,115,101])
  else if v.k=2 then l++Lib.itoa v.n
  else if v.k=3 then l++v.t
  else if v.k=4 then
   match n with
   | 0=>l++[91,46,46,93]
   | n+1=>Jz (fun l' v'=>Dr arr n l' v') false (l++[91]) ((arr[v.r.getD 0]?).getD [])
  else l++[110,117,108,108]
def N1:Kn:=⟨false,false,Bp⟩
def N0(k:Nat):Kn:=⟨true,false,⟨k,false,0,[],none⟩⟩
def Rp(v:PV):Kn:=⟨true,true,v⟩
def Kn.is(k:Kn)(v:PV):Bool:=if k.whole then v.same k.like else !k.kind||v.k==k.like.k
def Kn.sure(k:Kn)(kd:Nat):Bool:=k.kind&&k.like.k==kd
def R8(b:Da)(i:Nat):Kn:=
 match b.kinds[i]? with
 | none=>N1
 | some k=>if k=1 then N0 2 else if k=2 then N0 3 else if k=3 then N0 1 else if k=4 then Rp Bp else if k=5 then N0 4
  else if k=6 then Rp (ofInt ((b.ints[i]?).getD 0)) else N1
def Tu:List Af->List Kn->List Kn
 | [],ks=>ks
 | i::r,ks=>Tu r (if i.op=3/\i.arg<ks.length then ks.set i.arg.toNat N1 else ks)
def Rs(params:List Kn)(i:Af):Kn:=if i.op=1 then(params[i.arg.toNat]?).getD N1 else N1
def Mk(ab:List Kn):Kn:=ab.getLastD N1
def Z9(ab:List Kn):Kn:=ab.dropLast.getLastD N1
def Kb(ab:List Kn)(kd:Nat):Bool:=(Mk ab).sure kd&&(Z9 ab).sure kd
def Pg(o:Nat):Nat:=
 if o=12 then 13 else if o=15 then 16 else if o=17 then 18 else if o=19 then 20 else if o=21 then 22 else if o=28 then 32 else if o=29 then 33 else if o=30 then 34 else if o=31 then 35 else o
def quick(params ab:List Kn)(i:Af):Af:=
 if(Rs params i).whole then⟨0,0,0,(Rs params i).like⟩
 else
  let o1:=if i.op=12/\Kb ab 3=true then 14 else i.op
  let o2:=if o1=23/\(Mk ab).sure 2=true then 24 else o1
  ⟨if Kb ab 2 then Pg o2 else o2,i.arg,i.line,i.v⟩
def Alz(ab:List Kn):Kn:=if(Mk ab).sure 2||(Z9 ab).sure 2 then N0 2 else if(Mk ab).sure 3||(Z9 ab).sure 3 then N0 3 else N1
def Ad7(params ab:List Kn)(i:Af):Option Kn:=
 if i.op=0 then some (Rp i.v)
 else if i.op=1\/i.op=2\/i.op=42\/i.op=39 then some (Rs params i)
 else if i.op=12 then some (Alz ab)
 else if i.op=15\/i.op=17\/i.op=19\/i.op=21\/i.op=23\/i.op=37 then some (N0 2)
 else if i.op=25\/i.op=26\/i.op=27\/i.op=28\/i.op=29\/i.op=30\/i.op=31\/i.op=11 then some (N0 1)
 else if i.op=36 then some (N0 4)
 else if i.op=38 then some (Mk ab)
 else none
def Ama(P:D5)(i:Af):Int:=
 if i.op=0\/i.op=1\/i.op=2\/i.op=6\/i.op=43 then 0
 else if i.op=36 then i.arg
 else if i.op=42 then(match P.fns[i.arg.toNat]? with|some f=>(f.params:Nat)|none=>0)
 else if i.op=40 then 3
 else if i.op=12\/i.op=15\/i.op=17\/i.op=19\/i.op=21\/i.op=38\/i.op=39\/i.op=25\/i.op=26\/i.op=28\/i.op=29\/i.op=30\/i.op=31 then 2
 else 1
def Aaq(n:Int)(ab:List Kn):List Kn:=if n<0 then ab else ab.take n.toNat
def follow(P:D5)(params ab:List Kn)(i:Af):List Kn:=
 let c:=Aaq ((ab.length:Nat)-Ama P i) ab
 match Ad7 params ab i with
 | some k=>c++[k]
 | none=>c
def S8(P:D5)(params:List Kn):List Kn->List Af->List Af
 | _,[]=>[]
 | ab,i::r=>quick params ab i::S8 P params (follow P params ab i) r
def Y0(P:D5)(b:Da)(f:Fn):Form:=
 let ks:=(List.range f.params).map (R8 b)
 ⟨f.slots,S8 P (Tu f.steps ks) [] f.steps,ks⟩
def MS.J6(i:Af)(m:MS)(k:MS->MS):MS:=if m.fuel=0 then m.fail 8 i else k { m with fuel:=m.fuel-1 }
def taken(n:Nat)(calls:Nat):List Da->Option Da
 | []=>none
 | b::r=>match taken n calls r with
  | some x=>some x
  | none=>if b.fn=(n:Nat)/\b.after=(calls:Nat) then some b else none
def Pb(m:MS):Int->List Kn->Bool
 | _,[]=>true
 | i,k::r=>k.is (m.at' i)&&Pb m (i+1) r
def Jw(n:Nat):List PV:=List.replicate n Bp
def MS.begin(slots:Nat)(steps:List Af)(args:Nat)(m:MS):MS:=
 { m with now:=⟨steps,0,(m.vals.length:Nat)-(args:Nat)⟩,vals:=m.vals++Jw (slots-args) }
def MS.Ks(n:Nat)(l:Fs)(m:MS):MS:={ m with lots:=m.lots.set n l }
def MS.body(P:D5)(bets:List Da)(n:Nat)(f:Fn)(m:MS):MS:=
 match m.lots[n]? with
 | none=>m
 | some l=>
  let fm:=match taken n l.calls bets with
   | some b=>some (Y0 P b f)
   | none=>l.form
  match fm with
  | none=>(m.Ks n ⟨l.calls+1,none,l.fast,l.drops⟩).begin f.slots f.steps f.params
  | some fo=>
   if Pb m ((m.vals.length:Nat)-(fo.bet.length:Nat)) fo.bet then(m.Ks n ⟨l.calls+1,some fo,l.fast+1,l.drops⟩).begin fo.slots fo.steps f.params
   else(m.Ks n ⟨l.calls+1,none,l.fast,l.drops+1⟩).begin f.slots f.steps f.params
def wr(n:Int):Int:=RowKit.wrap64 n
def MS.two(m:MS)(k:PV->PV->MS->MS):MS:=k m.pop.top m.top m.pop.pop
def MS.both(m:MS)(kd:Nat):Bool:=m.top.k==kd&&(m.at' ((m.vals.length:Nat)-2)).k==kd
def MS.ints(i:Af)(m:MS)(k:Int->Int->MS->MS):MS:=if m.both 2 then m.two (fun a b m'=>k a.n b.n m') else m.fail 5 i
def before(a b:PV):Bool:=decide (a.n<b.n)||Op.bytesLess a.t b.t
def sizeOf'(m:MS)(v:PV):Option Nat:=if v.k=3 then some v.t.length else if v.k=4 then some ((m.arr[v.r.getD 0]?).getD []).length else none
def MS.room(n:Int)(i:Af)(m:MS)(k:MS->MS):MS:=if(500:Int)-m.cells<n then m.fail 10 i else k { m with cells:=m.cells+n.toNat }
def MS.place(of p:PV)(i:Af)(m:MS)(k:MS->MS):MS:=
 match sizeOf' m of with
 | none=>m.fail 5 i
 | some n=>if p.k≠2 then m.fail 5 i else if p.n<0\/(n:Int)<=p.n then m.fail 7 i else k m
def MS.L8(i:Af)(m:MS):MS:=
 if 500<(Dr m.arr 4 [] m.top).length\/m.out.length=100 then m.pop.fail 10 i else { m.pop with out:=m.out++[Dr m.arr 4 [] m.top] }
def MS.join(i:Af)(m:MS):MS:=m.two fun a b m'=>if 100<a.t.length+b.t.length then m'.fail 10 i else m'.push (ofStr (a.t++b.t))
def Ax(P:D5)(bets:List Da)(i:Af)(m:MS):MS:=
 match i.op with
 | 0=>m.push i.v
 | 1=>m.push (m.at' (m.now.base+i.arg))
 | 2=>m.push ((m.gl[i.arg.toNat]?).getD Bp)
 | 3=>m.pop.put (m.now.base+i.arg) m.top
 | 4=>{ m.pop with gl:=m.gl.set i.arg.toNat m.top }
 | 5=>m.pop
 | 6=>m.jump i.arg
 | 7=>if m.top.y then m.pop.J6 i (fun m'=>if m.top.k=1 then m' else m'.fail 5 i) else if m.top.k=1 then m.pop.jump i.arg else m.pop.fail 5 i
 | 8=>if m.top.k=1 then(if m.top.y then m.pop else m.pop.jump i.arg) else m.pop.fail 5 i
 | 9=>if m.top.k=1 then(if m.top.y then m.pop else m.jump i.arg) else m.fail 5 i
 | 10=>if m.top.k=1 then(if m.top.y then m.jump i.arg else m.pop) else m.fail 5 i
 | 11=>if m.top.k=1 then m else m.fail 5 i
 | 12=>if m.both 3 then m.join i else m.ints i (fun a b m'=>m'.push (ofInt (wr (a+b))))
 | 13=>m.two fun a b m'=>m'.push (ofInt (wr (a.n+b.n)))
 | 14=>m.join i
 | 15=>m.ints i (fun a b m'=>m'.push (ofInt (wr (a-b))))
 | 16=>m.two fun a b m'=>m'.push (ofInt (wr (a.n-b.n)))
 | 17=>m.ints i (fun a b m'=>m'.push (ofInt (wr (a*b))))
 | 18=>m.two fun a b m'=>m'.push (ofInt (wr (a.n*b.n)))
 | 19=>m.ints i (fun a b m'=>if b=0 then m'.fail 6 i else m'.push (ofInt (wr (a.tdiv b))))
 | 20=>m.two fun a b m'=>if b.n=0 then m'.fail 6 i else m'.push (ofInt (wr (a.n.tdiv b.n)))
 | 21=>m.ints i (fun a b m'=>if b=0 then m'.fail 6 i else m'.push (ofInt (a.tmod b)))
 | 22=>m.two fun a b m'=>if b.n=0 then m'.fail 6 i else m'.push (ofInt (a.n.tmod b.n))
 | 23=>if m.top.k=2 then m.pop.push (ofInt (wr (-m.top.n))) else m.fail 5 i
 | 24=>m.pop.push (ofInt (wr (-m.top.n)))
 | 25=>m.two fun a b m'=>m'.push (ofBool (a.same b))
 | 26=>m.two fun a b m'=>m'.push (ofBool (!a.same b))
 | 27=>if m.top.k=1 then m.pop.push (ofBool (!m.top.y)) else m.pop.fail 5 i
 | 28=>if m.both 2||m.both 3 then m.two fun a b m'=>m'.push (ofBool (before b a)) else m.fail 5 i
 | 29=>if m.both 2||m.both 3 then m.two fun a b m'=>m'.push (ofBool (before a b)) else m.fail 5 i
 | 30=>if m.both 2||m.both 3 then m.two fun a b m'=>m'.push (ofBool (!before a b)) else m.fail 5 i
 | 31=>if m.both 2||m.both 3 then m.two fun a b m'=>m'.push (ofBool (!before b a)) else m.fail 5 i
 | 32=>m.two fun a b m'=>m'.push (ofBool (decide (b.n<a.n)))
 | 33=>m.two fun a b m'=>m'.push (ofBool (decide (a.n<b.n)))
 | 34=>m.two fun a b m'=>m'.push (ofBool (decide (b.n<=a.n)))
 | 35=>m.two fun a b m'=>m'.push (ofBool (decide (a.n<=b.n)))
 | 36=>m.room i.arg i fun m'=>
   let f:=(m'.vals.length:Int)-i.arg
   let m2:=m'.cut f
   { m2 with arr:=m'.arr++[(List.range i.arg.toNat).map (fun(j:Nat)=>m'.at' (f+j))] }.push (Oi m'.arr.length)
 | 37=>match sizeOf' m m.top with
  | some n=>m.pop.push (ofInt (n:Nat))
  | none=>m.pop.fail 5 i
 | 38=>m.two fun a b m'=>if a.k=4 then m'.room 1 i fun m2=>{ m2 with arr:=m2.arr.modify (a.r.getD 0) (·++[b]) }.push b else m'.fail 5 i
 | 39=>m.two fun a b m'=>m'.place a b i fun m2=>m2.push (if a.k=3 then ofStr ((a.t.drop b.n.toNat).take 1) else(((m2.arr[a.r.getD 0]?).getD [])[b.n.toNat]?).getD Bp)
 | 40=>m.pop.two fun a b m'=>if a.k=4 then m'.place a b i fun m2=>{ m2 with arr:=m2.arr.modify (a.r.getD 0) (·.set b.n.toNat m.top) } else m'.fail 5 i
 | 41=>m.L8 i
 | 42=>m.J6 i fun m'=>if m'.calls.length=40 then m'.fail 9 i else
   match P.fns[i.arg.toNat]? with
   | some f=>{ m' with calls:=m'.calls++[m'.now] }.body P bets i.arg.toNat f
   | none=>m'
 | 43=>{ (m.cut m.now.base).push Bp with now:=m.calls.getLastD ⟨[],0,0⟩,calls:=m.calls.dropLast }
 | 44=>{ (m.pop.cut m.now.base).push m.top with now:=m.calls.getLastD ⟨[],0,0⟩,calls:=m.calls.dropLast }
 | _=>m
def Kl(P:D5)(bets:List Da)(i:Af)(m:MS):MS:=Ax P bets i { m with now:=⟨m.now.steps,m.now.pc+1,m.now.base⟩ }
def Fm(P:D5)(bets:List Da):Nat->MS->Option MS
 | 0,_=>none
 | n+1,m=>if m.code≠0 then some m else match m.now.steps[m.now.pc]? with
  | none=>some m
  | some i=>Fm P bets n (Kl P bets i m)
def mstart(P:D5):MS:=
 MS.begin P.slots P.main 0 ⟨[],Jw P.globals,[],⟨[],0,0⟩,2000,0,[],0,0,[],List.replicate P.fns.length ⟨0,none,0,0⟩⟩
end
section
def Ht(n:Int):Prop:=-9223372036854775808<=n/\n<=9223372036854775807
theorem Ant(n:Int):Ht (wr n):=by unfold Ht wr RowKit.wrap64;omega
theorem A59{n:Int}(h:Ht n):wr n=n:=by unfold Ht at h;unfold wr RowKit.wrap64;omega
theorem A4n(a b:Int)(ha:Ht a):Ht (a.tmod b):=by
 unfold Ht at *;have:=Int.natAbs_tmod a b;have h3:0<=a->0<=a.tmod b:=fun h=>Int.tmod_nonneg b h;have h4:a<0->a.tmod b<=0:=fun h=>by
  have:=Int.tmod_nonneg b (show 0<=-a by omega);rw[Int.neg_tmod]at this;omega
 have h2:a.natAbs % b.natAbs<=a.natAbs:=Nat.mod_le _ _;omega
end
section
open Go.Deep (BT)
def Ef(v:PV):Prop:=v.t.length<=2000/\Ht v.n
def O0(b:Da):Prop:=∀n∈b.ints,Ht n
def M3(o:Nat):Prop:=o<=44
def Lu(N:Nat)(i:Af):Prop:=0<=i.arg/\i.arg<=20000/\i.v.r=none/\i.v.k≠4/\Ef i.v/\(i.op=42->i.arg.toNat<N)/\M3 i.op
def R2(N B:Nat)(fo:Form):Prop:=fo.slots<=B/\fo.bet.length<=B/\(∀i∈fo.steps,Lu N i)/\∀x∈fo.bet,x.like.r=none
def Oz(N B:Nat)(f:Fn):Prop:=f.slots<=B/\f.params<=f.slots/\∀i∈f.steps,Lu N i
def Oy(N B k:Nat)(f:Fr):Prop:=-(B:Int)<=f.base/\f.base<=k/\∀i∈f.steps,Lu N i
structure Px (B : Nat) (P : D5) : Prop where
 slots:P.slots<=B
 main:∀i∈P.main,Lu P.fns.length i
 fns:∀f∈P.fns,Oz P.fns.length B f
structure Inv (N B k : Nat) (m : MS) : Prop where
 vals:m.vals.length<=k
 str:∀v∈m.vals,Ef v
 gls:∀v∈m.gl,Ef v
 ars:∀l∈m.arr,∀v∈l,Ef v
 now:Oy N B k m.now
 calls:∀f∈m.calls,Oy N B k f
 lots:∀l∈m.lots,∀fo,l.form=some fo->R2 N B fo
 fuel:m.fuel<=2000
 depth:m.calls.length<=40
 out:m.out.length<=100
 cells:m.cells<=500
 arl:∀l∈m.arr,l.length<=m.cells
 lotn:m.lots.length=N
 lotc:∀l∈m.lots,l.calls<=k/\l.fast<=k/\l.drops<=k
variable {N B k:Nat} {m:MS} {P:D5} {bets:List Da}
theorem Oy.mono{k':Nat}{f:Fr}(h:Oy N B k f)(hk:k<=k'):Oy N B k' f:=⟨h.1,by have:=h.2.1;omega,h.2.2⟩
theorem Inv.mono{k':Nat}(h:Inv N B k m)(hk:k<=k'):Inv N B k' m:=
 ⟨by have:=h.vals;omega,h.str,h.gls,h.ars,h.now.mono hk,fun f hf=>(h.calls f hf).mono hk,h.lots,h.fuel,h.depth,h.out,h.cells,h.arl,h.lotn,fun l hl=>by have:=h.lotc l hl;omega⟩
theorem Ob:Ht 0:=⟨by decide,by decide⟩
theorem Pa:Ef Bp:=⟨by simp[Bp],Ob⟩
theorem Rk{n:Int}(h:Ht n):Ef (ofInt n):=⟨by simp[ofInt],h⟩
theorem My(n:Int):Ef (ofInt (wr n)):=Rk (Ant n)
theorem Mc(b:Bool):Ef (ofBool b):=⟨by simp[ofBool],Ob⟩
theorem z2fa {P:Prop} (h:P:=by
  rw[List.getElem?_eq_getElem q];exact h _ (List.getElem_mem q)):P:=h
theorem Rj{l:List PV}(h:∀v∈l,Ef v)(i:Nat):Ef ((l[i]?).getD Bp):=by
 rcases Nat.lt_or_ge i l.length with q|q
 ·exact z2fa
 ·rw[List.getElem?_eq_none q];exact Pa
theorem Inv.at'(h:Inv N B k m)(i:Int):Ef (m.at' i):=by
 unfold MS.at';split
 ·exact Pa
 ·exact Rj h.str _
theorem Inv.top(h:Inv N B k m):Ef m.top:=by
 unfold MS.top;rw[List.getLastD_eq_getLast?,List.getLast?_eq_getElem?];exact Rj h.str _
theorem Inv.push(h:Inv N B k m){v:PV}(hv:Ef v):Inv N B (k+1) (m.push v):=by
 have h':=h.mono (Nat.le_succ k);refine⟨by simp only[MS.push,List.length_append,List.length_singleton];have:=h.vals;omega,?_,h'.gls,h'.ars,h'.now,h'.calls,h'.lots,h'.fuel,h'.depth,h'.out,h'.cells,h'.arl,h'.lotn,h'.lotc⟩;intro u hu;simp only[MS.push,List.mem_append,List.mem_singleton]at hu;rcases hu with hu|rfl
 ·exact h.str u hu
 ·exact hv
theorem Inv.pop(h:Inv N B k m):Inv N B k m.pop:=
 ⟨by have:=h.vals;simp only[MS.pop,List.length_dropLast];omega,fun v hv=>h.str v (List.dropLast_subset _ hv),h.gls,h.ars,h.now,h.calls,h.lots,h.fuel,h.depth,h.out,h.cells,h.arl,h.lotn,h.lotc⟩
theorem Inv.fail(h:Inv N B k m)(c:Nat)(i:Af):Inv N B k (m.fail c i):=⟨h.vals,h.str,h.gls,h.ars,h.now,h.calls,h.lots,h.fuel,h.depth,h.out,h.cells,h.arl,h.lotn,h.lotc⟩
theorem Inv.jump(h:Inv N B k m)(a:Int):Inv N B k (m.jump a):=⟨h.vals,h.str,h.gls,h.ars,⟨h.now.1,h.now.2.1,h.now.2.2⟩,h.calls,h.lots,h.fuel,h.depth,h.out,h.cells,h.arl,h.lotn,h.lotc⟩
theorem Inv.cut(h:Inv N B k m)(n:Int):Inv N B k (m.cut n):=by
 refine⟨?_,?_,h.gls,h.ars,h.now,h.calls,h.lots,h.fuel,h.depth,h.out,h.cells,h.arl,h.lotn,h.lotc⟩
 ·have:=h.vals;simp only[MS.cut];split
  ·exact this
  ·simp only[List.length_take];omega
 ·intro v hv;simp only[MS.cut]at hv;split at hv
  ·exact h.str v hv
  ·exact h.str v (List.mem_of_mem_take hv)
theorem Inv.put(h:Inv N B k m)(n:Int){v:PV}(hv:Ef v):Inv N B k (m.put n v):=by
 refine⟨?_,?_,h.gls,h.ars,h.now,h.calls,h.lots,h.fuel,h.depth,h.out,h.cells,h.arl,h.lotn,h.lotc⟩
 ·have:=h.vals;simp only[MS.put];split
  ·exact this
  ·simp only[List.length_set];exact this
 ·intro u hu;simp only[MS.put]at hu;split at hu
  ·exact h.str u hu
  ·rcases List.mem_or_eq_of_mem_set hu with q|q
   ·exact h.str u q
   ·rw[q];exact hv
theorem Inv.J6(h:Inv N B k m)(i:Af){f:MS->MS}{k':Nat}(hk:k<=k')(hf:∀m',Inv N B k m'->Inv N B k' (f m')):Inv N B k' (m.J6 i f):=by
 unfold MS.J6;split
 ·exact(h.fail 8 i).mono hk
 ·exact hf _ ⟨h.vals,h.str,h.gls,h.ars,h.now,h.calls,h.lots,by have:=h.fuel;show m.fuel-1<=2000;omega,h.depth,h.out,h.cells,h.arl,h.lotn,h.lotc⟩
theorem Inv.room(h:Inv N B k m)(n:Int)(i:Af){f:MS->MS}{k':Nat}(hk:k<=k')(hf:∀m',Inv N B k m'->n.toNat<=m'.cells->(∀l∈m'.arr,l.length+n.toNat<=m'.cells)->Inv N B k' (f m')):Inv N B k' (m.room n i f):=by
 unfold MS.room;split
 ·exact(h.fail 10 i).mono hk
 ·exact hf _ ⟨h.vals,h.str,h.gls,h.ars,h.now,h.calls,h.lots,h.fuel,h.depth,h.out,by have:=h.cells;show m.cells+n.toNat<=500;omega,fun l hl=>by have:=h.arl l hl;show l.length<=m.cells+n.toNat;omega,h.lotn,h.lotc⟩ (by show n.toNat<=m.cells+n.toNat;omega) (fun l hl=>by have:=h.arl l hl;show l.length+n.toNat<=m.cells+n.toNat;omega)
theorem Inv.place(h:Inv N B k m)(of p:PV)(i:Af){f:MS->MS}{k':Nat}(hk:k<=k')(hf:∀m',Inv N B k m'->Inv N B k' (f m')):Inv N B k' (m.place of p i f):=by
 unfold MS.place;split
 ·exact(h.fail 5 i).mono hk
 ·split
  ·exact(h.fail 5 i).mono hk
  ·split
   ·exact(h.fail 7 i).mono hk
   ·exact hf _ h
theorem Inv.join(h:Inv N B k m)(i:Af):Inv N B (k+1) (m.join i):=by
 unfold MS.join MS.two;dsimp only;split
 ·exact((h.pop.pop).fail 10 i).mono (Nat.le_succ k)
 ·rename_i hn;refine h.pop.pop.push ⟨?_,Ob⟩;simp only[ofStr,List.length_append];omega
theorem Inv.ints(h:Inv N B k m)(i:Af){f:Int->Int->MS->MS}(hf:∀a b m',Ht a->Inv N B k m'->Inv N B (k+1) (f a b m')):Inv N B (k+1) (m.ints i f):=by
 unfold MS.ints MS.two;split
 ·exact hf _ _ _ h.pop.top.2 h.pop.pop
 ·exact(h.fail 5 i).mono (Nat.le_succ k)
theorem Inv.Sd(h:Inv N B k m){f:Fr}(hf:Oy N B k f):Inv N B k { m with now:=f }:=⟨h.vals,h.str,h.gls,h.ars,hf,h.calls,h.lots,h.fuel,h.depth,h.out,h.cells,h.arl,h.lotn,h.lotc⟩
theorem Inv.begin(h:Inv N B k m){slots args:Nat}{steps:List Af}(hs:slots<=B)(ha:args<=B)(hi:∀i∈steps,Lu N i):Inv N B (k+B) (m.begin slots steps args):=by
 have h':=h.mono (Nat.le_add_right k B);refine⟨?_,?_,h'.gls,h'.ars,⟨?_,?_,hi⟩,h'.calls,h'.lots,h'.fuel,h'.depth,h'.out,h'.cells,h'.arl,h'.lotn,h'.lotc⟩
 ·have:=h.vals;simp only[MS.begin,Jw,List.length_append,List.length_replicate];omega
 ·intro v hv;simp only[MS.begin,Jw,List.mem_append,List.mem_replicate]at hv;rcases hv with hv|⟨_,rfl⟩
  ·exact h.str v hv
  ·exact Pa
 ·simp only[MS.begin];omega
 ·have:=h.vals;simp only[MS.begin];omega
theorem Inv.Ks(h:Inv N B k m)(n:Nat){l:Fs}(hl:∀fo,l.form=some fo->R2 N B fo)(hc:l.calls<=k/\l.fast<=k/\l.drops<=k):Inv N B k (m.Ks n l):=by
 refine⟨h.vals,h.str,h.gls,h.ars,h.now,h.calls,?_,h.fuel,h.depth,h.out,h.cells,h.arl,by show(m.lots.set n l).length=N;rw[List.length_set];exact h.lotn,fun x hx=>?_⟩
 ·intro x hx;simp only[MS.Ks]at hx;rcases List.mem_or_eq_of_mem_set hx with q|q
  ·exact h.lots x q
  ·rw[q];exact hl
 ·simp only[MS.Ks]at hx;rcases List.mem_or_eq_of_mem_set hx with q|q
  ·exact h.lotc x q
  ·rw[q];exact hc
def Lx(x:Kn):Prop:=x.whole=true->x.like.r=none/\x.like.k≠4/\Ef x.like
theorem Rq:Lx N1:=by intro h;cases h
theorem Ae2(d:Nat):Lx (N0 d):=by intro h;cases h
theorem Ae4:Lx (Rp Bp):=fun _=>⟨rfl,by show(0:Nat)≠4;decide,Pa⟩
theorem Ae1{n:Int}(h:Ht n):Lx (Rp (ofInt n)):=fun _=>⟨rfl,by show(2:Nat)≠4;decide,Rk h⟩
theorem A8j{b:Da}(h:O0 b)(i:Nat):Ht ((b.ints[i]?).getD 0):=by
 rcases Nat.lt_or_ge i b.ints.length with q|q
 ·exact z2fa
 ·rw[List.getElem?_eq_none q];exact Ob
theorem Adz{b:Da}(hb:O0 b)(i:Nat):Lx (R8 b i):=by
 unfold R8;split
 ·exact Rq
 ·repeat' (first|exact Rq|exact Ae2 _|exact Ae4|exact Ae1 (A8j hb _)|split)
theorem Ae0{ks:List Kn}(h:∀x∈ks,Lx x)(i:Nat):Lx ((ks[i]?).getD N1):=by
 rcases Nat.lt_or_ge i ks.length with q|q
 ·exact z2fa
 ·rw[List.getElem?_eq_none q];exact Rq
theorem Ae3:∀(l:List Af) (ks:List Kn),(∀x∈ks,Lx x)->∀x∈Tu l ks,Lx x:=by
 intro l;induction l with
 | nil=>intro ks h;exact h
 | cons i r ih=>
  intro ks h;rw[Tu];refine ih _ ?_;split
  ·intro x hx;rcases List.mem_or_eq_of_mem_set hx with q|q
   ·exact h x q
   ·rw[q];exact Rq
  ·exact h
theorem Afg{o:Nat}(h:Pg o=42):o=42:=by
 unfold Pg at h;repeat (first|(split at h;cases h)|exact h)
theorem Ahf{i:Af}{ab:List Kn}(h:(if Kb ab 2=true then Pg (if(if i.op=12/\Kb ab 3=true then 14 else i.op)=23/\(Mk ab).sure 2=true then 24 else(if i.op=12/\Kb ab 3=true then 14 else i.op)) else(if(if i.op=12/\Kb ab 3=true then 14 else i.op)=23/\(Mk ab).sure 2=true then 24 else(if i.op=12/\Kb ab 3=true then 14 else i.op)))=42):i.op=42:=by
 have h2:(if(if i.op=12/\Kb ab 3=true then 14 else i.op)=23/\(Mk ab).sure 2=true then 24 else(if i.op=12/\Kb ab 3=true then 14 else i.op))=42:=by
  split at h
  ·exact Afg h
  ·exact h
 clear h;split at h2
 ·cases h2
 ·split at h2
  ·cases h2
  ·exact h2
theorem Afh{o:Nat}(h:M3 o):M3 (Pg o):=by
 unfold Pg;unfold M3 at *;repeat (first|(split;omega)|exact h)
theorem Ahg{i:Af}{ab:List Kn}(h:M3 i.op):M3 (if Kb ab 2=true then Pg (if(if i.op=12/\Kb ab 3=true then 14 else i.op)=23/\(Mk ab).sure 2=true then 24 else(if i.op=12/\Kb ab 3=true then 14 else i.op)) else(if(if i.op=12/\Kb ab 3=true then 14 else i.op)=23/\(Mk ab).sure 2=true then 24 else(if i.op=12/\Kb ab 3=true then 14 else i.op))):=by
 have h1:M3 (if i.op=12/\Kb ab 3=true then 14 else i.op):=by
  split
  ·unfold M3;omega
  ·exact h
 generalize (if i.op=12/\Kb ab 3=true then 14 else i.op)=o1 at *;have h2:M3 (if o1=23/\(Mk ab).sure 2=true then 24 else o1):=by
  split
  ·unfold M3;omega
  ·exact h1
 split
 ·exact Afh h2
 ·exact h2
theorem Acj{ps ab:List Kn}{i:Af}(hp:∀x∈ps,Lx x)(hi:Lu N i):Lu N (quick ps ab i):=by
 have hl:Lx (Rs ps i):=by
  unfold Rs;split
  ·exact Ae0 hp _
  ·exact Rq
 unfold quick;split
 ·rename_i hw;obtain⟨h1,h2,h3⟩:=hl hw;exact⟨by simp,by simp,h1,h2,h3,fun q=>(by cases q),(by unfold M3;dsimp only;omega)⟩
 ·exact⟨hi.1,hi.2.1,hi.2.2.1,hi.2.2.2.1,hi.2.2.2.2.1,fun q=>hi.2.2.2.2.2.1 (Ahf q),Ahg hi.2.2.2.2.2.2⟩
theorem Ack{ps:List Kn}(hp:∀x∈ps,Lx x):∀(l:List Af) (ab:List Kn),(∀i∈l,Lu N i)->∀i∈S8 P ps ab l,Lu N i:=by
 intro l;induction l with
 | nil=>intro ab _ i hi;simp[S8]at hi
 | cons j r ih=>
  intro ab h i hi;rw[S8,List.mem_cons]at hi;rcases hi with rfl|hi
  ·exact Acj hp (h j z4wa)
  ·exact ih _ (fun x hx=>h x (by simp[hx])) i hi
theorem A8i(b:Da)(i:Nat):(R8 b i).like.r=none:=by
 unfold R8;split
 ·rfl
 ·repeat' (first|rfl|split)
theorem Aci{f:Fn}(hf:Oz N B f){b:Da}(hb:O0 b):R2 N B (Y0 P b f):=by
 unfold Y0;dsimp only;refine⟨hf.1,by simp only[List.length_map,List.length_range];have:=hf.1;have:=hf.2.1;omega,?_⟩;refine⟨Ack (Ae3 _ _ ?_) _ _ hf.2.2,fun x hx=>?_⟩;rotate_left
 ·simp only[List.mem_map]at hx;obtain⟨i,_,rfl⟩:=hx;exact A8i b i
 intro x hx;simp only[List.mem_map]at hx;obtain⟨i,_,rfl⟩:=hx;exact Adz hb i
theorem Inv.l7(h:Inv N B k m)(n:Nat)(l:Fs)(hlc:l.calls<=k/\l.fast<=k/\l.drops<=k){f:Fn}(hf:Oz N B f)(d:Nat)(hd:d<=k+1):Inv N B (k+B+1) ((m.Ks n ⟨l.calls+1,none,l.fast,d⟩).begin f.slots f.steps f.params):=by
 have:=((h.mono (Nat.le_succ k)).Ks n (l:=⟨l.calls+1,none,l.fast,d⟩) (by intro fo q;cases q) ⟨by dsimp only;omega,by dsimp only;omega,hd⟩).begin hf.1 (by have:=hf.1;have:=hf.2.1;omega) hf.2.2 (args:=f.params);rw[show k+B+1=k+1+B by omega];exact this
theorem Inv.l8(h:Inv N B k m)(n:Nat)(l:Fs)(hlc:l.calls<=k/\l.fast<=k/\l.drops<=k){f:Fn}(hf:Oz N B f){fo:Form}(q:R2 N B fo):Inv N B (k+B+1) (if Pb m ((m.vals.length:Nat)-(fo.bet.length:Nat)) fo.bet then(m.Ks n ⟨l.calls+1,some fo,l.fast+1,l.drops⟩).begin fo.slots fo.steps f.params else(m.Ks n ⟨l.calls+1,none,l.fast,l.drops+1⟩).begin f.slots f.steps f.params):=by
 split
 ·have:=((h.mono (Nat.le_succ k)).Ks n (l:=⟨l.calls+1,some fo,l.fast+1,l.drops⟩) (by intro fo' q';injection q' with q';rw[←q'];exact q) ⟨by dsimp only;omega,by dsimp only;omega,by dsimp only;omega⟩).begin q.1 (by have:=hf.1;have:=hf.2.1;omega) q.2.2.1 (args:=f.params);rw[show k+B+1=k+1+B by omega];exact this
 ·exact h.l7 n l hlc hf _ z4sa
theorem Am9{n c:Nat}:∀{l:List Da} {b:Da},taken n c l=some b->b∈l:=by
 intro l;induction l with
 | nil=>intro b h;simp[taken]at h
 | cons x r ih=>
  intro b h;rw[taken]at h;cases hq:taken n c r with
  | some y=>rw[hq]at h;injection h with h;rw[←h];exact List.mem_cons_of_mem _ (ih hq)
  | none=>
   rw[hq]at h;dsimp only at h;split at h
   ·injection h with h;rw[←h];exact List.mem_cons_self
   ·cases h
theorem Inv.body(h:Inv N B k m)(hbt:∀x∈bets,O0 x)(n:Nat){f:Fn}(hf:Oz N B f):Inv N B (k+B+1) (m.body P bets n f):=by
 unfold MS.body;cases hl:m.lots[n]? with
 | none=>exact h.mono z4sa
 | some l=>
  have hlc:=h.lotc l (List.mem_of_getElem? hl);dsimp only;cases ht:taken n l.calls bets with
  | none=>
   cases hx:l.form with
   | none=>exact h.l7 n l hlc hf _ z4sa
   | some fo=>exact h.l8 n l hlc hf (h.lots l (List.mem_of_getElem? hl) fo hx)
  | some b=>exact h.l8 n l hlc hf (Aci hf (hbt b (Am9 ht)))
theorem Inv.L8(h:Inv N B k m)(i:Af):Inv N B k (m.L8 i):=by
 unfold MS.L8;split
 ·exact h.pop.fail 10 i
 ·rename_i hn;have:=h.out;exact⟨h.pop.vals,h.pop.str,h.gls,h.ars,h.now,h.calls,h.lots,h.fuel,h.depth,by simp only[List.length_append,List.length_singleton];show m.out.length+1<=100;omega,h.cells,h.arl,h.lotn,h.lotc⟩
theorem Inv.leave(h:Inv N B k m){v:PV}(hv:Ef v):Inv N B (k+1) { (m.cut m.now.base).push v with now:=m.calls.getLastD ⟨[],0,0⟩,calls:=m.calls.dropLast }:=by
 have q:=(h.cut m.now.base).push hv;have hl:Oy N B k (m.calls.getLastD ⟨[],0,0⟩):=by
  rw[List.getLastD_eq_getLast?];cases hc:m.calls.getLast? with
  | none=>exact⟨by simp,by simp,by simp⟩
  | some f=>exact h.calls f (List.mem_of_getLast? hc)
 exact⟨q.vals,q.str,q.gls,q.ars,hl.mono (Nat.le_succ k),fun f hf=>q.calls f (List.dropLast_subset _ hf),q.lots,q.fuel,by have:=h.depth;show m.calls.dropLast.length<=40;simp only[List.length_dropLast];omega,q.out,q.cells,q.arl,q.lotn,q.lotc⟩
theorem Inv.Vs(h:Inv N B k m){arr:List (List PV)}(ha:∀l∈arr,∀v∈l,Ef v)(hl:∀l∈arr,l.length<=m.cells):Inv N B k { m with arr:=arr }:=⟨h.vals,h.str,h.gls,ha,h.now,h.calls,h.lots,h.fuel,h.depth,h.out,h.cells,hl,h.lotn,h.lotc⟩
theorem A1j{arr:List (List PV)}{c d:Nat}(ha:∀l∈arr,l.length+d<=c)(f:List PV->List PV)(hf:∀l,(f l).length=l.length+d)(i:Nat):∀l∈arr.modify i f,l.length<=c:=by
 intro l hl;rw[List.mem_iff_getElem?]at hl;obtain⟨j,hj⟩:=hl;rw[List.getElem?_modify]at hj;cases hq:arr[j]? with
 | none=>rw[hq]at hj;simp at hj
 | some x=>
  rw[hq]at hj;simp only[Option.map_eq_map,Option.map_some,Option.some.injEq]at hj;rw[←hj];have hx:=ha x (List.mem_of_getElem? hq);split
  ·rw[hf];exact hx
  ·omega
theorem A0s{arr:List (List PV)}(ha:∀l∈arr,∀v∈l,Ef v)(f:List PV->List PV)(hf:∀l,(∀v∈l,Ef v)->∀v∈f l,Ef v)(i:Nat):∀l∈arr.modify i f,∀v∈l,Ef v:=by
 intro l hl;rw[List.mem_iff_getElem?]at hl;obtain⟨j,hj⟩:=hl;rw[List.getElem?_modify]at hj;cases hq:arr[j]? with
 | none=>rw[hq]at hj;simp at hj
 | some x=>
  rw[hq]at hj;simp only[Option.map_eq_map,Option.map_some,Option.some.injEq]at hj;rw[←hj];have hx:=ha x (List.mem_of_getElem? hq);split
  ·exact hf x hx
  ·exact hx
theorem Akb(h:Inv N B k m){n:Nat}(hn:sizeOf' m m.top=some n):Ht ((n:Nat):Int):=by
 unfold sizeOf' at hn;have h1:=h.top.1;have h2:=h.cells;split at hn
 ·injection hn with hn;unfold Ht;omega
 ·split at hn
  ·injection hn with hn;cases hq:m.arr[m.top.r.getD 0]? with
   | none=>rw[hq]at hn;simp at hn;unfold Ht;omega
   | some l=>rw[hq]at hn;simp at hn;have:=h.arl l (List.mem_of_getElem? hq);unfold Ht;omega
  ·cases hn
theorem z3la {P:Prop} (h:P:=by
  exact k1 (h.ints i (fun a b m' _ h'=>h'.push (My _)))):P:=h
theorem z21a {P:Prop} (h:P:=by
  exact k1 (h.pop.pop.push (Mc _))):P:=h
theorem z4ca {P:Prop} (h:P:=by
  split
  ·exact z21a
  ·exact k0 (h.fail 5 i)):P:=h
theorem Inv.act(h:Inv N B k m)(hN:P.fns.length=N)(hP:Px B P)(hbt:∀x∈bets,O0 x)(i:Af)(hi:Lu N i):Inv N B (k+B+1) (Ax P bets i m):=by
 have k1:∀{m'},Inv N B (k+1) m'->Inv N B (k+B+1) m':=fun q=>q.mono z4sa;have k0:∀{m'},Inv N B k m'->Inv N B (k+B+1) m':=fun q=>q.mono z4sa;have k2:∀{m'},Inv N B k m'->Inv N B (k+1) m':=fun q=>q.mono z4sa;unfold Ax;split
 ·exact k1 (h.push hi.2.2.2.2.1)
 ·exact k1 (h.push (h.at' _))
 ·exact k1 (h.push (Rj h.gls _))
 ·exact k0 (h.pop.put _ h.top)
 ·refine k0 ⟨h.pop.vals,h.pop.str,?_,h.ars,h.now,h.calls,h.lots,h.fuel,h.depth,h.out,h.cells,h.arl,h.lotn,h.lotc⟩;intro v hv;rcases List.mem_or_eq_of_mem_set hv with q|q
  ·exact h.gls v q
  ·rw[q];exact h.top
 ·exact k0 h.pop
 ·exact k0 (h.jump _)
 ·split
  ·refine k0 (h.pop.J6 i (Nat.le_refl _) (fun m' h'=>?_));split
   ·exact h'
   ·exact h'.fail 5 i
  ·split
   ·exact k0 (h.pop.jump _)
   ·exact k0 (h.pop.fail 5 i)
 ·split
  ·split
   ·exact k0 h.pop
   ·exact k0 (h.pop.jump _)
  ·exact k0 (h.pop.fail 5 i)
 ·split
  ·split
   ·exact k0 h.pop
   ·exact k0 (h.jump _)
  ·exact k0 (h.fail 5 i)
 ·split
  ·split
   ·exact k0 (h.jump _)
   ·exact k0 h.pop
  ·exact k0 (h.fail 5 i)
 ·split
  ·exact k0 h
  ·exact k0 (h.fail 5 i)
 ·split
  ·exact k1 (h.join i)
  ·exact z3la
 ·exact k1 (h.pop.pop.push (My _))
 ·exact k1 (h.join i)
 ·exact z3la
 ·exact k1 (h.pop.pop.push (My _))
 ·exact z3la
 ·exact k1 (h.pop.pop.push (My _))
 ·exact k1 (h.ints i (fun a b m' _ h'=>by split;exact k2 (h'.fail 6 i);exact h'.push (My _)))
 ·unfold MS.two;dsimp only;split
  ·exact k0 (h.pop.pop.fail 6 i)
  ·exact k1 (h.pop.pop.push (My _))
 ·exact k1 (h.ints i (fun a b m' ha h'=>by split;exact k2 (h'.fail 6 i);exact h'.push (Rk (A4n a b ha))))
 ·unfold MS.two;dsimp only;split
  ·exact k0 (h.pop.pop.fail 6 i)
  ·exact k1 (h.pop.pop.push (Rk (A4n _ _ h.pop.top.2)))
 ·split
  ·exact k1 (h.pop.push (My _))
  ·exact k0 (h.fail 5 i)
 ·exact k1 (h.pop.push (My _))
 ·exact z21a
 ·exact z21a
 ·split
  ·exact k1 (h.pop.push (Mc _))
  ·exact k0 (h.pop.fail 5 i)
 ·exact z4ca
 ·exact z4ca
 ·exact z4ca
 ·exact z4ca
 ·exact z21a
 ·exact z21a
 ·exact z21a
 ·exact z21a
 ·refine k1 (h.room i.arg i (Nat.le_succ k) (fun m' h' hc hl=>?_));refine Inv.push (Inv.Vs (h'.cut _) (fun l hl' v hv=>?_) (fun l hl'=>?_)) ⟨by simp[Oi],Ob⟩
  ·rcases List.mem_append.1 hl' with q|q
   ·exact h'.ars l q v hv
   ·rw[List.mem_singleton.1 q]at hv;obtain⟨j,_,rfl⟩:=List.mem_map.1 hv;exact h'.at' _
  ·rcases List.mem_append.1 hl' with q|q
   ·have:=hl l q;show l.length<=m'.cells;omega
   ·rw[List.mem_singleton.1 q];simp only[List.length_map,List.length_range];exact hc
 ·cases hq:sizeOf' m m.top with
  | some n=>exact k1 (h.pop.push (Rk (Akb h hq)))
  | none=>exact k0 (h.pop.fail 5 i)
 ·unfold MS.two;dsimp only;split
  ·refine k1 (h.pop.pop.room 1 i (Nat.le_succ k) (fun m' h' hc hl=>?_));refine Inv.push (Inv.Vs h' (A0s h'.ars _ (fun l hl' v hv=>?_) _) (A1j (d:=1) hl _ (fun l=>by simp) _)) h.top;rcases List.mem_append.1 hv with q|q
   ·exact hl' v q
   ·rw[List.mem_singleton.1 q];exact h.top
  ·exact k0 (h.pop.pop.fail 5 i)
 ·unfold MS.two;dsimp only;refine k1 (h.pop.pop.place _ _ i (Nat.le_succ k) (fun m' h'=>?_));refine h'.push ?_;split
  ·exact⟨by simp only[ofStr,List.length_take,List.length_drop];omega,Ob⟩
  ·refine Rj (fun v hv=>?_) _;cases hq:m'.arr[m.pop.top.r.getD 0]? with
   | none=>rw[hq]at hv;simp at hv
   | some l=>rw[hq]at hv;exact h'.ars l (List.mem_of_getElem? hq) v hv
 ·unfold MS.two;dsimp only;split
  ·refine k0 (h.pop.pop.pop.place _ _ i (Nat.le_refl k) (fun m' h'=>?_));refine Inv.Vs h' (A0s h'.ars _ (fun l hl' v hv=>?_) _) (A1j (d:=0) h'.arl _ (fun l=>by simp) _);rcases List.mem_or_eq_of_mem_set hv with q|q
   ·exact hl' v q
   ·rw[q];exact h.top
  ·exact k0 (h.pop.pop.pop.fail 5 i)
 ·exact k0 (h.L8 i)
 ·refine h.J6 i z4sa (fun m' h'=>?_);split
  ·exact(h'.fail 9 i).mono z4sa
  ·rename_i hd;split
   ·rename_i f hf;have hff:=hP.fns f (List.mem_of_getElem? hf);rw[hN]at hff;refine Inv.body ?_ hbt _ hff;refine⟨h'.vals,h'.str,h'.gls,h'.ars,h'.now,?_,h'.lots,h'.fuel,by have:=h'.depth;simp only[List.length_append,List.length_singleton];omega,h'.out,h'.cells,h'.arl,h'.lotn,h'.lotc⟩;intro x hx;simp only[List.mem_append,List.mem_singleton]at hx;rcases hx with hx|rfl
    ·exact h'.calls x hx
    ·exact h'.now
   ·exact h'.mono z4sa
 ·exact k1 (h.leave Pa)
 ·exact k1 (Inv.leave h.pop h.top)
 ·exact k0 h
theorem Inv.step(h:Inv N B k m)(hN:P.fns.length=N)(hP:Px B P)(hbt:∀x∈bets,O0 x)(i:Af)(hi:i∈m.now.steps):Inv N B (k+B+1) (Kl P bets i m):=by
 have q:Inv N B k { m with now:=⟨m.now.steps,m.now.pc+1,m.now.base⟩ }:=h.Sd ⟨h.now.1,h.now.2.1,h.now.2.2⟩;exact q.act hN hP hbt i (h.now.2.2 i hi)
def A26(i:Af)(m:MS):Prop:=i.op=2\/i.op=4->i.arg.toNat<m.gl.length
structure Ew (P : D5) (i : Af) (m : MS) : Prop where
 nice:A26 i m
 ars:∀l∈m.arr,l.length<=500
 arv:∀l∈m.arr,∀v∈l,Ef v
 cells:m.cells<=500
 ins:Lu P.fns.length i
 vals:m.vals.length<=80000000000
 base:-5000<=m.now.base/\m.now.base<=80000000000
 fuel:m.fuel<=2000
 depth:m.calls.length<=40
 out:m.out.length<=100
 str:∀v∈m.vals,Ef v
 lotn:m.lots.length=P.fns.length
 lots:∀l∈m.lots,∀fo,l.form=some fo->R2 P.fns.length 5000 fo
 lotc:∀l∈m.lots,l.calls<=80000000000/\l.fast<=80000000000/\l.drops<=80000000000
 fns:∀f∈P.fns,Oz P.fns.length 5000 f
def Nr(o:Nat):Bool:=o !=13&&o !=14&&o !=16&&o !=18&&o !=20&&o !=22&&o !=24&&o !=32&&o !=33&&o !=34&&o !=35
def Z7(bets:List Da)(i:Af)(m:MS):Prop:=bets=[]->(∀l∈m.lots,l.form=none)/\Nr i.op=true
def Qj(P:D5)(bets:List Da):Nat->MS->Prop
 | 0,_=>True
 | n+1,m=>m.code=0->∀i,m.now.steps[m.now.pc]?=some i->(Ew P i m/\Z7 bets i m)/\Qj P bets n (Kl P bets i m)
def nice(P:D5)(bets:List Da):Nat->MS->Prop
 | 0,_=>True
 | n+1,m=>m.code=0->∀i,m.now.steps[m.now.pc]?=some i->(A26 i m/\Z7 bets i m)/\nice P bets n (Kl P bets i m)
theorem Afj(hP:Px B P)(hbt:∀x∈bets,O0 x)(hB:B<=5000):∀(n k:Nat) (m:MS),Inv P.fns.length B k m->nice P bets n m->k+n*(B+1)<=80000000000->Qj P bets n m:=by
 intro n;induction n with
 | zero=>intro k m _ _ _;trivial
 | succ n ih=>
  intro k m h hni hk hc i hi;obtain⟨⟨B9,hsl⟩,D7⟩:=hni hc i hi;have hm:=List.mem_of_getElem? hi;have e:(n+1)*(B+1)=n*(B+1)+B+1:=by rw[Nat.add_mul];omega
  refine⟨⟨⟨B9,fun l hl=>Nat.le_trans (h.arl l hl) h.cells,h.ars,h.cells,h.now.2.2 i hm,by have:=h.vals;omega,⟨by have:=h.now.1;omega,by have:=h.now.2.1;omega⟩,h.fuel,h.depth,h.out,h.str,h.lotn,fun l hl fo hfo=>?_,fun l hl=>by have:=h.lotc l hl;omega,fun f hf=>?_⟩,hsl⟩,ih (k+B+1) _ (h.step rfl hP hbt i hm) D7 z4sa⟩
  ·obtain⟨q1,q2,q3⟩:=h.lots l hl fo hfo;exact⟨by omega,by omega,q3⟩
  ·obtain⟨q1,q2,q3⟩:=hP.fns f hf;exact⟨by omega,q2,q3⟩
theorem A1e(hP:Px B P):Inv P.fns.length B B (mstart P):=by
 have h0:Inv P.fns.length B 0 ⟨[],Jw P.globals,[],⟨[],0,0⟩,2000,0,[],0,0,[],List.replicate P.fns.length ⟨0,none,0,0⟩⟩:=by
  refine⟨by simp,by simp,?_,by simp,⟨by simp,by simp,by simp⟩,by simp,?_,by simp,by simp,by simp,by simp,by simp,by simp,fun l hl=>by simp only[List.mem_replicate]at hl;rw[hl.2];simp⟩
  ·intro v hv;simp only[Jw,List.mem_replicate]at hv;rw[hv.2];exact Pa
  ·intro l hl fo hfo;simp only[List.mem_replicate]at hl;rw[hl.2]at hfo;cases hfo
 have:=h0.begin hP.slots (Nat.zero_le _) hP.main (args:=0);rw[Nat.zero_add]at this;exact this
end
section
open Go.Deep (BT)
def A04(n:Int):List UInt8:=if n<0 then 40::45::(Lib.decDigits (-(n+1)).toNat++[45,49,41]) else Lib.decDigits n.toNat
theorem A1k:∀(f g:Nat) (l:List UInt8) (line:Nat) (said:Bool),l.length<f->l.length<g->lex f l line said=lex g l line said:=by
 intro f;induction f with
 | zero=>intro g l line said h;omega
 | succ f ih=>
  intro g l line said h1 h2;obtain⟨g,rfl⟩:∃k,g=k+1:=⟨g-1,by omega⟩;cases l with
  | nil=>rfl
  | cons c r=>
   simp only[List.length_cons]at h1 h2;have e1:∀line said,lex f r line said=lex g r line said:=fun line said=>ih g r line said z4sa z4sa;rw[lex,lex,e1,e1];cases ht:E7 (c::r) with
   | none=>rfl
   | some x=>
    obtain⟨t,n⟩:=x;have hn:=(Sn c r t n ht).2.2;have e2:=ih g ((c::r).drop n) line false z4za z4za;simp only[e2]
theorem Tc(u:Nat)(h:u<10000000000000000000):(Lib.decDigits u).length<=19:=by
 rw[Lib.decDigits_length];rcases Nat.lt_or_ge 19 (Lib.nDigits u) with hk|hk
 ·exfalso;have:∀(k v:Nat),k+1<=Lib.nDigits v->10 ^ k<=v\/k=0:=by
   intro k;induction k with
   | zero=>intro v _;right;rfl
   | succ k ih=>
    intro v hv;left;by_cases h10:v<10
    ·rw[Lib.nDigits_small h10]at hv;omega
    ·rw[Lib.nDigits_big h10]at hv;rcases ih (v / 10) z4sa with q|q
     ·rw[Nat.pow_succ];omega
     ·rw[q];omega
  rcases this 19 u z4sa with q|q
  ·omega
  ·omega
 ·exact hk
theorem Ap4(n:Int)(h1:-9223372036854775808<=n)(h2:n<=9223372036854775807):(A04 n).length<=24:=by
 unfold A04;split
 ·have:=Tc (-(n+1)).toNat z4sa;simp only[List.length_cons,List.length_append,List.length_nil];omega
 ·have:=Tc n.toNat z4sa;omega
theorem A1f(n:Int)(h1:-9223372036854775808<=n)(h2:n<=9223372036854775807):(Lib.itoa n).length<=20:=by
 unfold Lib.itoa;split
 ·have:=Tc n.natAbs z4sa;simp only[List.length_cons];omega
 ·have:=Tc n.toNat z4sa;omega
def Ou(ts:List Tk):BT A3:=match Ab 100000 10 0 .nil ⟨ts,0⟩ with
 | some r=>r.1
 | none=>.nil
theorem Amt(l:List UInt8)(ts:List Tk)(hl:l.length<=2000)(h:∀f,l.length<f->lex f l 1 false=.inr ts)(h1:Ab 100000 10 0 .nil ⟨ts,0⟩=some (Ou ts,⟨[⟨0,1,[],0⟩],0⟩))(h2:nest ts 0=0)(h3:Dq (Bx (Ou ts)) (Ou ts) [] [] (0,0)=(0,0)):E8 l=((0,0),some (Ou ts)):=by
 unfold E8;rw[if_neg z4sa,h _ (Nat.lt_succ_self _)];simp only[h1,h2,h3,ne_eq,not_true_eq_false,if_false]
def K9(P:D5)(bets:List Da)(k:Nat)(m m':MS):Prop:=∀n,Fm P bets (n+k) m=Fm P bets n m'
variable {P:D5} {bets:List Da} {m0:MS} {a b:Int} {S:List Af}
theorem K9.trans{k j:Nat}{x y z:MS}(h1:K9 P bets k x y)(h2:K9 P bets j y z):K9 P bets (j+k) x z:=by
 intro n;rw[←Nat.add_assoc,h1,h2]
theorem K9.one{m:MS}{i:Af}(hc:m.code=0)(hi:m.now.steps[m.now.pc]?=some i):K9 P bets 1 m (Kl P bets i m):=by
 intro n;rw[Fm,if_neg (by rw[hc];simp),hi]
def It(m0:MS)(S:List Af)(V:List PV)(o:List (List UInt8))(pc:Nat):MS:={ m0 with vals:=V,now:=⟨S,pc,0⟩,out:=o }
theorem goS{V:List PV}{o:List (List UInt8)}{pc:Nat}{x y:Af}{m':MS}(hc:m0.code=0)(hi:S[pc]?=some x\/S[pc]?=some y)(hx:Ax P bets x (It m0 S V o (pc+1))=m')(hy:Ax P bets y (It m0 S V o (pc+1))=m'):K9 P bets 1 (It m0 S V o pc) m':=by
 rcases hi with h|h
 ·rw[←hx];exact K9.one hc h
 ·rw[←hy];exact K9.one hc h
theorem A4m(arr:List (List PV))(n:Int):Dr arr 4 [] (ofInt n)=Lib.itoa n:=by simp[Dr,ofInt]
def P3(c:Bool):List UInt8:=if c then [116,114,117,101] else [102,97,108,115,101]
theorem Yz{V:List PV}{v:PV}{o:List (List UInt8)}{pc:Nat}{l:List UInt8}(ht:Dr m0.arr 4 [] v=l)(hl:l.length<=500)(ho:o.length<100):Ax P bets ⟨41,0,1,Bp⟩ (It m0 S (V++[v]) o pc)=It m0 S V (o++[l]) pc:=by
 show MS.L8 _ _=_;have e:(It m0 S (V++[v]) o pc).top=v:=by simp[MS.top,It]
 unfold MS.L8;rw[e];have e2:(It m0 S (V++[v]) o pc).arr=m0.arr:=rfl;have e3:(It m0 S (V++[v]) o pc).out=o:=rfl;rw[e2,e3,ht,if_neg z4sa];simp[MS.pop,It]
end
section
open Go.Deep (BT)
variable {P:D5} {bets:List Da} {a b:Int} {M:List Af}
theorem Xk{m0:MS}{V:List PV}{o:List (List UInt8)}{pc:Nat}{x:Af}{m':MS}(hc:m0.code=0)(hi:M[pc]?=some x)(hx:Ax P bets x (It m0 M V o (pc+1))=m'):K9 P bets 1 (It m0 M V o pc) m':=goS hc (.inl hi) hx hx
def bs(f:Nat)(l:Fs)(calls:List Fr):MS:=⟨[],[],calls,⟨[],0,0⟩,f,0,[],0,0,[],[l]⟩
theorem A6b(m:MS)(i:Af)(ho:i.op=42)(hf:m.fuel≠0)(hd:m.calls.length≠40){f:Fn}(hp:P.fns[i.arg.toNat]?=some f):Ax P bets i m=MS.body P bets i.arg.toNat f { m with fuel:=m.fuel-1,calls:=m.calls++[m.now] }:=by
 unfold Ax;rw[ho];show MS.J6 _ _ _=_;unfold MS.J6;rw[if_neg hf];dsimp only;rw[if_neg hd,hp]
end
section
theorem Ame{f:List UInt8->PV->List UInt8}{B:Nat}:∀(vs:List PV) (_:∀v∈vs,∀(l:List UInt8),l.length<=600->(f l v).length<=B) (b:Bool) (l:List UInt8),l.length<=B->(Jz f b l vs).length<=B+1:=by
 intro vs;induction vs with
 | nil=>intro _ b l h;simp[Jz];omega
 | cons v r ih=>
  intro hf b l h;unfold Jz;by_cases q:500<l.length
  ·rw[if_pos q];omega
  ·rw[if_neg q];refine ih (fun x hx=>hf x (List.mem_cons_of_mem _ hx)) true _ (hf v List.mem_cons_self _ ?_);cases b <;> simp <;> omega
theorem Zg{arr:List (List PV)}(ha:∀l∈arr,∀v∈l,Ef v):∀(d:Nat) (v:PV) (_:Ef v) (l:List UInt8),l.length<=600->(Dr arr d l v).length<=2610+d:=by
 intro d;induction d with
 | zero=>
  intro v hv l h;have h1:=A1f v.n hv.2.1 hv.2.2;have h2:=hv.1;unfold Dr;split
  ·split <;> simp <;> omega
  ·split
   ·simp;omega
   ·split
    ·simp;omega
    ·split <;> simp <;> omega
 | succ d ih=>
  intro v hv l h;have h1:=A1f v.n hv.2.1 hv.2.2;have h2:=hv.1;unfold Dr;split
  ·split <;> simp <;> omega
  ·split
   ·simp;omega
   ·split
    ·simp;omega
    ·split
     ·refine Ame (B:=2610+d) _ (fun x hx l' hl'=>ih x ?_ l' hl') _ _ z4za;cases q:arr[v.r.getD 0]? with
      | none=>rw[q]at hx;cases hx
      | some a=>rw[q]at hx;exact ha a (List.mem_of_getElem? q) x hx
     ·simp;omega
end
section
set_option maxRecDepth 100000
open Go.Deep (BT)
def Ow:List UInt8:=[102,110,32,102,40,120,41,32,123,32,114,101,116,117,114,110,32,120,32,43,32,120,59,32,125,32,112,114,105,110,116,32,102,40,50,41,59,32,112,114,105,110,116,32,102,40,34,97,34,41,59,32,112,114,105,110,116,32,102,40,51,41,59]
def Ov:List Tk:=[⟨4,1,[],0⟩,⟨1,1,[102],0⟩,⟨18,1,[],0⟩,⟨1,1,[120],0⟩,⟨19,1,[],0⟩,⟨20,1,[],0⟩,⟨9,1,[],0⟩,⟨1,1,[120],0⟩,⟨34,1,[],0⟩,⟨1,1,[120],0⟩,⟨25,1,[],0⟩,⟨21,1,[],0⟩,⟨12,1,[],0⟩,⟨1,1,[102],0⟩,⟨18,1,[],0⟩,⟨2,1,[],2⟩,⟨19,1,[],0⟩,⟨25,1,[],0⟩,⟨12,1,[],0⟩,⟨1,1,[102],0⟩,⟨18,1,[],0⟩,⟨3,1,[97],0⟩,⟨19,1,[],0⟩,⟨25,1,[],0⟩,⟨12,1,[],0⟩,⟨1,1,[102],0⟩,⟨18,1,[],0⟩,⟨2,1,[],3⟩,⟨19,1,[],0⟩,⟨25,1,[],0⟩,⟨0,1,[],0⟩]
def A97:List Af:=[⟨1,0,0,Bp⟩,⟨1,0,0,Bp⟩,⟨12,0,1,Bp⟩,⟨44,0,0,Bp⟩,⟨43,0,0,Bp⟩]
def fnA:Fn:=⟨[102],1,1,A97⟩
def Kk:List Af:=[⟨0,0,0,ofInt 2⟩,⟨42,0,1,Bp⟩,⟨41,0,1,Bp⟩,⟨0,0,0,ofStr [97]⟩,⟨42,0,1,Bp⟩,⟨41,0,1,Bp⟩,⟨0,0,0,ofInt 3⟩,⟨42,0,1,Bp⟩,⟨41,0,1,Bp⟩]
def L6:D5:=⟨0,0,Kk,[fnA]⟩
theorem Aee:lex 2001 Ow 1 false=.inr Ov:=by kernel_rfl
theorem Aft:Ab 100000 10 0 .nil ⟨Ov,0⟩=some (Ou Ov,⟨[⟨0,1,[],0⟩],0⟩):=by kernel_rfl
theorem Af6:nest Ov 0=0:=by kernel_rfl
theorem Ais:Dq (Bx (Ou Ov)) (Ou Ov) [] [] (0,0)=(0,0):=by kernel_rfl
theorem emA:Ga (Ou Ov)=L6:=by kernel_rfl
theorem Ams:∃c,E8 Ow=((0,0),some c)/\Ga c=L6:=by
 have hl:Ow.length=63:=by kernel_rfl
 exact⟨_,Amt Ow Ov z4sa (fun f hf=>by rw[A1k f 2001 _ _ _ hf z4sa,Aee]) Aft Af6 Ais,emA⟩
def Me(n:Nat):Fs:=⟨n,none,0,0⟩
theorem Ada:K9 L6 [] 6 (mstart L6) (It (bs 1999 (Me 1) []) Kk [ofInt (wr (2+2))] [] 2):=fun n=>by kernel_rfl
theorem Adb(o:List (List UInt8)):K9 L6 [] 6 (It (bs 1999 (Me 1) []) Kk [] o 3) (It (bs 1998 (Me 2) []) Kk [ofStr [97,97]] o 5):=fun n=>by kernel_rfl
theorem Adc(o:List (List UInt8)):K9 L6 [] 6 (It (bs 1998 (Me 2) []) Kk [] o 6) (It (bs 1997 (Me 3) []) Kk [ofInt (wr (3+3))] o 8):=fun n=>by kernel_rfl
theorem Ami(arr:List (List PV))(t:List UInt8):Dr arr 4 [] (ofStr t)=t:=by simp[Dr,ofStr]
def Qy:List (List UInt8):=[[52],[97,97],[54]]
theorem A8g:∃m',Fm L6 [] 22 (mstart L6)=some m'/\m'.code=0/\m'.out=Qy:=by
 have i4:Lib.itoa (wr (2+2))=[52]:=by
  have:wr (2+2)=4:=A59 ⟨by decide,by decide⟩;rw[this];simp[Lib.itoa,Lib.decDigits]
 have i6:Lib.itoa (wr (3+3))=[54]:=by
  have:wr (3+3)=6:=A59 ⟨by decide,by decide⟩;rw[this];simp[Lib.itoa,Lib.decDigits]
 have s0:K9 L6 [] 1 (It (bs 1999 (Me 1) []) Kk [ofInt (wr (2+2))] [] 2) (It (bs 1999 (Me 1) []) Kk [] ([]++[[52]]) 3):=Xk (P:=L6) (bets:=[]) rfl (show Kk[2]?=some ⟨41,0,1,Bp⟩ from rfl) (Yz (V:=[]) ((A4m _ _).trans i4) z4wa z4wa);have s1:K9 L6 [] 1 (It (bs 1998 (Me 2) []) Kk [ofStr [97,97]] ([]++[[52]]) 5) (It (bs 1998 (Me 2) []) Kk [] ([]++[[52]]++[[97,97]]) 6):=Xk (P:=L6) (bets:=[]) rfl (show Kk[5]?=some ⟨41,0,1,Bp⟩ from rfl) (Yz (V:=[]) (Ami _ _) z4wa z4wa);have s2:K9 L6 [] 1 (It (bs 1997 (Me 3) []) Kk [ofInt (wr (3+3))] ([]++[[52]]++[[97,97]]) 8) (It (bs 1997 (Me 3) []) Kk [] ([]++[[52]]++[[97,97]]++[[54]]) 9):=Xk (P:=L6) (bets:=[]) rfl (show Kk[8]?=some ⟨41,0,1,Bp⟩ from rfl) (Yz (V:=[]) ((A4m _ _).trans i6) z4wa z4wa);have g:=((((Ada.trans s0).trans (Adb _)).trans s1).trans (Adc _)).trans s2;exact⟨_,g 1,rfl,rfl⟩
end
section
open Go.Deep (BT)
variable {N B k:Nat} {m:MS} {P:D5} {bets:List Da}
theorem Adr(hP:Px B P)(hbt:∀x∈bets,O0 x):∀(n k:Nat) (m m':MS),Inv P.fns.length B k m->Fm P bets n m=some m'->∃k',Inv P.fns.length B k' m':=by
 intro n;induction n with
 | zero=>intro k m m' h e;rw[Fm]at e;cases e
 | succ n ih=>
  intro k m m' h e;rw[Fm]at e;split at e
  ·cases e;exact⟨k,h⟩
  ·split at e
   ·cases e;exact⟨k,h⟩
   ·rename_i i hi;exact ih _ _ _ (h.step rfl hP hbt i (List.mem_of_getElem? hi)) e
end
section
open Go.Deep (BT)
def Fi(m:MS):Fr×List Fr×Nat×List Fs×Nat:=(m.now,m.calls,m.fuel,m.lots,m.gl.length)
variable {m:MS} {i:Af}
theorem Rd{k:Int->Int->MS->MS}(h:∀a b m',Fi (k a b m')=Fi m'):Fi (m.ints i k)=Fi m:=by
 unfold MS.ints MS.two;split
 ·rw[h];rfl
 ·rfl
theorem A01{n:Int}{k:MS->MS}(h:∀m',Fi (k m')=Fi m'):Fi (m.room n i k)=Fi m:=by
 unfold MS.room;split
 ·rfl
 ·rw[h];rfl
theorem A00{u p:PV}{k:MS->MS}(h:∀m',Fi (k m')=Fi m'):Fi (m.place u p i k)=Fi m:=by
 unfold MS.place;split
 ·rfl
 ·split
  ·rfl
  ·split
   ·rfl
   ·rw[h]
theorem z8:Fi (m.join i)=Fi m:=by
 unfold MS.join MS.two;dsimp only;split <;> rfl
theorem Aam:Fi (m.L8 i)=Fi m:=by
 unfold MS.L8;split <;> rfl
theorem L1{p:Prop}[Decidable p]{a b:MS}{c:Fr×List Fr×Nat×List Fs×Nat}(ha:Fi a=c)(hb:Fi b=c):Fi (if p then a else b)=c:=by
 split
 ·exact ha
 ·exact hb
theorem Aal(P:D5)(bets:List Da)(h:i.op<6\/(10<i.op/\i.op<42)\/44<i.op):Fi (Ax P bets i m)=Fi m:=by
 unfold Ax;split;all_goals try (first|rfl|omega)
 ·show(m.pop.now,m.pop.calls,m.pop.fuel,m.pop.lots,(m.gl.set i.arg.toNat m.top).length)=_;rw[List.length_set];rfl
 ·exact L1 rfl rfl
 ·exact L1 z8 (Rd (fun _ _ _=>rfl))
 ·exact z8
 ·exact Rd (fun _ _ _=>rfl)
 ·exact Rd (fun _ _ _=>rfl)
 ·exact Rd (fun _ _ _=>L1 rfl rfl)
 ·exact L1 rfl rfl
 ·exact Rd (fun _ _ _=>L1 rfl rfl)
 ·exact L1 rfl rfl
 ·exact L1 rfl rfl
 ·exact L1 rfl rfl
 ·exact L1 rfl rfl
 ·exact L1 rfl rfl
 ·exact L1 rfl rfl
 ·exact L1 rfl rfl
 ·refine A01 (fun m'=>?_);dsimp only;unfold MS.cut;split <;> rfl
 ·split <;> rfl
 ·exact L1 (A01 (fun _=>rfl)) rfl
 ·exact A00 (m:=m.pop.pop) (fun _=>rfl)
 ·exact L1 (A00 (m:=m.pop.pop.pop) (fun _=>rfl)) rfl
 ·exact Aam
def F8(lab:List Af->List Nat)(L:Nat)(f:Fr):Nat:=if f.steps.length<=f.pc then 0 else((lab f.steps)[f.pc]?).getD 0*(L+1)+(L-f.pc)+1
def K2(lab:List Af->List Nat)(L G:Nat)(st:List Af):Prop:=V7 (lab st) st/\st.length<=L/\∀j∈st,(j.op=2\/j.op=4->j.arg.toNat<G)/\Nr j.op=true/\j.line<=5000
structure Kv (lab : List Af -> List Nat) (L : Nat) (P : D5) (m : MS) : Prop where
 now:K2 lab L P.globals m.now.steps
 calls:∀f∈m.calls,K2 lab L P.globals f.steps
 gl:m.gl.length=P.globals
 lotn:m.lots.length=P.fns.length
 none:∀l∈m.lots,l.form=none
def Hh(lab:List Af->List Nat)(L:Nat)(m:MS):Nat:=m.fuel*(L+2)+(m.calls.map (F8 lab L)).sum+F8 lab L m.now
variable {lab:List Af->List Nat} {L:Nat} {P:D5}
theorem U8(f:Fr){d:Nat}(h:(lab f.steps)[f.pc]?=some d):F8 lab L f<=d*(L+1)+(L-f.pc)+1:=by
 unfold F8;split
 ·omega
 ·rw[h];exact z3ta
theorem A2w{st:List Af}{p:Nat}{b b':Int}{i:Af}(h:K2 lab L P.globals st)(hi:st[p]?=some i)(ho:i.op≠6):F8 lab L ⟨st,p+1,b'⟩+1<=F8 lab L ⟨st,p,b⟩+(if i.op=7 then L+1 else 0):=by
 obtain⟨⟨_,_,hg⟩,hl,_⟩:=h;obtain⟨hp,_⟩:=List.getElem?_eq_some_iff.1 hi;rcases(hg p i hi).1 with q|⟨x,y,h1,h2,h3⟩
 ·exact absurd q ho
 ·have k1:=U8 (L:=L) (lab:=lab) ⟨st,p+1,b'⟩ h2;have k2:F8 lab L ⟨st,p,b⟩=x*(L+1)+(L-p)+1:=by
   unfold F8;rw[if_neg (by dsimp only;omega)];dsimp only;rw[h1];rfl
  dsimp only at k1;split at h3
  ·have:y*(L+1)<=(x+1)*(L+1):=Nat.mul_le_mul_right _ h3;rw[Nat.add_mul]at this;split
   ·omega
   ·omega
  ·have:y*(L+1)<=x*(L+1):=Nat.mul_le_mul_right _ h3;split
   ·omega
   ·omega
theorem Ag9{st:List Af}{p:Nat}{b b':Int}{i:Af}(h:K2 lab L P.globals st)(hi:st[p]?=some i)(ho:Je i.op):F8 lab L ⟨st,i.arg.toNat,b'⟩+1<=F8 lab L ⟨st,p,b⟩:=by
 obtain⟨⟨hn,_,hg⟩,hl,_⟩:=h;obtain⟨hp,_⟩:=List.getElem?_eq_some_iff.1 hi;obtain⟨_,x,d,h1,h2,h3⟩:=(hg p i hi).2 ho;obtain⟨ht,_⟩:=List.getElem?_eq_some_iff.1 h2;have k1:=U8 (L:=L) (lab:=lab) ⟨st,i.arg.toNat,b'⟩ h2;have k2:F8 lab L ⟨st,p,b⟩=x*(L+1)+(L-p)+1:=by
  unfold F8;rw[if_neg (by dsimp only;omega)];dsimp only;rw[h1];rfl
 dsimp only at k1;rcases h3 with⟨q1,q2⟩|⟨_,q2⟩
 ·have:d*(L+1)<=x*(L+1):=Nat.mul_le_mul_right _ q2;omega
 ·have:(d+1)*(L+1)<=x*(L+1):=Nat.mul_le_mul_right _ q2;rw[Nat.add_mul]at this;omega
theorem Agh{m m':MS}(h:Fi m'=Fi m):Hh lab L m'=Hh lab L m:=by
 unfold Fi at h;simp only[Prod.mk.injEq]at h;unfold Hh;rw[h.1,h.2.1,h.2.2.1]
theorem Nt{m m':MS}(h:Fi m'=Fi m)(hm:Kv lab L P m):Kv lab L P m':=by
 unfold Fi at h;simp only[Prod.mk.injEq]at h;obtain⟨h1,h2,_,h4,h5⟩:=h;exact⟨by rw[h1];exact hm.now,by rw[h2];exact hm.calls,by rw[h5];exact hm.gl,by rw[h4];exact hm.lotn,by rw[h4];exact hm.none⟩
def dn(lab:List Af->List Nat)(L:Nat)(P:D5)(k:Nat)(m':MS):Prop:=Kv lab L P m'/\(m'.code=0->Hh lab L m'<k)
theorem Td{k:Nat}{m m':MS}(hm:Kv lab L P m)(h:Fi m'=Fi m)(hk:Hh lab L m<k):dn lab L P k m':=⟨Nt h hm,fun _=>by rw[Agh h];exact hk⟩
theorem Re{k:Nat}{m m':MS}(hm:Kv lab L P m)(h:Fi m'=Fi m)(a:Int)(hk:Hh lab L (m.jump a)<k):dn lab L P k (m'.jump a):=by
 unfold Fi at h;simp only[Prod.mk.injEq]at h;obtain⟨h1,h2,h3,h4,h5⟩:=h;refine⟨⟨by show K2 lab L P.globals m'.now.steps;rw[h1];exact hm.now,by show ∀f∈m'.calls,_;rw[h2];exact hm.calls,h5.trans hm.gl,by show m'.lots.length=_;rw[h4];exact hm.lotn,by show ∀l∈m'.lots,_;rw[h4];exact hm.none⟩,fun _=>?_⟩;refine Nat.lt_of_le_of_lt (Nat.le_of_eq ?_) hk;unfold Hh MS.jump;dsimp only;rw[h1,h2,h3]
theorem z3za {P:Prop} (h:P:=by
  obtain⟨hp,_⟩:=List.getElem?_eq_some_iff.1 hi;unfold F8;rw[if_neg z4sa];omega):P:=h
theorem z3pa {P:Prop} (h:P:=by
  exact Td (m:=m1) Er rfl (hseq z4sa z4sa)):P:=h
theorem z26a {P:Prop} (h:P:=by
  exact⟨Nt (m:=m1) rfl Er,fun q=>by cases q⟩):P:=h
theorem z66a {P:Prop} (h:P:=by unfold Je;omega):P:=h
theorem Zb(hP:K2 lab L P.globals []/\∀f∈P.fns,K2 lab L P.globals f.steps)(hm:Kv lab L P m)(hi:m.now.steps[m.now.pc]?=some i):dn lab L P (Hh lab L m) (Kl P [] i m):=by
 unfold Kl;have Er:Kv lab L P { m with now:=⟨m.now.steps,m.now.pc+1,m.now.base⟩ }:=⟨hm.now,hm.calls,hm.gl,hm.lotn,hm.none⟩;have hseq:i.op≠6->i.op≠7->Hh lab L { m with now:=⟨m.now.steps,m.now.pc+1,m.now.base⟩ }<Hh lab L m:=fun h6 h7=>by
  have:F8 lab L ⟨m.now.steps,m.now.pc+1,m.now.base⟩+1<=F8 lab L m.now+(if i.op=7 then L+1 else 0):=A2w (b:=m.now.base) (b':=m.now.base) hm.now hi h6;rw[if_neg h7]at this;unfold Hh;dsimp only;omega
 have hjmp:Je i.op->Hh lab L (MS.jump i.arg { m with now:=⟨m.now.steps,m.now.pc+1,m.now.base⟩ })<Hh lab L m:=fun hj=>by
  have:F8 lab L ⟨m.now.steps,i.arg.toNat,m.now.base⟩+1<=F8 lab L m.now:=Ag9 (b:=m.now.base) (b':=m.now.base) hm.now hi hj;unfold Hh MS.jump;dsimp only;omega
 have hph:1<=F8 lab L m.now:=by
  exact z3za
 have hsq2:i.op=7\/i.op=42->m.fuel≠0->(m.fuel-1)*(L+2)+(m.calls.map (F8 lab L)).sum+F8 lab L ⟨m.now.steps,m.now.pc+1,m.now.base⟩+(if i.op=7 then 0 else L+1)<Hh lab L m:=fun h7 hf=>by
  have:F8 lab L ⟨m.now.steps,m.now.pc+1,m.now.base⟩+1<=F8 lab L m.now+(if i.op=7 then L+1 else 0):=A2w (b:=m.now.base) (b':=m.now.base) hm.now hi z4sa;have e:m.fuel*(L+2)=(m.fuel-1)*(L+2)+(L+2):=by
   obtain⟨n,hn⟩:∃n,m.fuel=n+1:=⟨m.fuel-1,by omega⟩;rw[hn,Nat.add_sub_cancel,Nat.add_mul,Nat.one_mul]
  unfold Hh;rw[e];split at this
  ·rename_i q;rw[if_pos q];omega
  ·rename_i q;rw[if_neg q];omega
 by_cases hb:i.op<6\/(10<i.op/\i.op<42)\/44<i.op
 ·exact Td Er (Aal P [] hb) (hseq z4sa z4sa)
 have ho:i.op=6\/i.op=7\/i.op=8\/i.op=9\/i.op=10\/i.op=42\/i.op=43\/i.op=44:=by omega
 generalize hme:({ m with now:=⟨m.now.steps,m.now.pc+1,m.now.base⟩ }:MS)=m1 at *;rcases ho with ho|ho|ho|ho|ho|ho|ho|ho
 ·have e:Ax P [] i m1=m1.jump i.arg:=by unfold Ax;rw[ho] <;> rfl
  rw[e];exact Re Er rfl _ (hjmp z66a)
 ·have e:Ax P [] i m1=(if m1.top.y then m1.pop.J6 i (fun m'=>if m1.top.k=1 then m' else m'.fail 5 i) else if m1.top.k=1 then m1.pop.jump i.arg else m1.pop.fail 5 i):=by unfold Ax;rw[ho] <;> rfl
  rw[e];split
  ·unfold MS.J6;split
   ·exact z26a
   ·rename_i hf;have hf':m.fuel≠0:=by rw[←hme]at hf;exact hf
    have h7:=hsq2 (.inl ho) hf';rw[if_pos ho]at h7;have hok:Kv lab L P { m1.pop with fuel:=m1.pop.fuel-1 }:=⟨Er.now,Er.calls,Er.gl,Er.lotn,Er.none⟩;have hpt:Hh lab L { m1.pop with fuel:=m1.pop.fuel-1 }<Hh lab L m:=by rw[←hme];unfold Hh;exact h7
    split
    ·exact⟨hok,fun _=>hpt⟩
    ·exact⟨Nt (m:={ m1.pop with fuel:=m1.pop.fuel-1 }) rfl hok,fun q=>by cases q⟩
  ·split
   ·exact Re (m:=m1) (m':=m1.pop) Er rfl _ (hjmp z66a)
   ·exact z26a
 ·have e:Ax P [] i m1=(if m1.top.k=1 then(if m1.top.y then m1.pop else m1.pop.jump i.arg) else m1.pop.fail 5 i):=by unfold Ax;rw[ho] <;> rfl
  rw[e];split
  ·split
   ·exact z3pa
   ·exact Re (m:=m1) (m':=m1.pop) Er rfl _ (hjmp z66a)
  ·exact z26a
 ·have e:Ax P [] i m1=(if m1.top.k=1 then(if m1.top.y then m1.pop else m1.jump i.arg) else m1.fail 5 i):=by unfold Ax;rw[ho] <;> rfl
  rw[e];split
  ·split
   ·exact z3pa
   ·exact Re (m:=m1) Er rfl _ (hjmp z66a)
  ·exact z26a
 ·have e:Ax P [] i m1=(if m1.top.k=1 then(if m1.top.y then m1.jump i.arg else m1.pop) else m1.fail 5 i):=by unfold Ax;rw[ho] <;> rfl
  rw[e];split
  ·split
   ·exact Re (m:=m1) Er rfl _ (hjmp z66a)
   ·exact z3pa
  ·exact z26a
 ·have e:Ax P [] i m1=m1.J6 i (fun m'=>if m'.calls.length=40 then m'.fail 9 i else
    match P.fns[i.arg.toNat]? with
    | some f=>{ m' with calls:=m'.calls++[m'.now] }.body P [] i.arg.toNat f
    | none=>m'):=by unfold Ax;rw[ho] <;> rfl
  rw[e];unfold MS.J6;split
  ·exact z26a
  ·rename_i hf;have hf':m.fuel≠0:=by rw[←hme]at hf;exact hf
   have h7:=hsq2 (.inr ho) hf';rw[if_neg z4sa]at h7;have hok:Kv lab L P { m1 with fuel:=m1.fuel-1 }:=⟨Er.now,Er.calls,Er.gl,Er.lotn,Er.none⟩;have hfu:m1.fuel=m.fuel:=by rw[←hme]
   have hca:m1.calls=m.calls:=by rw[←hme]
   have hno:m1.now=⟨m.now.steps,m.now.pc+1,m.now.base⟩:=by rw[←hme]
   dsimp only;split
   ·exact⟨Nt (m:={ m1 with fuel:=m1.fuel-1 }) rfl hok,fun q=>by cases q⟩
   ·split
    ·rename_i f hfn;have hlt:i.arg.toNat<m1.lots.length:=by
      rw[Er.lotn];exact(List.getElem?_eq_some_iff.1 hfn).1
     unfold MS.body;rw[show({ m1 with fuel:=m1.fuel-1,calls:=m1.calls++[m1.now] }:MS).lots=m1.lots from rfl,List.getElem?_eq_getElem hlt];dsimp only;rw[show taken i.arg.toNat (m1.lots[i.arg.toNat]).calls []=none from rfl];dsimp only;rw[Er.none _ (List.getElem_mem hlt)];dsimp only;have hfs:=hP.2 f (List.mem_of_getElem? hfn);refine⟨⟨hfs,fun g hg=>?_,Er.gl,?_,fun l hl=>?_⟩,fun _=>?_⟩
     ·have hg':g∈m1.calls++[m1.now]:=hg;rcases List.mem_append.1 hg' with q|q
      ·exact Er.calls g q
      ·rw[List.mem_singleton.1 q];exact Er.now
     ·show(m1.lots.set _ _).length=_;rw[List.length_set];exact Er.lotn
     ·have hl':l∈m1.lots.set i.arg.toNat ⟨(m1.lots[i.arg.toNat]).calls+1,none,(m1.lots[i.arg.toNat]).fast,(m1.lots[i.arg.toNat]).drops⟩:=hl;rcases List.mem_or_eq_of_mem_set hl' with q|q
      ·exact Er.none l q
      ·rw[q]
     ·have k1:=U8 (L:=L) (lab:=lab) ⟨f.steps,0,((m1.vals.length:Nat):Int)-(f.params:Nat)⟩ hfs.1.2.1;dsimp only at k1;show(m1.fuel-1)*(L+2)+((m1.calls++[m1.now]).map (F8 lab L)).sum+F8 lab L ⟨f.steps,0,((m1.vals.length:Nat):Int)-(f.params:Nat)⟩<_;rw[hfu,hca,hno,List.map_append,List.sum_append,List.map_cons,List.map_nil,List.sum_cons,List.sum_nil];omega
    ·refine⟨hok,fun _=>?_⟩;show(m1.fuel-1)*(L+2)+(m1.calls.map (F8 lab L)).sum+F8 lab L m1.now<_;rw[hfu,hca,hno];omega
 all_goals
  have hlv:∀m':MS,m'.now=m1.calls.getLastD ⟨[],0,0⟩->m'.calls=m1.calls.dropLast->m'.fuel=m1.fuel->m'.lots=m1.lots->m'.gl.length=m1.gl.length->dn lab L P (Hh lab L m) m':=by
   intro m' h1 h2 h3 h4 h5;have hca:m1.calls=m.calls:=by rw[←hme]
   have hfu:m1.fuel=m.fuel:=by rw[←hme]
   have hz:F8 lab L ⟨[],0,0⟩=0:=by unfold F8;rw[if_pos z4wa]
   have hsum:∀l:List Fr,(l.dropLast.map (F8 lab L)).sum+F8 lab L (l.getLastD ⟨[],0,0⟩)=(l.map (F8 lab L)).sum:=by
    intro l;rcases List.eq_nil_or_concat l with q|⟨l',x,q⟩
    ·rw[q];simp[hz]
    ·rw[q,List.concat_eq_append,List.dropLast_concat,List.getLastD_concat];simp
   have hnow:K2 lab L P.globals (m1.calls.getLastD ⟨[],0,0⟩).steps:=by
    rw[List.getLastD_eq_getLast?];cases hq:m1.calls.getLast? with
    | none=>exact hP.1
    | some f=>exact Er.calls f (List.mem_of_getLast? hq)
   refine⟨⟨by rw[h1];exact hnow,fun f hf=>Er.calls f (by rw[h2]at hf;exact List.dropLast_subset _ hf),by rw[h5];exact Er.gl,by rw[h4];exact Er.lotn,by rw[h4];exact Er.none⟩,fun _=>?_⟩;unfold Hh;rw[h1,h2,h3,hfu];have:=hsum m1.calls;rw[hca]at this;rw[hca];omega
 ·have e:Ax P [] i m1={ (m1.cut m1.now.base).push Bp with now:=m1.calls.getLastD ⟨[],0,0⟩,calls:=m1.calls.dropLast }:=by unfold Ax;rw[ho] <;> rfl
  rw[e];exact hlv _ rfl rfl rfl rfl rfl
 ·have e:Ax P [] i m1={ (m1.pop.cut m1.now.base).push m1.top with now:=m1.calls.getLastD ⟨[],0,0⟩,calls:=m1.calls.dropLast }:=by unfold Ax;rw[ho] <;> rfl
  rw[e];exact hlv _ rfl rfl rfl rfl rfl
theorem Aic(hP:K2 lab L P.globals []/\∀f∈P.fns,K2 lab L P.globals f.steps):∀(n:Nat) (m:MS),Kv lab L P m->(m.code=0->Hh lab L m<n)->0<n->∃m',Fm P [] n m=some m'/\Kv lab L P m':=by
 intro n;induction n with
 | zero=>intro m _ _ h;omega
 | succ n ih=>
  intro m hm hn _;rw[Fm];by_cases hc:m.code=0
  ·rw[if_neg (by simp[hc])];cases hi:m.now.steps[m.now.pc]? with
   | none=>exact⟨m,rfl,hm⟩
   | some i=>
    obtain⟨k1,k2⟩:=Zb hP hm hi;have hn':=hn hc;have hph:1<=F8 lab L m.now:=by
     exact z3za
    have hp0:1<=Hh lab L m:=by unfold Hh;omega
    exact ih _ k1 (fun q=>by have:=k2 q;omega) z4sa
  ·rw[if_pos hc];exact⟨m,rfl,hm⟩
theorem Afb(hP:K2 lab L P.globals []/\∀f∈P.fns,K2 lab L P.globals f.steps):∀(n:Nat) (m:MS),Kv lab L P m->nice P [] n m:=by
 intro n;induction n with
 | zero=>intro m _;trivial
 | succ n ih=>
  intro m hm _ i hi;exact⟨⟨fun q=>by rw[hm.gl];exact(hm.now.2.2 i (List.mem_of_getElem? hi)).1 q,fun _=>⟨hm.none,(hm.now.2.2 i (List.mem_of_getElem? hi)).2.1⟩⟩,ih _ (Zb hP hm hi).1⟩
def M8(a b:Nat)(m':MS):Prop:=m'.line=a\/m'.line=b
theorem Fl{p:Prop}[Decidable p]{a b:MS}{x y:Nat}(ha:M8 x y a)(hb:M8 x y b):M8 x y (if p then a else b):=by
 split
 ·exact ha
 ·exact hb
theorem Rr{k:Int->Int->MS->MS}(h:∀a b m',m'.line=m.line->M8 m.line i.line (k a b m')):M8 m.line i.line (m.ints i k):=Fl (h _ _ _ rfl) (.inr rfl)
theorem A1p{n:Int}{k:MS->MS}{x:Nat}(h:∀m':MS,m'.line=m.line->M8 x i.line (k m')):M8 x i.line (m.room n i k):=Fl (.inr rfl) (h _ rfl)
theorem A1o{u p:PV}{k:MS->MS}{x:Nat}(h:∀m':MS,m'.line=m.line->M8 x i.line (k m')):M8 x i.line (m.place u p i k):=by
 unfold MS.place;split
 ·exact .inr rfl
 ·exact Fl (.inr rfl) (Fl (.inr rfl) (h _ rfl))
theorem A1n:M8 m.line i.line (m.join i):=Fl (.inr rfl) (.inl rfl)
theorem Aev(P:D5)(bets:List Da)(n:Nat)(f:Fn)(m:MS):(m.body P bets n f).line=m.line:=by
 unfold MS.body;split
 ·rfl
 ·dsimp only;split
  ·rfl
  ·split <;> rfl
theorem z32a {P:Prop} (h:P:=by
  exact Fl (.inl rfl) (.inr rfl)):P:=h
theorem z4ha {P:Prop} (h:P:=by
  exact Fl (Fl (.inl rfl) (.inl rfl)) (.inr rfl)):P:=h
theorem Aeu(P:D5)(bets:List Da):M8 m.line i.line (Ax P bets i m):=by
 unfold Ax;split;all_goals try exact .inl rfl
 ·exact Fl (Fl (.inr rfl) (Fl (.inl rfl) (.inr rfl))) (Fl (.inl rfl) (.inr rfl))
 ·exact z4ha
 ·exact z4ha
 ·exact z4ha
 ·exact z32a
 ·exact Fl A1n (Rr (fun _ _ _ q=>.inl q))
 ·exact A1n
 ·exact Rr (fun _ _ _ q=>.inl q)
 ·exact Rr (fun _ _ _ q=>.inl q)
 ·exact Rr (fun _ _ _ q=>Fl (.inr rfl) (.inl q))
 ·exact Fl (.inr rfl) (.inl rfl)
 ·exact Rr (fun _ _ _ q=>Fl (.inr rfl) (.inl q))
 ·exact Fl (.inr rfl) (.inl rfl)
 ·exact z32a
 ·exact z32a
 ·exact z32a
 ·exact z32a
 ·exact z32a
 ·exact z32a
 ·exact A1p (fun _ q=>.inl q)
 ·split
  ·exact .inl rfl
  ·exact .inr rfl
 ·exact Fl (A1p (fun _ q=>.inl q)) (.inr rfl)
 ·exact A1o (fun _ q=>.inl q)
 ·exact Fl (A1o (fun _ q=>.inl q)) (.inr rfl)
 ·exact Fl (.inr rfl) (.inl rfl)
 ·refine Fl (.inr rfl) (Fl (.inr rfl) ?_);split
  ·exact .inl (Aev _ _ _ _ _)
  ·exact .inl rfl
theorem Aid(hP:K2 lab L P.globals []/\∀f∈P.fns,K2 lab L P.globals f.steps):∀(n:Nat) (m m':MS),Kv lab L P m->m.line<=5000->Fm P [] n m=some m'->m'.line<=5000:=by
 intro n;induction n with
 | zero=>intro m m' _ _ h;rw[Fm]at h;cases h
 | succ n ih=>
  intro m m' hm hl h;rw[Fm]at h;split at h
  ·cases h;exact hl
  ·split at h
   ·cases h;exact hl
   ·rename_i i hi;refine ih _ _ (Zb hP hm hi).1 ?_ h;rcases Aeu (m:={ m with now:=⟨m.now.steps,m.now.pc+1,m.now.base⟩ }) (i:=i) P []with q|q
    ·show(Kl P [] i m).line<=5000;unfold Kl;rw[q];exact hl
    ·show(Kl P [] i m).line<=5000;unfold Kl;rw[q];exact(hm.now.2.2 i (List.mem_of_getElem? hi)).2.2
end
section
open Go.Deep (BT)
def Pk(n:Nat)(f:Fr):Fr:=⟨f.steps.map (Fz n),f.pc,f.base⟩
def A3m(n:Nat)(f:Form):Form:=⟨f.slots,f.steps.map (Fz n),f.bet⟩
def Qr(n:Nat)(l:Fs):Fs:=⟨l.calls,l.form.map (A3m n),l.fast,l.drops⟩
def D1(n:Nat)(m:MS):MS:={ m with now:=Pk n m.now,calls:=m.calls.map (Pk n),line:=if m.code=0 then m.line else m.line+n,lots:=m.lots.map (Qr n) }
variable {n:Nat} {m:MS} {i:Af}
theorem Ajm(h:7<=i.op/\i.op<=42):(Fz n i).line=i.line+n:=by unfold Fz;rw[if_neg z4sa]
theorem Ajn:(Fz n i).op=i.op:=by unfold Fz;split <;> rfl
theorem Ajk:(Fz n i).arg=i.arg:=by unfold Fz;split <;> rfl
theorem Gp(h:7<=i.op/\i.op<=42){c:Nat}(hc:c≠0):(D1 n m).fail c (Fz n i)=D1 n (m.fail c i):=by
 unfold MS.fail D1;rw[Ajm h];dsimp only;rw[if_neg hc]
theorem Fp{p:Prop}[Decidable p]{a b a' b':MS}(ha:a'=D1 n a)(hb:b'=D1 n b):(if p then a' else b')=D1 n (if p then a else b):=by
 split
 ·exact ha
 ·exact hb
theorem Un(h:7<=i.op/\i.op<=42){k k':Int->Int->MS->MS}(hk:∀a b m',k' a b (D1 n m')=D1 n (k a b m')):(D1 n m).ints (Fz n i) k'=D1 n (m.ints i k):=by
 unfold MS.ints MS.two;exact Fp (hk m.pop.top.n m.top.n m.pop.pop) (Gp h z4sa)
theorem A3q(h:7<=i.op/\i.op<=42){a:Int}{k k':MS->MS}(hk:∀m',k' (D1 n m')=D1 n (k m')):(D1 n m).room a (Fz n i) k'=D1 n (m.room a i k):=by
 unfold MS.room;exact Fp (Gp h z4sa) (hk { m with cells:=m.cells+a.toNat })
theorem A3r(h:7<=i.op/\i.op<=42){k k':MS->MS}(hk:∀m',k' (D1 n m')=D1 n (k m')):(D1 n m).J6 (Fz n i) k'=D1 n (m.J6 i k):=by
 unfold MS.J6;exact Fp (Gp h z4sa) (hk { m with fuel:=m.fuel-1 })
theorem A3p(h:7<=i.op/\i.op<=42){u p:PV}{k k':MS->MS}(hk:∀m',k' (D1 n m')=D1 n (k m')):(D1 n m).place u p (Fz n i) k'=D1 n (m.place u p i k):=by
 unfold MS.place;show(match sizeOf' m u with|none=>_|some z=>_)=_;cases sizeOf' m u with
 | none=>exact Gp h z4sa
 | some z=>exact Fp (Gp h z4sa) (Fp (Gp h z4sa) (hk m))
theorem A3o(h:7<=i.op/\i.op<=42):(D1 n m).join (Fz n i)=D1 n (m.join i):=by
 unfold MS.join MS.two;exact Fp (Gp (m:=m.pop.pop) h z4sa) rfl
theorem Ajt(h:7<=i.op/\i.op<=42):(D1 n m).L8 (Fz n i)=D1 n (m.L8 i):=by
 unfold MS.L8;exact Fp (Gp (m:=m.pop) h z4sa) rfl
theorem Ajr(P:D5)(j:Nat)(f:Fn):(D1 n m).body (Kg n P) [] j (Sg n f)=D1 n (m.body P [] j f):=by
 unfold MS.body;rw[show(D1 n m).lots=m.lots.map (Qr n) from rfl,List.getElem?_map];cases hl:m.lots[j]? with
 | none=>rfl
 | some l=>
  dsimp only[Option.map_some];rw[show taken j (Qr n l).calls []=none from rfl,show taken j l.calls []=none from rfl];dsimp only;rw[show(Qr n l).form=l.form.map (A3m n) from rfl];have hs:∀(x:Fs) (sl:Nat) (st:List Af),(MS.Ks j (Qr n x) (D1 n m)).begin sl (st.map (Fz n)) f.params=D1 n ((m.Ks j x).begin sl st f.params):=fun x sl st=>by
   unfold MS.Ks MS.begin D1;dsimp only;rw[List.map_set];rfl
  cases l.form with
  | none=>exact hs ⟨l.calls+1,none,l.fast,l.drops⟩ f.slots f.steps
  | some fo=>
   dsimp only[Option.map_some];have hf:∀(ks:List Kn) (z:Int),Pb (D1 n m) z ks=Pb m z ks:=by
    intro ks;induction ks with
    | nil=>intro z;rfl
    | cons k r ih=>intro z;rw[Pb,Pb,ih];rfl
   rw[hf];refine Fp ?_ ?_
   ·exact hs ⟨l.calls+1,some fo,l.fast+1,l.drops⟩ fo.slots fo.steps
   ·exact hs ⟨l.calls+1,none,l.fast,l.drops+1⟩ f.slots f.steps
theorem z38a {P:Prop} (h:P:=by
  exact Fp rfl (Gp hm z4sa)):P:=h
theorem Ajq(P:D5):Ax (Kg n P) [] (Fz n i) (D1 n m)=D1 n (Ax P [] i m):=by
 by_cases hm:7<=i.op/\i.op<=42
 ·unfold Ax;rw[Ajn,Ajk];split;all_goals try omega
  all_goals try rfl
  all_goals try (first|exact A3o hm|exact Ajt hm|exact Un hm (fun _ _ _=>rfl))
  ·exact Fp (A3r (m:=m.pop) hm (fun m'=>Fp rfl (Gp hm z4sa))) (Fp rfl (Gp (m:=m.pop) hm z4sa))
  ·exact Fp (Fp rfl rfl) (Gp (m:=m.pop) hm z4sa)
  ·exact Fp (Fp rfl rfl) (Gp hm z4sa)
  ·exact Fp (Fp rfl rfl) (Gp hm z4sa)
  ·exact z38a
  ·exact Fp (A3o hm) (Un hm (fun _ _ _=>rfl))
  ·exact Un hm (fun _ _ _=>Fp (Gp hm z4sa) rfl)
  ·exact Fp (Gp (m:=m.pop.pop) hm z4sa) rfl
  ·exact Un hm (fun _ _ _=>Fp (Gp hm z4sa) rfl)
  ·exact Fp (Gp (m:=m.pop.pop) hm z4sa) rfl
  ·exact z38a
  ·exact Fp rfl (Gp (m:=m.pop) hm z4sa)
  ·exact z38a
  ·exact z38a
  ·exact z38a
  ·exact z38a
  ·exact A3q hm (fun m'=>rfl)
  ·show(match sizeOf' m m.top with|some z=>_|none=>_)=_;cases sizeOf' m m.top with
   | none=>exact Gp (m:=m.pop) hm z4sa
   | some z=>rfl
  ·exact Fp (A3q (m:=m.pop.pop) hm (fun m'=>rfl)) (Gp (m:=m.pop.pop) hm z4sa)
  ·exact A3p (m:=m.pop.pop) hm (fun m'=>rfl)
  ·exact Fp (A3p (m:=m.pop.pop.pop) hm (fun m'=>rfl)) (Gp (m:=m.pop.pop.pop) hm z4sa)
  ·refine A3r hm (fun m'=>?_);have hl:(D1 n m').calls.length=m'.calls.length:=by show(m'.calls.map _).length=_;simp
   rw[hl,show(Kg n P).fns=P.fns.map (Sg n) from rfl,List.getElem?_map];refine Fp (Gp hm z4sa) ?_;cases P.fns[i.arg.toNat]? with
   | none=>rfl
   | some f=>
    have e:({ D1 n m' with calls:=(D1 n m').calls++[(D1 n m').now] }:MS)=D1 n { m' with calls:=m'.calls++[m'.now] }:=by
     unfold D1;dsimp only;rw[List.map_append];rfl
    dsimp only[Option.map_some];rw[e];exact Ajr P _ f
 ·have e:Fz n i=i:=by unfold Fz;rw[if_pos z4sa]
  rw[e];unfold Ax;have hl:(D1 n m).calls.getLastD ⟨[],0,0⟩=Pk n (m.calls.getLastD ⟨[],0,0⟩):=by
   show(m.calls.map (Pk n)).getLastD ⟨[],0,0⟩=_;rw[List.getLastD_eq_getLast?,List.getLastD_eq_getLast?,List.getLast?_map];cases m.calls.getLast? <;> rfl
  have hd:(D1 n m).calls.dropLast=m.calls.dropLast.map (Pk n):=by
   show(m.calls.map (Pk n)).dropLast=_;rw[List.map_dropLast]
  split;all_goals try omega
  all_goals try rfl
  ·rw[hl,hd];rfl
  ·rw[hl,hd];rfl
theorem Ajs(P:D5):∀(k:Nat) (m:MS),Fm (Kg n P) [] k (D1 n m)=(Fm P [] k m).map (D1 n):=by
 intro k;induction k with
 | zero=>intro m;rfl
 | succ k ih=>
  intro m;rw[Fm,Fm];show(if m.code≠0 then some (D1 n m) else match (m.now.steps.map (Fz n))[m.now.pc]? with|none=>some (D1 n m)|some i=>Fm (Kg n P) [] k (Kl (Kg n P) [] i (D1 n m)))=_;by_cases hc:m.code≠0
  ·rw[if_pos hc,if_pos hc];rfl
  ·rw[if_neg hc,if_neg hc,List.getElem?_map];cases m.now.steps[m.now.pc]? with
   | none=>rfl
   | some i=>
    dsimp only[Option.map_some];have e:Kl (Kg n P) [] (Fz n i) (D1 n m)=D1 n (Kl P [] i m):=by
     unfold Kl;exact Ajq (m:={ m with now:=⟨m.now.steps,m.now.pc+1,m.now.base⟩ }) P
    rw[e];exact ih _
theorem Aju(P:D5):mstart (Kg n P)=D1 n (mstart P):=by
 unfold mstart MS.begin D1 Kg;dsimp only;simp[Pk,Qr]
theorem Aie(P:D5)(k:Nat){m':MS}(h:Fm P [] k (mstart P)=some m'):Fm (Kg n P) [] k (mstart (Kg n P))=some (D1 n m'):=by
 rw[Aju,Ajs,h];rfl
end
section
open Go.Deep (BT)
def I1(N G A:Nat)(i:Af):Prop:=(i.v.r=none/\i.v.k≠4/\Ef i.v)/\(i.op<=44/\Nr i.op=true/\i.line<=5000)/\(Je i.op\/(0<=i.arg/\i.arg<=A/\(i.op=42->i.arg.toNat<N)/\(i.op=2\/i.op=4->i.arg.toNat<G)))
def JP(e:Em)(p:Nat):Prop:=∃i,e.st[p]?=some i/\Je i.op
structure KI (N G A : Nat) (e : Em) : Prop where
 ok:∀i∈e.st,I1 N G A i
 bk:∀x∈e.lps,∀j∈x.2,JP e j
def vs(e:Em):Nat:=max e.slots e.loc.length
variable {N G A:Nat} {e:Em}
theorem JP.app{p:Nat}(h:JP e p)(loc:List Nm)(slots:Nat)(is:List Af)(lps:List (Nat×List Nat)):JP ⟨loc,slots,e.st++is,lps⟩ p:=by
 obtain⟨i,h1,h2⟩:=h;obtain⟨q,_⟩:=List.getElem?_eq_some_iff.1 h1;exact⟨i,by rw[List.getElem?_append_left q];exact h1,h2⟩
theorem JP.land{p j:Nat}(h:JP e p):JP (e.land j) p:=by
 obtain⟨i,h1,h2⟩:=h;show ∃i,(Gm j (e.st.length:Nat) e.st)[p]?=some i/\Je i.op;rw[Tq];split
 ·rename_i q;rw[←q,h1];exact⟨_,rfl,h2⟩
 ·exact⟨i,h1,h2⟩
theorem KI.add(h:KI N G A e){i0:Af}(hi:I1 N G A i0)(loc:List Nm)(slots:Nat):KI N G A ⟨loc,slots,e.st++[i0],e.lps⟩:=by
 refine⟨fun i q=>?_,fun x hx j hj=>(h.bk x hx j hj).app _ _ _ _⟩;rcases List.mem_append.1 q with q|q
 ·exact h.ok i q
 ·rw[List.mem_singleton.1 q];exact hi
theorem KI.land{j:Nat}(h:KI N G A e)(hj:JP e j):KI N G A (e.land j):=by
 refine⟨fun i q=>?_,fun x hx k hk=>(h.bk x hx k hk).land⟩;obtain⟨p,hp⟩:=List.mem_iff_getElem?.1 q;have hp:(Gm j (e.st.length:Nat) e.st)[p]?=some i:=hp;rw[Tq]at hp;split at hp
 ·obtain⟨i0,k1,k2⟩:=hj;rw[k1]at hp;cases hp;have:=h.ok i0 (List.mem_of_getElem? k1);exact⟨this.1,this.2.1,.inl k2⟩
 ·exact h.ok i (List.mem_of_getElem? hp)
theorem KI.Dn:∀(l:List Nat) {e:Em},KI N G A e->(∀j∈l,JP e j)->KI N G A (e.Dn l)/\∀p,JP e p->JP (e.Dn l) p:=by
 intro l;induction l with
 | nil=>intro e h _;exact⟨h,fun _ q=>q⟩
 | cons j r ih=>
  intro e h hj;obtain⟨k1,k2⟩:=ih (h.land (hj j z4wa)) (fun i hi=>(hj i (by simp[hi])).land);exact⟨k1,fun p hp=>k2 p hp.land⟩
def Ce(N G A s:Nat)(f:Em->Em):Prop:=∀e,KI N G A e->vs e+s<=A->KI N G A (f e)/\(∀p,JP e p->JP (f e) p)/\vs (f e)<=vs e+s/\e.slots<=(f e).slots
variable {s s1 s2 s3:Nat} {f f1 f2 f3:Em->Em}
theorem Ce.eq{g:Em->Em}(h:Ce N G A s f)(q:∀x,g x=f x):Ce N G A s g:=by
 have:g=f:=funext q;rw[this];exact h
theorem Ce.more(h:Ce N G A s1 f)(hs:s1<=s):Ce N G A s f:=fun e hk hv=>by
 obtain⟨k1,k2,k3,k4⟩:=h e hk z4sa;exact⟨k1,k2,by omega,k4⟩
theorem Ce.M1:Ce N G A 0 (fun e=>e):=fun _ h _=>⟨h,fun _ q=>q,Nat.le_refl _,Nat.le_refl _⟩
theorem Ce.comp(h1:Ce N G A s1 f1)(h2:Ce N G A s2 f2):Ce N G A (s1+s2) (fun e=>f2 (f1 e)):=fun e hk hv=>by
 obtain⟨k1,k2,k3,k4⟩:=h1 e hk z4sa;obtain⟨q1,q2,q3,q4⟩:=h2 (f1 e) k1 z4sa;exact⟨q1,fun p hp=>q2 p (k2 p hp),by show vs (f2 (f1 e))<=_;omega,by show e.slots<=(f2 (f1 e)).slots;omega⟩
theorem Ce.ins(h:Ce N G A s f)(i:Em->Af)(hi:∀e,KI N G A (f e)->vs (f e)<=A->I1 N G A (i e)):Ce N G A s (fun e=>⟨(f e).loc,(f e).slots,(f e).st++[i e],(f e).lps⟩):=fun e hk hv=>by
 obtain⟨k1,k2,k3,k4⟩:=h e hk hv;exact⟨k1.add (hi e k1 z4sa) _ _,fun p hp=>(k2 p hp).app _ _ _ _,k3,k4⟩
theorem Qi:Bp.r=none/\Bp.k≠4/\Ef Bp:=⟨rfl,by show(0:Nat)≠4;decide,Pa⟩
theorem Ce.step(h:Ce N G A s f)(o:Nat)(a:Em->Int)(ln:Nat)(hln:ln<=5000)(ho:o<=44/\Nr o=true)(ha:Je o\/∀e,vs (f e)<=A->0<=a e/\a e<=A/\(o=42->(a e).toNat<N)/\(o=2\/o=4->(a e).toNat<G)):Ce N G A s (fun e=>(f e).step o (a e) ln):=
 h.ins (fun e=>⟨o,a e,ln,Bp⟩) (fun e _ hv=>⟨Qi,⟨ho.1,ho.2,hln⟩,ha.imp id (fun q=>q e hv)⟩)
theorem Ce.zero(h:Ce N G A s f)(o:Nat)(ln:Nat)(hln:ln<=5000)(ho:(o<=44/\Nr o=true)/\o≠42/\o≠2/\o≠4):Ce N G A s (fun e=>(f e).step o 0 ln):=
 h.step o (fun _=>0) ln hln ho.1 (.inr (fun _ _=>⟨by omega,by omega,fun q=>absurd q ho.2.1,fun q=>by omega⟩))
theorem Ce.F0(v:PV)(hv:v.r=none/\v.k≠4/\Ef v):Ce N G A 0 (fun e=>e.F0 v):=
 Ce.M1.ins (fun _=>⟨0,0,0,v⟩) (fun _ _ _=>⟨hv,⟨by dsimp only;omega,rfl,by dsimp only;omega⟩,.inr ⟨by dsimp only;omega,by dsimp only;omega,(fun q=>by cases q),(fun q=>by rcases q with q|q <;> cases q)⟩⟩)
theorem Aea{x:Nm}:∀{l:List Nm} {i:Nat},L4 x l=some i->i<l.length:=by
 intro l;induction l with
 | nil=>intro i h;cases h
 | cons y r ih=>
  intro i h;rw[L4]at h;cases hq:L4 x r with
  | some j=>rw[hq]at h;cases h;have:=ih hq;simp;omega
  | none=>
   rw[hq]at h;dsimp only at h;split at h
   ·cases h;simp
   ·cases h
theorem A0p{x:Nm}:∀{l:List Nm} {i:Nat},Kj x l=some i->i<l.length:=by
 intro l;induction l with
 | nil=>intro i h;cases h
 | cons y r ih=>
  intro i h;rw[Kj]at h;split at h
  ·cases h;simp
  ·cases hq:Kj x r with
   | some j=>rw[hq]at h;cases h;have:=ih hq;simp;omega
   | none=>rw[hq]at h;cases h
theorem Ce.var(h:Ce N G A s f)(gl:List Nm)(hg:gl.length<=G)(hGA:G<=A)(x:Nm)(a b:Nat)(ha:a=1\/a=3)(hb:b=2\/b=4):Ce N G A s (fun e=>(f e).var gl x a b):=by
 intro e hk hv;obtain⟨k1,k2,k3,k4⟩:=h e hk hv;show KI N G A ((f e).var gl x a b)/\(∀p,JP e p->JP ((f e).var gl x a b) p)/\vs ((f e).var gl x a b)<=_/\_<=((f e).var gl x a b).slots;unfold Em.var;have hl:(f e).loc.length<=vs (f e):=Nat.le_max_right _ _;split
 ·rename_i i hi;have:=Aea hi;exact⟨k1.add ⟨Qi,by rcases ha with rfl|rfl <;> exact⟨by dsimp only;omega,rfl,by dsimp only;omega⟩,.inr ⟨by dsimp only;omega,by dsimp only;omega,fun q=>by dsimp only at q;omega,fun q=>by dsimp only at q;omega⟩⟩ _ _,fun p hp=>(k2 p hp).app _ _ _ _,k3,k4⟩
 ·split
  ·rename_i i hi;have:=A0p hi;exact⟨k1.add ⟨Qi,by rcases hb with rfl|rfl <;> exact⟨by dsimp only;omega,rfl,by dsimp only;omega⟩,.inr ⟨by dsimp only;omega,by dsimp only;omega,fun q=>by dsimp only at q;omega,fun _=>by dsimp only;omega⟩⟩ _ _,fun p hp=>(k2 p hp).app _ _ _ _,k3,k4⟩
  ·exact⟨k1,k2,k3,k4⟩
theorem j6(k:Nat)(hk:6<=k/\k<=10)(a:Int){ln:Nat}(hln:ln<=5000):I1 N G A ⟨k,a,ln,Bp⟩:=by
 refine⟨Qi,⟨by dsimp only;omega,?_,hln⟩,.inl hk⟩;have:k=6\/k=7\/k=8\/k=9\/k=10:=by omega
 rcases this with rfl|rfl|rfl|rfl|rfl <;> rfl
theorem Rm(e:Em)(k:Nat)(hk:6<=k/\k<=10)(a:Int)(ln:Nat):JP (e.step k a ln) e.st.length:=by
 refine⟨⟨k,a,ln,Bp⟩,?_,hk⟩;show(e.st++[_])[e.st.length]?=_;simp
theorem Ce.Hw:Ce N G A 0 Em.Hw:=by
 intro e hk _;unfold Em.Hw;split
 ·exact⟨hk,fun _ q=>q,Nat.le_refl _,Nat.le_refl _⟩
 ·rename_i s bs r hq;refine⟨⟨(hk.add (j6 6 z4sa 0 (Nat.zero_le _)) e.loc e.slots).ok,fun x hx j hj=>?_⟩,fun p hp=>hp.app _ _ _ _,Nat.le_refl _,Nat.le_refl _⟩;rcases List.mem_cons.1 hx with rfl|hx
  ·rcases List.mem_append.1 hj with hj|hj
   ·exact(hk.bk (s,bs) (by rw[hq];simp) j hj).app _ _ _ _
   ·rw[List.mem_singleton.1 hj];obtain⟨i,h1,h2⟩:=Rm e 6 z4sa 0 0;exact⟨i,h1,h2⟩
  ·exact(hk.bk x (by rw[hq];simp[hx]) j hj).app _ _ _ _
theorem Ce.cnt:Ce N G A 0 Em.cnt:=by
 intro e hk _;unfold Em.cnt;split
 ·exact⟨hk,fun _ q=>q,Nat.le_refl _,Nat.le_refl _⟩
 ·exact⟨hk.add (j6 6 z4sa _ (Nat.zero_le _)) e.loc e.slots,fun p hp=>hp.app _ _ _ _,Nat.le_refl _,Nat.le_refl _⟩
theorem Ce.jmp(h:Ce N G A s f)(k:Nat)(hk:6<=k/\k<=10)(a:Em->Int){ln:Nat}(hln:ln<=5000):Ce N G A s (fun e=>(f e).step k (a e) ln):=h.ins (fun e=>⟨k,a e,ln,Bp⟩) (fun _ _ _=>j6 k hk _ hln)
theorem Ce.bool(h1:Ce N G A s1 f1)(h2:Ce N G A s2 f2)(o:Nat){line:Nat}(hln:line<=5000)(ho:6<=o/\o<=10):Ce N G A (s1+s2) (fun e=>((f2 ((f1 e).step o 0 line)).step 11 0 line).land (f1 e).st.length):=by
 intro e hk hv;obtain⟨k1,k2,k3,k4⟩:=(h1.jmp o ho (fun _=>0) hln) e hk z4sa;dsimp only at k1 k2 k3 k4;obtain⟨q1,q2,q3,q4⟩:=(h2.zero 11 line hln ⟨⟨by omega,rfl⟩,by omega,by omega,by omega⟩) _ k1 z4sa;dsimp only at q1 q2 q3 q4;exact⟨q1.land (q2 _ (Rm (f1 e) o ho 0 line)),fun p hp=>(q2 p (k2 p hp)).land,(show vs (f2 ((f1 e).step o 0 line))<=_ from by have:vs ((f2 ((f1 e).step o 0 line)).step 11 0 line)=vs (f2 ((f1 e).step o 0 line)):=rfl;omega),(show e.slots<=(f2 ((f1 e).step o 0 line)).slots from Nat.le_trans k4 q4)⟩
theorem Ce.if (h1:Ce N G A s1 f1)(h2:Ce N G A s2 f2)(h3:Ce N G A s3 f3){line:Nat}(hln:line<=5000):Ce N G A (s1+s2+s3) (fun e=>(f3 (((f2 ((f1 e).step 8 0 line)).step 6 0 0).land (f1 e).st.length)).land (f2 ((f1 e).step 8 0 line)).st.length):=by
 intro e hk hv;obtain⟨k1,k2,k3,k4⟩:=(h1.jmp 8 z4sa (fun _=>0) hln) e hk z4sa;dsimp only at k1 k2 k3 k4;obtain⟨q1,q2,q3,q4⟩:=(h2.jmp 6 z4sa (fun _=>0) (Nat.zero_le _)) _ k1 z4sa;dsimp only at q1 q2 q3 q4;have v2:vs (((f2 ((f1 e).step 8 0 line)).step 6 0 0).land (f1 e).st.length)=vs ((f2 ((f1 e).step 8 0 line)).step 6 0 0):=rfl;obtain⟨r1,r2,r3,r4⟩:=h3 _ (q1.land (q2 _ (Rm (f1 e) 8 z4sa 0 line))) z4sa;have r4':((f2 ((f1 e).step 8 0 line)).step 6 0 0).slots<=(f3 (((f2 ((f1 e).step 8 0 line)).step 6 0 0).land (f1 e).st.length)).slots:=r4;exact⟨r1.land (r2 _ (JP.land (Rm _ 6 z4sa 0 0))),fun p hp=>(r2 p (q2 p (k2 p hp)).land).land,(show vs (f3 _)<=_ from by omega),(show e.slots<=(f3 _).slots from Nat.le_trans (Nat.le_trans k4 q4) r4')⟩
theorem Ce.while(h1:Ce N G A s1 f1)(h2:Ce N G A s2 f2){line:Nat}(hln:line<=5000):Ce N G A (s1+s2) (fun e=>(Em.Dn (((f2 ((f1 e.open').step 7 0 line)).step 6 (e.st.length:Nat) 0).land (f1 e.open').st.length).Kc (((f2 ((f1 e.open').step 7 0 line)).step 6 (e.st.length:Nat) 0).land (f1 e.open').st.length)).close):=by
 intro e hk hv;have J2:KI N G A e.open':=⟨hk.ok,fun x hx j hj=>by
  rcases List.mem_cons.1 hx with rfl|hx
  ·cases hj
  ·exact hk.bk x hx j hj⟩
 have v0:vs e.open'=vs e:=rfl;obtain⟨k1,k2,k3,k4⟩:=(h1.jmp 7 z4sa (fun _=>0) hln) e.open' J2 z4sa;dsimp only at k1 k2 k3 k4;obtain⟨q1,q2,q3,q4⟩:=(h2.jmp 6 z4sa (fun _=>(e.st.length:Nat)) (Nat.zero_le _)) _ k1 z4sa;dsimp only at q1 q2 q3 q4;have r1:=q1.land (q2 _ (Rm (f1 e.open') 7 z4sa 0 line));have r4:e.slots<=((f2 ((f1 e.open').step 7 0 line)).step 6 (e.st.length:Nat) 0).slots:=Nat.le_trans k4 q4;have r3:vs ((f2 ((f1 e.open').step 7 0 line)).step 6 (e.st.length:Nat) 0)<=vs e+(s1+s2):=by omega
 have r2:∀p,JP e p->JP (((f2 ((f1 e.open').step 7 0 line)).step 6 (e.st.length:Nat) 0).land (f1 e.open').st.length) p:=fun p hp=>(q2 p (k2 p hp)).land;dsimp only;generalize hd:((f2 ((f1 e.open').step 7 0 line)).step 6 (e.st.length:Nat) 0).land (f1 e.open').st.length=d at *;have hb:∀j∈d.Kc,JP d j:=fun j hj=>by
  unfold Em.Kc at hj;split at hj
  ·cases hj
  ·rename_i q;exact r1.bk _ (by rw[q];exact List.mem_cons_self) j hj
 obtain⟨t1,t2⟩:=KI.Dn d.Kc r1 hb;have hvd:vs d<=vs e+(s1+s2):=by rw[←hd];exact r3
 have hsd:e.slots<=d.slots:=by rw[←hd];exact r4
 have hls:∀(l:List Nat) (x:Em),(x.Dn l).slots=x.slots:=by
  intro l;induction l with
  | nil=>intro x;rfl
  | cons j r ih=>intro x;rw[Em.Dn,ih];rfl
 refine⟨⟨t1.ok,fun x hx j hj=>t1.bk x (List.mem_of_mem_tail hx) j hj⟩,fun p hp=>t2 p (r2 p hp),?_,?_⟩
 ·show max (d.Dn d.Kc).slots (d.Dn d.Kc).loc.length<=_;rw[hls,Ts];exact hvd
 ·show e.slots<=(d.Dn d.Kc).slots;rw[hls];exact hsd
theorem Ce.cut(h:Ce N G A s f)(n:Em->Nat):Ce N G A s (fun e=>(f e).cut (n e)):=fun e hk hv=>by
 obtain⟨k1,k2,k3,k4⟩:=h e hk hv;refine⟨⟨k1.ok,k1.bk⟩,k2,?_,k4⟩;unfold vs at *;show max (f e).slots ((f e).loc.take (n e)).length<=_;rw[List.length_take];omega
def CK(fns:List (Nm×Nat)):BT A3->Prop
 | .nil=>True
 | .node _ _ l c r=>(l.kd=7->M0 fns l.s≠none)/\CK fns c/\CK fns r
theorem Acq(fns:List (Nm×Nat))(x:Nm)(h:M0 fns x≠none):0<=L3 fns x/\(L3 fns x).toNat<fns.length:=by
 have hf:∃i,Kj x (fns.map Prod.fst)=some i:=by
  induction fns with
  | nil=>exact absurd rfl h
  | cons f r ih=>
   rw[M0]at h;rw[List.map_cons,Kj];by_cases hq:f.1=x
   ·exact⟨0,by rw[if_pos hq]⟩
   ·rw[if_neg hq]at h;obtain⟨i,hi⟩:=ih h;exact⟨i+1,by rw[if_neg hq,hi]⟩
 obtain⟨i,hi⟩:=hf;have:=A0p hi;rw[List.length_map]at this;unfold L3;rw[hi];dsimp only;omega
theorem z3ha {P:Prop} (h:P:=by
  obtain⟨a1,a2⟩:=Bn _ _ _ _ _ h;obtain⟨b1,b2⟩:=Cb _ _ _ _ _ a1;exact⟨b1,fun e=>by omega,b2,a2⟩):P:=h
theorem A3e(fns:List (Nm×Nat)):∀(c:BT A3) (outer cur:List Nm) (wh:Nat) (inn:Bool) (f:C4),(Ba fns c outer cur wh inn f).2.1=0->f.1=0/\CK fns c:=by
 intro c;induction c with
 | nil=>intro outer cur wh inn f h;exact⟨h,trivial⟩
 | node x y l c r Cb Bn=>
  intro outer cur wh inn f h;rw[Ba]at h;by_cases h31:l.kd=31
  ·rw[if_pos h31]at h;exact z3ha
  rw[if_neg h31]at h;by_cases h32:l.kd=32
  ·rw[if_pos h32]at h;exact z3ha
  rw[if_neg h32]at h;by_cases h21:l.kd=21
  ·rw[if_pos h21]at h;obtain⟨a1,a2⟩:=Bn _ _ _ _ _ h;obtain⟨b1,b2⟩:=Cb _ _ _ _ _ a1;exact⟨(Lo z4sa b1).1,fun e=>by omega,b2,a2⟩
  rw[if_neg h21]at h;obtain⟨a1,a2⟩:=Bn _ _ _ _ _ h;obtain⟨b1,b2⟩:=Cb _ _ _ _ _ a1;have hz:f.1=0/\(l.kd=7->M0 fns l.s≠none):=by
   split at b1
   ·exact z24a
   ·split at b1
    ·have:=Lo z4sa b1;refine⟨this.1,fun _ q=>?_⟩;have h2:=this.2;unfold Ma at h2;rw[q]at h2;simp at h2
    ·split at b1
     ·exact z24a
     ·split at b1
      ·exact z24a
      ·exact⟨b1,fun e=>by omega⟩
  exact⟨hz.1,hz.2,b2,a2⟩
theorem Ait(fns:List (Nm×Nat)):∀(c:BT A3) (seen cur:List Nm) (f:C4),(Dq fns c seen cur f).1=0->f.1=0/\CK fns c:=by
 intro c;induction c with
 | nil=>intro seen cur f h;exact⟨h,trivial⟩
 | node x y l c r _ Bn=>
  intro seen cur f h;rw[Dq]at h;by_cases h20:l.kd=20
  ·rw[if_pos h20]at h;obtain⟨a1,a2⟩:=Bn _ _ _ h;obtain⟨b1,b2⟩:=A3e fns c _ _ _ _ _ a1;exact⟨(Lo z4sa (A31 _ _ _ b1)).1,fun e=>by omega,b2,a2⟩
  ·rw[if_neg h20]at h;obtain⟨a1,a2⟩:=Bn _ _ _ h;obtain⟨b1,b2⟩:=A3e fns (.node x y l c .nil) _ _ _ _ _ a1;exact⟨b1,b2.1,b2.2.1,a2⟩
theorem A95:∀c:BT A3,Ak c<=bsize c:=by
 intro c;induction c with
 | nil=>simp[Ak]
 | node x y l c r _ ih=>rw[Ak,bsize];omega
theorem A8m{s:Nat}(h:s≠39/\s≠40):(binOp s<=44/\Nr (binOp s)=true)/\binOp s≠42/\binOp s≠2/\binOp s≠4:=by
 unfold binOp;rw[if_neg z4sa,if_neg z4sa];repeat' split
 all_goals exact⟨⟨by omega,rfl⟩,by omega,by omega,by omega⟩
theorem A8l{s:Nat}(h:s=39\/s=40):6<=binOp s/\binOp s<=10:=by
 rcases h with rfl|rfl <;> decide
variable {fns:List (Nm×Nat)} {gl:List Nm}
theorem Abg(hg:gl.length<=G)(hGA:G<=A)(hN:fns.length=N)(hNA:N<=A){l:A3}{c:BT A3}(hf:V6 l)(hln:l.kd≠31->l.kd≠32->l.line<=5000)(hc7:l.kd=7->M0 fns l.s≠none)(hA:bsize c<=A)(h0:Ce N G A (bsize c) (em fns gl c 0))(hm:∀m,1<=m->Ce N G A (Ff c m) (em fns gl c m)):Ce N G A (1+bsize c) (Am fns gl l (Ak c) (em fns gl c)):=by
 have h3:=Ys c;have hI:Ef ⟨2,false,l.n,[],none⟩:=⟨by simp,hf.1⟩;have hS:Ef ⟨3,false,0,l.s,none⟩:=⟨hf.2,Ob⟩;have hB:∀b,Ef ⟨1,b,0,[],none⟩:=fun b=>⟨by simp,Ob⟩;have cons:∀{v:PV},v.r=none/\v.k≠4/\Ef v->Ce N G A (1+bsize c) (fun e=>e.F0 v):=fun q=>(Ce.F0 _ q).more z4sa;have zro:∀(o ln:Nat),ln<=5000->((o<=44/\Nr o=true)/\o≠42/\o≠2/\o≠4)->Ce N G A (1+bsize c) (fun e=>(em fns gl c 0 e).step o 0 ln):=fun o ln hl q=>(h0.zero o ln hl q).more z4sa;have q:Am fns gl l (Ak c) (em fns gl c)=fun e=>Am fns gl l (Ak c) (em fns gl c) e:=rfl;rw[q];unfold Am;generalize hkd:l.kd=kd at *;split
 ·exact cons ⟨rfl,by show(2:Nat)≠4;decide,hI⟩
 ·exact cons ⟨rfl,by show(3:Nat)≠4;decide,hS⟩
 ·exact cons ⟨rfl,by show(1:Nat)≠4;decide,hB true⟩
 ·exact cons ⟨rfl,by show(1:Nat)≠4;decide,hB false⟩
 ·exact cons Qi
 ·exact(Ce.M1.var gl hg hGA l.s 1 2 (.inl rfl) (.inl rfl)).more z4sa
 ·have:=Acq fns l.s (hc7 rfl);exact(h0.step 42 (fun _=>L3 fns l.s) l.line (hln z4sa z4sa) ⟨by omega,rfl⟩ (.inr (fun _ _=>⟨this.1,by omega,fun _=>by omega,fun q=>by omega⟩))).more z4sa
 ·exact h0.more z4sa
 ·have:=A95 c;exact(h0.step 36 (fun _=>(Ak c:Nat)) l.line (hln z4sa z4sa) ⟨by omega,rfl⟩ (.inr (fun _ _=>⟨by omega,by omega,fun q=>by omega,fun q=>by omega⟩))).more z4sa
 ·exact zro 37 _ (hln z4sa z4sa) ⟨⟨by omega,rfl⟩,by omega,by omega,by omega⟩
 ·exact zro 38 _ (hln z4sa z4sa) ⟨⟨by omega,rfl⟩,by omega,by omega,by omega⟩
 ·exact zro 39 _ (hln z4sa z4sa) ⟨⟨by omega,rfl⟩,by omega,by omega,by omega⟩
 ·exact zro 27 _ (hln z4sa z4sa) ⟨⟨by omega,rfl⟩,by omega,by omega,by omega⟩
 ·exact zro 23 _ (hln z4sa z4sa) ⟨⟨by omega,rfl⟩,by omega,by omega,by omega⟩
 ·intro e hk hv;obtain⟨k1,k2,k3,k4⟩:=h0 e hk z4sa;have hl:(em fns gl c 0 e).loc.length<=vs (em fns gl c 0 e):=Nat.le_max_right _ _;refine⟨k1.add ⟨Qi,⟨by dsimp only;omega,rfl,by dsimp only;omega⟩,.inr ⟨by dsimp only;omega,by dsimp only;omega,fun q=>by dsimp only at q;omega,fun q=>by dsimp only at q;omega⟩⟩ _ _,fun p hp=>(k2 p hp).app _ _ _ _,?_,?_⟩
  ·unfold vs at *;show max (max (em fns gl c 0 e).slots ((em fns gl c 0 e).loc.length+1)) ((em fns gl c 0 e).loc++[l.s]).length<=_;simp only[List.length_append,List.length_singleton];omega
  ·show e.slots<=max (em fns gl c 0 e).slots _;omega
 ·unfold Js;dsimp only;by_cases hn:Ak c=3
  ·rw[hn];exact((Ce.if (hm 1 z4sa) (hm 2 z4sa) (hm 3 z4sa) (hln z4sa z4sa)).more z4sa).eq (fun e=>by rw[if_pos rfl])
  ·exact((Ce.if (hm 1 z4sa) (hm 2 z4sa) Ce.M1 (hln z4sa z4sa)).more z4sa).eq (fun e=>by rw[if_neg hn])
 ·exact(Ce.while (hm 1 z4sa) (hm 2 z4sa) (hln z4sa z4sa)).more z4sa
 ·by_cases hn:Ak c=0
  ·exact((Ce.M1.zero 43 0 (Nat.zero_le _) ⟨⟨by omega,rfl⟩,by omega,by omega,by omega⟩).more z4sa).eq (fun e=>by rw[if_pos hn])
  ·exact(zro 44 0 (Nat.zero_le _) ⟨⟨by omega,rfl⟩,by omega,by omega,by omega⟩).eq (fun e=>by rw[if_neg hn])
 ·exact Ce.Hw.more z4sa
 ·exact Ce.cnt.more z4sa
 ·exact zro 41 _ (hln z4sa z4sa) ⟨⟨by omega,rfl⟩,by omega,by omega,by omega⟩
 ·exact(h0.var gl hg hGA l.s 3 4 (.inr rfl) (.inr rfl)).more z4sa
 ·exact zro 40 _ (hln z4sa z4sa) ⟨⟨by omega,rfl⟩,by omega,by omega,by omega⟩
 ·exact zro 5 _ (Nat.zero_le _) ⟨⟨by omega,rfl⟩,by omega,by omega,by omega⟩
 ·exact(h0.cut (fun e=>e.loc.length)).more z4sa
 ·exact(h0.cut (fun e=>e.loc.length)).more z4sa
 ·by_cases hb:kd=139\/kd=140
  ·exact((Ce.bool (hm 1 z4sa) (hm 2 z4sa) (binOp (kd-100)) (hln z4sa z4sa) (A8l z4sa)).more z4sa).eq (fun e=>by rw[if_pos hb];rfl)
  ·exact(zro (binOp (kd-100)) l.line (hln (by assumption) (by assumption)) (A8m z4sa)).eq (fun e=>by rw[if_neg hb])
theorem X7(hg:gl.length<=G)(hGA:G<=A)(hN:fns.length=N)(hNA:N<=A):∀c:BT A3,Cn c->CK fns c->bsize c<=A->Ce N G A (bsize c) (em fns gl c 0)/\∀m,1<=m->Ce N G A (Ff c m) (em fns gl c m):=by
 intro c;induction c with
 | nil=>intro _ _ _;exact⟨Ce.M1.eq (fun _=>rfl),fun m _=>(Ce.M1.more (Nat.zero_le _)).eq (fun _=>by cases m <;> rfl)⟩
 | node x y l c r Cb Bn=>
  rintro⟨l1,l2,l3⟩ ⟨c1,c2,c3⟩ hA;rw[bsize]at hA;obtain⟨a1,a2⟩:=Cb l2 c2 z4sa;obtain⟨b1,b2⟩:=Bn l3 c3 z4sa;have hn:=Abg hg hGA hN hNA l1.2 (fun h1 h2=>by rcases l1.1 with q|q|q;exact absurd q h1;exact absurd q h2;exact q.1.2) c1 z4sa a1 a2;refine⟨?_,fun m hm=>?_⟩
  ·exact((hn.comp b1).more (by rw[bsize];omega)).eq (fun e=>Ib _ _ _ _ _ _ _ _)
  ·by_cases h2:2<=m
   ·exact((b2 (m-1) z4sa).more (by rw[Ff,if_pos h2];exact Nat.le_refl _)).eq (fun e=>by rw[em,if_pos h2])
   ·have h1:m=1:=by omega
    subst h1;exact(hn.more (by show 1+bsize c<=bsize (nd l c);rw[Br];omega)).eq (fun e=>P9 _ _ _ _ _ _ _ _)
end
section
open Go.Deep (BT)
theorem A4d{p:UInt8->Bool}{c0:UInt8}(hp:p c0=false)(z:List UInt8):∀l:List UInt8,(l++c0::z).takeWhile p=l.takeWhile p:=by
 intro l;induction l with
 | nil=>simp[hp]
 | cons c r ih=>
  rw[List.cons_append,List.takeWhile_cons,List.takeWhile_cons,ih]
theorem A4e{p:UInt8->Bool}:∀l:List UInt8,(l.takeWhile p).length<=l.length:=by
 intro l;induction l with
 | nil=>simp
 | cons c r ih=>
  rw[List.takeWhile_cons];split
  ·simp;exact ih
  ·simp
theorem z2oa {P:Prop} (h:P:=by
  cases hq:quot false r with
  | none=>rw[hq]at h;cases h
  | some y=>rw[hq]at h;cases h;rw[(ih _ _ hq).1];exact⟨rfl,by have:=(ih _ _ hq).2;simp;omega⟩):P:=h
theorem A36(z:List UInt8):∀(r:List UInt8) (b:Bool) (x:List UInt8×Nat),quot b r=some x->quot b (r++z)=some x/\x.2<=r.length:=by
 intro r;induction r with
 | nil=>intro b x h;cases b <;> simp[quot]at h
 | cons c r ih=>
  intro b x h;cases b
  ·rw[quot]at h;rw[List.cons_append,quot];split at h
   ·rename_i h1;rw[if_pos h1];split at h
    ·rename_i h2;rw[if_pos h2];cases h;exact⟨rfl,by simp⟩
    ·rename_i h2;rw[if_neg h2];split at h
     ·rename_i h3;rw[if_pos h3];cases hq:quot true r with
      | none=>rw[hq]at h;cases h
      | some y=>rw[hq]at h;cases h;rw[(ih _ _ hq).1];exact⟨rfl,by have:=(ih _ _ hq).2;simp;omega⟩
     ·rename_i h3;rw[if_neg h3];exact z2oa
   ·cases h
  ·rw[quot]at h;rw[List.cons_append,quot];split at h
   ·rename_i h1;rw[if_pos h1];exact z2oa
   ·cases h
theorem Ak7{c c0:UInt8}(hc:c0=10\/c0=32)(z r:List UInt8):Fa (c::(r++c0::z))=Fa (c::r)/\(Fa (c::r)).2<=r.length+1:=by
 cases r with
 | nil=>
  have h2:Jy c c0=0:=by rcases hc with rfl|rfl <;> simp[Jy]
  rw[List.nil_append,Fa,Fa,h2];refine⟨by simp,?_⟩;split <;> simp
 | cons d r=>
  refine⟨rfl,?_⟩;rw[Fa];split
  ·simp
  ·split <;> simp
theorem Amp{c c0:UInt8}(hc:c0=10\/c0=32)(z r:List UInt8)(t:Tk)(k:Nat)(h:E7 (c::r)=some (t,k)):E7 (c::(r++c0::z))=some (t,k)/\k<=r.length+1:=by
 have hd:Cw c0=false:=by rcases hc with rfl|rfl <;> decide
 have hn:Di c0=false:=by rcases hc with rfl|rfl <;> decide
 have e1:(c::(r++c0::z)).takeWhile Cw=(c::r).takeWhile Cw:=A4d hd z (c::r);have e2:(c::(r++c0::z)).takeWhile Di=(c::r).takeWhile Di:=A4d hn z (c::r);have l1:=A4e (p:=Cw) (c::r);have l2:=A4e (p:=Di) (c::r);simp only[List.length_cons]at l1 l2;have hs:=Ak7 (c:=c) hc z r;rw[E7]at h ⊢;rw[e1,e2,hs.1];split at h
 ·rename_i h1;rw[if_pos h1];refine⟨h,?_⟩;split at h
  ·cases h;exact l1
  ·cases h
 ·rename_i h1;rw[if_neg h1];split at h
  ·rename_i h2;rw[if_pos h2];refine⟨h,?_⟩;split at h
   ·cases h;exact l2
   ·split at h
    ·cases h;exact l2
    ·cases h
  ·rename_i h2;rw[if_neg h2];split at h
   ·rename_i h3;rw[if_pos h3];cases hq:quot false r with
    | none=>rw[hq]at h;cases h
    | some y=>rw[hq]at h;cases h;rw[(A36 _ _ _ _ hq).1];exact⟨rfl,by have:=(A36 (c0::z) _ _ _ hq).2;omega⟩
   ·rename_i h3;rw[if_neg h3];refine⟨h,?_⟩;split at h
    ·cases h
    ·cases h;exact hs.2
def A9d(Ii:List Tk):Nat ⊕ List Tk->Nat ⊕ List Tk
 | .inl k=>.inl k
 | .inr us=>.inr (Ii++us)
theorem A1m{c0:UInt8}(hc:c0=10\/c0=32)(z:List UInt8):∀(f:Nat) (l:List UInt8) (line:Nat) (said:Bool) (ts:List Tk),lex f l line said=.inr ts->
  ∃Ii E sd,ts=Ii++[⟨0,E,[],0⟩]/\∀F G,(l++c0::z).length<F->(c0::z).length<G->lex F (l++c0::z) line said=A9d Ii (lex G (c0::z) E sd):=by
 intro f;induction f with
 | zero=>intro l line said ts h;rw[lex]at h;cases h
 | succ f ih=>
  intro l line said ts h;cases l with
  | nil=>
   rw[lex]at h;cases h;refine⟨[],line,said,rfl,fun F G hF hG=>?_⟩;rw[List.nil_append]at hF ⊢;rw[A1k F G _ _ _ hF hG];cases lex G (c0::z) line said <;> rfl
  | cons c r=>
   have hh:((r++c0::z).head?==some 47)=(r.head?==some 47):=by
    cases r with
    | nil=>rcases hc with rfl|rfl <;> rfl
    | cons d r=>rfl
   rw[lex]at h;split at h
   ·rename_i h1;obtain⟨Ii,E,sd,k1,k2⟩:=ih _ _ _ _ h;refine⟨Ii,E,sd,k1,fun F G hF hG=>?_⟩;obtain⟨F,rfl⟩:∃q,F=q+1:=⟨F-1,by omega⟩;rw[List.cons_append,lex,if_pos h1];exact k2 F G (by simp at hF ⊢;omega) hG
   ·rename_i h1;split at h
    ·cases h
    ·rename_i h2;split at h
     ·rename_i h3;obtain⟨Ii,E,sd,k1,k2⟩:=ih _ _ _ _ h;refine⟨Ii,E,sd,k1,fun F G hF hG=>?_⟩;obtain⟨F,rfl⟩:∃q,F=q+1:=⟨F-1,by omega⟩;rw[List.cons_append,lex,if_neg h1,if_neg h2,hh,if_pos h3];exact k2 F G (by simp at hF ⊢;omega) hG
     ·rename_i h3;cases ht:E7 (c::r) with
      | none=>rw[ht]at h;cases h
      | some x=>
       obtain⟨t,k⟩:=x;rw[ht]at h;dsimp only at h;obtain⟨q1,q2⟩:=Amp hc z r t k ht;have q3:=(Sn c r t k ht).2.2;cases hx:lex f ((c::r).drop k) line false with
       | inl j=>rw[hx]at h;cases h
       | inr us=>
        rw[hx]at h;cases h;obtain⟨Ii,E,sd,k1,k2⟩:=ih _ _ _ _ hx;refine⟨{ t with line:=line }::Ii,E,sd,by rw[k1];rfl,fun F G hF hG=>?_⟩;obtain⟨F,rfl⟩:∃q,F=q+1:=⟨F-1,by omega⟩;rw[List.cons_append,lex,if_neg h1,if_neg h2,hh,if_neg h3,q1];dsimp only;have e:(c::(r++c0::z)).drop k=(c::r).drop k++c0::z:=by
         rw[←List.cons_append,List.drop_append_of_le_length z4za]
        rw[e,k2 F G (by simp at hF ⊢;omega) hG];cases lex G (c0::z) E sd <;> rfl
theorem Aei{f:Nat}{l:List UInt8}{line:Nat}{said:Bool}{ts:List Tk}(h:lex f l line said=.inr ts):∃Ii E,ts=Ii++[⟨0,E,[],0⟩]/\∀F,l.length+4<F->lex F (l++[32,10,47,47]) line said=.inr (Ii++[⟨0,E+1,[],0⟩]):=by
 obtain⟨Ii,E,sd,k1,k2⟩:=A1m (c0:=32) (.inr rfl) [10,47,47] f l line said ts h;refine⟨Ii,E,k1,fun F hF=>?_⟩;rw[k2 F 5 z4za z4wa];cases sd <;> rfl
theorem Aek{f:Nat}{l:List UInt8}{line:Nat}{said:Bool}{ts:List Tk}(h:lex f l line said=.inr ts):∃E,∀F,l.length+3<F->lex F (l++[10,32,63]) line said=.inl E:=by
 obtain⟨Ii,E,sd,k1,k2⟩:=A1m (c0:=10) (.inl rfl) [32,63] f l line said ts h;refine⟨E+1,fun F hF=>?_⟩;rw[k2 F 4 z4za z4wa];cases sd <;> rfl
def Nd(f:C4):Prop:=f.1≠0->Hv f.2
theorem V1{is:Bool}{code line:Nat}{f:C4}(hl:Hv line)(h:Nd f):Nd (Cy is code line f):=by
 unfold Cy;split
 ·exact fun _=>hl
 ·exact h
theorem A3g(fns:List (Nm×Nat)):∀(c:BT A3),Cn c->∀(outer cur:List Nm) (wh:Nat) (inn:Bool) (f:C4),Nd f->Nd (Ba fns c outer cur wh inn f).2:=by
 intro c;induction c with
 | nil=>intro _ outer cur wh inn f h;exact h
 | node x y l c r Cb Bn=>
  rintro⟨g1,g2,g3⟩ outer cur wh inn f h;rw[Ba];by_cases h1:l.kd=31
  ·rw[if_pos h1];exact Bn g3 _ _ _ _ _ (Cb g2 _ _ _ _ _ h)
  rw[if_neg h1];by_cases h2:l.kd=32
  ·rw[if_pos h2];exact Bn g3 _ _ _ _ _ (Cb g2 _ _ _ _ _ h)
  rw[if_neg h2];have hl:Hv l.line:=by
   rcases g1.1 with q|q|q
   ·exact absurd q h1
   ·exact absurd q h2
   ·exact q.1
  by_cases h3:l.kd=21
  ·rw[if_pos h3];exact Bn g3 _ _ _ _ _ (Cb g2 _ _ _ _ _ (V1 hl h))
  rw[if_neg h3];dsimp only;refine Bn g3 _ _ _ _ _ (Cb g2 _ _ _ _ _ ?_);repeat' split
  all_goals first|exact V1 hl h|exact h
theorem Ags:∀(ps:List (Nat×Nm)) (cur:List Nm) (f:C4),(∀p∈ps,Hv p.1)->Nd f->Nd (Gw ps cur f).2:=by
 intro ps;induction ps with
 | nil=>intro cur f _ h;exact h
 | cons p r ih=>intro cur f hp h;exact ih _ _ (fun q hq=>hp q (by simp[hq])) (V1 (hp p z4wa) h)
theorem A3d(fns:List (Nm×Nat)):∀(c:BT A3),Cn c->∀(seen cur:List Nm) (f:C4),Nd f->Nd (Dq fns c seen cur f):=by
 intro c;induction c with
 | nil=>intro _ seen cur f h;exact h
 | node x y l c r _ Bn=>
  rintro⟨g1,g2,g3⟩ seen cur f h;rw[Dq];by_cases h1:l.kd=20
  ·rw[if_pos h1];have hq:Hv l.line/\∀p∈l.ps,Hv p.1:=by
    rcases g1.1 with q|q|q
    ·omega
    ·omega
    ·exact q
   exact Bn g3 _ _ _ (A3g fns c g2 _ _ _ _ _ (Ags _ _ _ hq.2 (V1 hq.1 h)))
  ·rw[if_neg h1];exact Bn g3 _ _ _ (A3g fns (.node x y l c .nil) ⟨g1,g2,trivial⟩ _ _ _ _ _ h)
def M4(n:Nat)(f:C4):C4:=(f.1,Kt n f.2)
theorem Ajj{n:Nat}{f:C4}(h:Nd f)(h0:f.1≠0):Iu n f=M4 n f:=by
 have:=h h0;unfold Hv at this;unfold Iu M4 Kt;rw[if_neg h0,if_neg z4sa]
theorem Uv{n e E:Nat}{ts:List Tk}(hE:Hv E)(he:1<=e)(hts:Lt E ts){r:BT A3×PS}(hr:Ab 100000 10 0 .nil ⟨ts,0⟩=some r) :
  ∃r',Ab 100000 10 0 .nil ⟨ts.map (gT n e),0⟩=some r'/\(r'.2.bad=0↔r.2.bad=0)/\(e=E+n->r.2.bad≠0->r'.2.bad=r.2.bad+n)/\r.2.bad<=5000/\(r.2.bad=0->r'.1=Dj n r.1/\Cn r.1):=by
 have h:=Ag2 (n:=n) (e:=e) (E:=E) 100000 10 0 .nil .nil ⟨ts,0⟩ ⟨ts.map (gT n e),0⟩ ⟨hE,he,.inl ⟨rfl,rfl,rfl,hts⟩⟩ (fun _=>⟨rfl,fun q=>by omega,trivial⟩);rw[hr]at h;cases hq:Ab 100000 10 0 .nil ⟨ts.map (gT n e),0⟩ with
 | none=>rw[hq]at h;exact h.elim
 | some r'=>
  rw[hq]at h;obtain⟨h1,h2⟩:=h;refine⟨r',rfl,h1.bad,fun he' hb=>?_,?_,fun hb=>⟨(h2 hb).2.1,(h2 hb).2.2.2⟩⟩
  ·obtain⟨_,_,⟨q,_⟩|⟨_,_,_,_,_,q⟩⟩:=h1
   ·exact absurd q hb
   ·exact q he'
  ·obtain⟨_,_,⟨q,_⟩|⟨_,_,_,_,q,_⟩⟩:=h1
   ·omega
   ·exact q
theorem A4o(l:List UInt8)(n:Nat)(h:l.length+n<=2000):E8 (List.replicate n 10++l)=(M4 n (E8 l).1,(E8 l).2.map (Dj n)):=by
 have hlen:(List.replicate n (10:UInt8)++l).length=l.length+n:=by simp;omega
 have hlx:lex ((List.replicate n (10:UInt8)++l).length+1) (List.replicate n 10++l) 1 false=Z4 n (lex (l.length+1) l 1 false):=by
  rw[hlen,show l.length+n+1=l.length+1+n by omega,Aeh,Aej]
 unfold E8;rw[hlx,if_neg z4sa,if_neg z4sa];rcases Pt l z4sa with⟨k,h1,h2,_⟩|⟨ts,h1,h2,h3⟩
 ·rw[h1];show((2,k+n),none)=(M4 n (2,k),none);unfold M4 Kt;rw[if_neg (by dsimp only;omega)]
 ·rw[h1];dsimp only[Z4];obtain⟨E,hE,hts⟩:=Lt.of (Nat.le_refl 1) z4sa ts h3 (Tv _ _ _ _ _ h1 z4sa);obtain⟨r,hr,_,_⟩:=S0 h3 h2;obtain⟨r',hr',k1,k2,_,k3⟩:=Uv (n:=n) (e:=E+n) hE (by unfold Hv at hE;omega) hts hr;rw[Aez ts hts,hr,hr'];dsimp only;by_cases hb:r.2.bad=0
  ·rw[if_neg (show ¬r'.2.bad≠0 by simp[k1.2 hb]),if_neg (show ¬r.2.bad≠0 by simp[hb]),A24 ts 0 hts,(k3 hb).1,A0x];have hs:Dq (Bx r.1) (Dj n r.1) [] [] (0,0)=Iu n (Dq (Bx r.1) r.1 [] [] (0,0)):=Aiw n (Bx r.1) r.1 [] [] (0,0);rw[hs];by_cases hn:nest ts 0=0
   ·have hz:Kt n (nest ts 0)=0:=by unfold Kt;rw[if_pos hn]
    rw[if_neg (show ¬Kt n (nest ts 0)≠0 by simp[hz]),if_neg (show ¬nest ts 0≠0 by simp[hn])];by_cases hf:(Dq (Bx r.1) r.1 [] [] (0,0)).1=0
    ·have hf':(Iu n (Dq (Bx r.1) r.1 [] [] (0,0))).1=0:=hf;rw[if_neg (show ¬(Iu n (Dq (Bx r.1) r.1 [] [] (0,0))).1≠0 by simp[hf']),if_neg (show ¬(Dq (Bx r.1) r.1 [] [] (0,0)).1≠0 by simp[hf])];rfl
    ·have hf':(Iu n (Dq (Bx r.1) r.1 [] [] (0,0))).1≠0:=hf;rw[if_pos hf',if_pos hf,Ajj (A3d _ _ (k3 hb).2 _ _ _ (fun q=>absurd rfl q)) hf];rfl
   ·have hz:Kt n (nest ts 0)≠0:=by unfold Kt;rw[if_neg hn];omega
    rw[if_pos hz,if_pos hn];rfl
  ·have hb':r'.2.bad≠0:=fun q=>hb (k1.1 q);rw[if_pos hb',if_pos hb,k2 rfl hb];show((2,r.2.bad+n),none)=(M4 n (2,r.2.bad),none);unfold M4 Kt;rw[if_neg hb]
theorem Ajv:∀c:BT A3,Dj 0 c=c:=by
 intro c;induction c with
 | nil=>rfl
 | node x y l c r Cb Bn=>
  rw[Dj,Cb,Bn];have:Ge 0 l=l:=by
   unfold Ge;split
   ·rfl
   ·obtain⟨a,b,c,d,e⟩:=l;simp
  rw[this]
theorem Aby{E0 E E1:Nat}:∀{Ii:List Tk},Lt E (Ii++[(⟨0,E0,[],0⟩:Tk)])->(Ii++[(⟨0,E0,[],0⟩:Tk)]).map (gT 0 E1)=Ii++[(⟨0,E1,[],0⟩:Tk)]:=by
 intro Ii;induction Ii with
 | nil=>intro _;rfl
 | cons t r ih=>
  rintro(⟨_,h2,_⟩|⟨h1,_,_,h3⟩)
  ·simp at h2
  ·rw[List.cons_append,List.map_cons,ih h3];unfold gT;rw[if_neg h1];rfl
theorem Amw(l:List UInt8)(c:BT A3)(h:l.length+4<=2000)(hc:E8 l=((0,0),some c)):E8 (l++[32,10,47,47])=((0,0),some c):=by
 have hlen:(l++[(32:UInt8),10,47,47]).length=l.length+4:=by simp
 unfold E8 at hc ⊢;rw[if_neg z4sa]at hc;rw[if_neg z4sa];rcases Pt l z4sa with⟨k,h1,h2,_⟩|⟨ts,h1,h2,h3⟩
 ·rw[h1]at hc;simp at hc
 ·rw[h1]at hc;dsimp only at hc;obtain⟨Ii,E0,q1,q2⟩:=Aei h1;rw[q2 _ z4sa];dsimp only;obtain⟨E,hE,hts⟩:=Lt.of (Nat.le_refl 1) z4sa ts h3 (Tv _ _ _ _ _ h1 z4sa);obtain⟨r,hr,_,_⟩:=S0 h3 h2;obtain⟨r',hr',k1,_,_,k3⟩:=Uv (n:=0) (e:=E0+1) hE z4sa hts hr;have hn:=A24 (n:=0) (e:=E0+1) ts 0 hts;have hz:Kt 0 (nest ts 0)=nest ts 0:=by unfold Kt;split <;> omega
  rw[hz]at hn;have hm:ts.map (gT 0 (E0+1))=Ii++[⟨0,E0+1,[],0⟩]:=by rw[q1]at hts ⊢;exact Aby hts
  rw[hm]at hr' hn;rw[hr'];rw[hr]at hc;dsimp only at hc ⊢;by_cases hb:r.2.bad=0
  ·have e1:r'.1=r.1:=by rw[(k3 hb).1,Ajv]
   rw[if_neg (show ¬r.2.bad≠0 by simp[hb])]at hc;rw[if_neg (show ¬r'.2.bad≠0 by simp[k1.2 hb]),hn,e1];exact hc
  ·rw[if_pos hb]at hc;simp at hc
theorem Amu(l:List UInt8)(c:BT A3)(h:l.length+3<=2000)(hc:E8 l=((0,0),some c)):∃k,E8 (l++[10,32,63])=((2,k),none):=by
 have hlen:(l++[(10:UInt8),32,63]).length=l.length+3:=by simp
 unfold E8 at hc ⊢;rw[if_neg z4sa]at hc;rw[if_neg z4sa];rcases Pt l z4sa with⟨k,h1,h2,_⟩|⟨ts,h1,h2,h3⟩
 ·rw[h1]at hc;simp at hc
 ·obtain⟨E,q2⟩:=Aek h1;rw[q2 _ z4sa];exact⟨E,rfl⟩
theorem Amv(l:List UInt8):(E8 l).1.2<=5000:=by
 unfold E8;split
 ·simp
 ·rename_i hl;rcases Pt l z4sa with⟨k,h1,h2,h4⟩|⟨ts,h1,h2,h3⟩
  ·rw[h1];show k<=5000;omega
  ·rw[h1];dsimp only;obtain⟨E,hE,hts⟩:=Lt.of (Nat.le_refl 1) z4sa ts h3 (Tv _ _ _ _ _ h1 z4sa);obtain⟨r,hr,_,_⟩:=S0 h3 h2;obtain⟨r',_,_,_,k2,k3⟩:=Uv (n:=0) (e:=1) hE z4sa hts hr;rw[hr];dsimp only;split
   ·exact k2
   ·rename_i hb;split
    ·exact Af8 ts 0 (fun t ht=>by have:=Hu.mem _ h3 t ht;omega)
    ·split
     ·rename_i hs;exact(A3d _ _ (k3 (by simpa using hb)).2 [] [] (0,0) (fun q=>absurd rfl q) hs).2
     ·simp
end
section
open Go.Deep (BT)
variable {N G A:Nat} {fns:List (Nm×Nat)}
theorem X4:∀(c:BT A3) (gl:List Nm) (fs:List Fn) (e:Em),gl.length<=(H9 fns c gl fs e).globals/\(H9 fns c gl fs e).globals<=gl.length+bsize c:=by
 intro c;induction c with
 | nil=>intro gl fs e;exact⟨Nat.le_refl _,by show gl.length<=_;omega⟩
 | node x y l c r _ ih=>
  intro gl fs e;rw[H9,bsize];split
  ·have:=ih gl (fs++[K4 fns gl l c]) e;omega
  ·split
   ·have:=ih (gl++[l.s]) fs ((em fns gl c 0 e).step 4 (gl.length:Nat) 0);simp only[List.length_append,List.length_singleton]at this;omega
   ·have:=ih gl fs (em fns gl (nd l c) 0 e);omega
def Zs(N G A L:Nat)(f:Fn):Prop:=(∀i∈f.steps,I1 N G A i)/\f.slots<=A/\f.params<=f.slots/\f.steps.length<=L
theorem Abo{L:Nat}(hN:fns.length=N)(hNA:N<=A)(hGA:G<=A):∀(c:BT A3),Cn c->CK fns c->∀(gl:List Nm) (fs:List Fn) (e:Em),(H9 fns c gl fs e).globals=G->KI N G A e->vs e+bsize c<=A->e.st.length+2*bsize c<=L->(∀f∈fs,Zs N G A L f)->
  (∀i∈(H9 fns c gl fs e).main,I1 N G A i)/\(H9 fns c gl fs e).slots<=A/\(H9 fns c gl fs e).main.length<=L/\∀f∈(H9 fns c gl fs e).fns,Zs N G A L f:=by
 intro c;induction c with
 | nil=>
  intro _ _ gl fs e _ hk hv hl hf;rw[bsize]at hl;have hva:vs e<=A:=by omega
  exact⟨hk.ok,Nat.le_trans (Nat.le_max_left e.slots e.loc.length) hva,by show e.st.length<=L;omega,hf⟩
 | node x y l c r _ ih=>
  rintro⟨l1,l2,l3⟩ ⟨c1,c2,c3⟩ gl fs e hG hk hv hl hf;rw[bsize]at hv hl;have hg:gl.length<=G:=by rw[←hG];exact(X4 _ _ _ _).1
  rw[H9]at hG ⊢;split at hG
  ·rename_i h20;rw[if_pos h20];refine ih l3 c3 gl _ e hG hk z4sa z4sa (fun f hff=>?_);rcases List.mem_append.1 hff with q|q
   ·exact hf f q
   ·rw[List.mem_singleton.1 q];obtain⟨a1,_⟩:=X7 (gl:=gl) hg hGA hN hNA c l2 c2 z4sa;have J2:KI N G A ⟨l.ps.map Prod.snd,l.ps.length,[],[]⟩:=⟨(fun i q=>by cases q),(fun x q=>by cases q)⟩;have hv0:vs ⟨l.ps.map Prod.snd,l.ps.length,[],[]⟩=l.ps.length:=by unfold vs;simp
    obtain⟨k1,_,k3,k4⟩:=(a1.zero 43 0 (Nat.zero_le _) ⟨⟨by omega,rfl⟩,by omega,by omega,by omega⟩) _ J2 z4sa;have hln:=(Mb fns gl c).1 ⟨l.ps.map Prod.snd,l.ps.length,[],[]⟩;refine⟨k1.ok,?_,k4,?_⟩
    ·have:=Nat.le_max_left ((em fns gl c 0 ⟨l.ps.map Prod.snd,l.ps.length,[],[]⟩).step 43 0 0).slots ((em fns gl c 0 ⟨l.ps.map Prod.snd,l.ps.length,[],[]⟩).step 43 0 0).loc.length;show((em fns gl c 0 ⟨l.ps.map Prod.snd,l.ps.length,[],[]⟩).step 43 0 0).slots<=A;dsimp only at k3;unfold vs at k3 hv0;omega
    ·show((em fns gl c 0 ⟨l.ps.map Prod.snd,l.ps.length,[],[]⟩).step 43 0 0).st.length<=L;rw[Dg];simp only[List.length_nil]at hln;omega
  ·rename_i h20;rw[if_neg h20];split at hG
   ·rename_i h21;rw[if_pos h21];have Ig:gl.length<G:=by
     have:=(X4 (fns:=fns) r (gl++[l.s]) fs ((em fns gl c 0 e).step 4 (gl.length:Nat) 0)).1;rw[hG]at this;simp at this;omega
    obtain⟨a1,_⟩:=X7 (gl:=gl) hg hGA hN hNA c l2 c2 z4sa;obtain⟨k1,_,k3,_⟩:=(a1.step 4 (fun _=>(gl.length:Nat)) 0 (Nat.zero_le _) ⟨by omega,rfl⟩ (.inr (fun _ _=>⟨by omega,by omega,fun q=>by omega,fun _=>by omega⟩))) e hk z4sa;have hln:=(Mb fns gl c).1 e;exact ih l3 c3 _ _ _ hG k1 (by dsimp only at k3;omega) z6ba hf
   ·rename_i h21;rw[if_neg h21];obtain⟨a1,_⟩:=X7 (gl:=gl) hg hGA hN hNA (nd l c) ⟨l1,l2,trivial⟩ ⟨c1,c2,trivial⟩ (by rw[Br];omega);rw[Br]at a1;obtain⟨k1,_,k3,_⟩:=a1 e hk z4sa;have hln:=(Mb fns gl (nd l c)).1 e;rw[Br]at hln;exact ih l3 c3 _ _ _ hG k1 z4sa z4sa hf
theorem A19{L:Nat}{st:List Af}(hA:A<=20000)(hL:L<=20000)(hl:st.length<=L)(hi:∀i∈st,I1 N G A i)(hg:Lw st):∀i∈st,Lu N i:=by
 intro i hm;obtain⟨⟨v1,v2,v3⟩,⟨o1,_,_⟩,h⟩:=hi i hm;obtain⟨p,hp⟩:=List.mem_iff_getElem?.1 hm;obtain⟨ls,g1,_,g3⟩:=hg;rcases h with h|⟨h1,h2,h3,_⟩
 ·obtain⟨q1,x,d,_,q2,_⟩:=(g3 p i hp).2 h;obtain⟨q3,_⟩:=List.getElem?_eq_some_iff.1 q2;exact⟨q1,by omega,v1,v2,v3,fun q=>by unfold Je at h;omega,o1⟩
 ·exact⟨h1,by omega,v1,v2,v3,h3,o1⟩
structure Pz (P : D5) : Prop where
 fit:Px 4100 P
 fns:P.fns.length<=4002
 globals:P.globals<=4002
 slots:P.slots<=4100
 codes:∃lab:List Af->List Nat,(K2 lab 8100 P.globals []/\∀f∈P.fns,K2 lab 8100 P.globals f.steps)/\K2 lab 8100 P.globals P.main
theorem Yp{l:List UInt8}{c:BT A3}(hl:l.length<=2000)(h:E8 l=((0,0),some c)):Pz (Ga c):=by
 obtain⟨hsane,hwf,hb,hck,hln⟩:Ev c/\Wf 4 c/\bsize c<=4002/\CK (Bx c) c/\Cn c:=by
  unfold E8 at h;rw[if_neg z4sa]at h;rcases Pt l hl with⟨k,h1,_,_⟩|⟨ts,h1,h2,h3⟩
  ·rw[h1]at h;simp at h
  ·rw[h1]at h;dsimp only at h;obtain⟨r,hr,_,hq⟩:=S0 h3 h2;obtain⟨E,hE,hts⟩:=Lt.of (Nat.le_refl 1) z4sa ts h3 (Tv _ _ _ _ _ h1 hl);obtain⟨r',_,_,_,_,k3⟩:=Uv (n:=0) (e:=1) hE z4sa hts hr;rw[hr]at h;dsimp only at h;by_cases hbad:r.2.bad=0
   ·rw[if_neg (show ¬r.2.bad≠0 by simp[hbad])]at h;split at h
    ·simp at h
    ·split at h
     ·simp at h
     ·rename_i hs;simp only[Prod.mk.injEq,Option.some.injEq,true_and]at h;subst h;exact⟨(hq hbad).1,A55 _ .nil _ _ trivial hr,(hq hbad).2.2,(Ait _ _ _ _ _ (by simpa using hs)).2,(k3 hbad).2⟩
   ·rw[if_pos hbad]at h;simp at h
 have hfew:=Acs c;have hfl:(Ga c).fns.length=(Bx c).length:=by
  have:=congrArg List.length (Abk c);simpa using this
 have hgl:=(X4 (fns:=Bx c) c [] [] ⟨[],0,[],[]⟩).2;obtain⟨m1,m2,m3,m4⟩:=Abo (N:=(Bx c).length) (G:=(Ga c).globals) (A:=4100) (L:=8100) (fns:=Bx c) rfl z4sa (by have:(Ga c).globals<=[].length+bsize c:=hgl;simp at this;omega) c hln hck [] [] ⟨[],0,[],[]⟩ rfl ⟨(fun i q=>by cases q),(fun x q=>by cases q)⟩ (by unfold vs;simp;omega) z4za (fun f q=>by cases q);obtain⟨g1,g2⟩:=Abl c hsane hwf;have hG:(Ga c).globals<=4002:=by have:(Ga c).globals<=[].length+bsize c:=hgl;simp at this;omega
 refine⟨⟨m2,?_,fun f hf=>?_⟩,by omega,hG,m2,?_⟩
 ·rw[hfl];exact A19 z4sa z4sa m3 m1 g1
 ·rw[hfl];obtain⟨q1,q2,q3,q4⟩:=m4 f hf;exact⟨q2,q3,A19 z4sa z4sa q4 q1 (g2 f hf)⟩
 ·classical
  have hall:∀st:List Af,Lw st->V7 (if h:Lw st then h.choose else []) st:=fun st h=>by rw[dif_pos h];exact h.choose_spec
  have hnil:Lw []:=⟨[0],rfl,rfl,fun p i q=>by simp at q⟩;have hi:∀st:List Af,(∀i∈st,I1 (Bx c).length (Ga c).globals 4100 i)->∀j∈st,(j.op=2\/j.op=4->j.arg.toNat<(Ga c).globals)/\Nr j.op=true/\j.line<=5000:=fun st h j hj=>by
   obtain⟨_,⟨_,o2⟩,q⟩:=h j hj;refine⟨fun e=>?_,o2⟩;rcases q with q|q
   ·unfold Je at q;omega
   ·exact q.2.2.2 e
  refine⟨fun st=>if h:Lw st then h.choose else [],⟨⟨hall _ hnil,by simp,fun j q=>by cases q⟩,fun f hf=>?_⟩,⟨hall _ g1,m3,hi _ m1⟩⟩;obtain⟨q1,_,_,q4⟩:=m4 f hf;exact⟨hall _ (g2 f hf),q4,hi _ q1⟩
def steps:Nat:=2000*8102+8102
theorem A2y{P:D5}(h:Pz P):∃m',Fm P [] steps (mstart P)=some m'/\Qj P [] steps (mstart P)/\m'.lots.length=P.fns.length/\m'.out.length<=100/\m'.line<=5000:=by
 obtain⟨lab,h1,h2⟩:=h.codes;have hm:Kv lab 8100 P (mstart P):=by
  refine⟨h2,(fun f q=>by cases q),by simp[mstart,MS.begin,Jw],by simp[mstart,MS.begin],fun l hl=>?_⟩;simp only[mstart,MS.begin,List.mem_replicate]at hl;rw[hl.2]
 have hp:Hh lab 8100 (mstart P)<steps:=by
  have k:=U8 (L:=8100) (lab:=lab) (mstart P).now (d:=0) h2.1.2.1;have e:Hh lab 8100 (mstart P)=2000*8102+0+F8 lab 8100 (mstart P).now:=rfl;rw[e];have k':F8 lab 8100 (mstart P).now<=0*(8100+1)+(8100-0)+1:=k;unfold steps;omega
 obtain⟨m',r1,r2⟩:=Aic h1 steps (mstart P) hm (fun _=>hp) (by unfold steps;omega);exact⟨m',r1,Afj h.fit (fun x q=>by cases q) z4sa steps 4100 _ (A1e h.fit) (Afb h1 steps _ hm) (by unfold steps;omega),r2.lotn,(Adr h.fit (fun x q=>by cases q) steps 4100 _ _ (A1e h.fit) r1).elim (fun _ q=>q.out),Aid h1 steps _ _ hm (by show 0<=5000;omega) r1⟩
end
end Go.Proofs.YtjdlndhfaaolaaaGreatDoor
