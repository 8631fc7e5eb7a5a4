import Derived.Lib.ItoaNum
import Derived.Test.YtjdlndhfaaolaaaGreatDoorV09
set_option maxHeartbeats 20000000
namespace Go.Proofs.YtjdlndhfaaolaaaGreatDoor
section
open Go.Deep (BT)
def PV.same(a b:PV):Bool:=a.k==b.k&&a.y==b.y&&a.n==b.n&&a.t==b.t&&a.r==b.r
def ofBool(b:Bool):PV:=⟨1,b,0,[],none⟩
def ofInt(n:Int):PV:=⟨2,false,n,[],none⟩
def ofStr(t:List UInt8):PV:=⟨3,false,0,t,none⟩
def Cf(i:Nat):PV:=⟨4,false,0,[],some i⟩
structure Kn where
 kind:Bool
 whole:Bool
 like:PV
structure Form where
 slots:Nat
 steps:List Ac
 bet:List Kn
structure Dv where
 calls:Nat
 form:Option Form
 fast:Nat
 drops:Nat
structure Cx where
 fn:Int
 after:Int
 kinds:List Int
 ints:List Int
structure Fr where
 steps:List Ac
 pc:Nat
 base:Int
structure MS where
 vals:List PV
 gl:List PV
 calls:List Fr
 now:Fr
 fuel:Nat
 cells:Nat
 out:List (List UInt8)
 code:Nat
 line:Nat
 arr:List (List PV)
 lots:List Dv
def MS.push(v:PV)(m:MS):MS:={ m with vals:=m.vals++[v] }
def MS.top(m:MS):PV:=m.vals.getLastD Ag
def MS.at'(m:MS)(i:Int):PV:=if i<0 then Ag else(m.vals[i.toNat]?).getD Ag
def MS.pop(m:MS):MS:={ m with vals:=m.vals.dropLast }
def MS.put(i:Int)(v:PV)(m:MS):MS:={ m with vals:=if i<0 then m.vals else m.vals.set i.toNat v }
def MS.cut(n:Int)(m:MS):MS:={ m with vals:=if n<0 then m.vals else m.vals.take n.toNat }
def MS.fail(c:Nat)(i:Ac)(m:MS):MS:={ m with code:=c,line:=i.line }
def MS.jump(a:Int)(m:MS):MS:={ m with now:=⟨m.now.steps,a.toNat,m.now.base⟩ }
def A4g(f:List UInt8->PV->List UInt8):Bool->List UInt8->List PV->List UInt8
 | _,l,[]=>l++[93]
 | b,l,v::r=>if 500<l.length then l else A4g f true (f (if b then l++[44] else l) v) r
def G1(arr:List (List PV)):Nat->List UInt8->PV->List UInt8
 | n,l,v=>
  if v.k=1 then l++(if v.y then [116,114,117,101] else [102,97,108,115,101])
  else if v.k=2 then l++Lib.itoa v.n
  else if v.k=3 then l++v.t
  else if v.k=4 then
   match n with
   | 0=>l++[91,46,46,93]
   | n+1=>A4g (fun l' v'=>G1 arr n l' v') false (l++[91]) ((arr[v.r.getD 0]?).getD [])
  else l++[110,117,108,108]
def En:Kn:=⟨false,false,Ag⟩
def Dm(k:Nat):Kn:=⟨true,false,⟨k,false,0,[],none⟩⟩
def Jx(v:PV):Kn:=⟨true,true,v⟩
def Kn.is(k:Kn)(v:PV):Bool:=if k.whole then v.same k.like else !k.kind||v.k==k.like.k
def Kn.sure(k:Kn)(kd:Nat):Bool:=k.kind&&k.like.k==kd
def Jm(b:Cx)(i:Nat):Kn:=
 match b.kinds[i]? with
 | none=>En
 | some k=>if k=1 then Dm 2 else if k=2 then Dm 3 else if k=3 then Dm 1 else if k=4 then Jx Ag else if k=5 then Dm 4
  else if k=6 then Jx (ofInt ((b.ints[i]?).getD 0)) else En
def La:List Ac->List Kn->List Kn
 | [],ks=>ks
 | i::r,ks=>La r (if i.op=3/\i.arg<ks.length then ks.set i.arg.toNat En else ks)
def Fm(params:List Kn)(i:Ac):Kn:=if i.op=1 then(params[i.arg.toNat]?).getD En else En
def E7(ab:List Kn):Kn:=ab.getLastD En
def Kx(ab:List Kn):Kn:=ab.dropLast.getLastD En
def Fc(ab:List Kn)(kd:Nat):Bool:=(E7 ab).sure kd&&(Kx ab).sure kd
def Ge(o:Nat):Nat:=
 if o=12 then 13 else if o=15 then 16 else if o=17 then 18 else if o=19 then 20 else if o=21 then 22 else if o=28 then 32 else if o=29 then 33 else if o=30 then 34 else if o=31 then 35 else o
def quick(params ab:List Kn)(i:Ac):Ac:=
 if(Fm params i).whole then⟨0,0,0,(Fm params i).like⟩
 else
  let o1:=if i.op=12/\Fc ab 3=true then 14 else i.op
  let o2:=if o1=23/\(E7 ab).sure 2=true then 24 else o1
  ⟨if Fc ab 2 then Ge o2 else o2,i.arg,i.line,i.v⟩
def Nd(ab:List Kn):Kn:=if(E7 ab).sure 2||(Kx ab).sure 2 then Dm 2 else if(E7 ab).sure 3||(Kx ab).sure 3 then Dm 3 else En
def Uc(params ab:List Kn)(i:Ac):Option Kn:=
 if i.op=0 then some (Jx i.v)
 else if i.op=1\/i.op=2\/i.op=42\/i.op=39 then some (Fm params i)
 else if i.op=12 then some (Nd ab)
 else if i.op=15\/i.op=17\/i.op=19\/i.op=21\/i.op=23\/i.op=37 then some (Dm 2)
 else if i.op=25\/i.op=26\/i.op=27\/i.op=28\/i.op=29\/i.op=30\/i.op=31\/i.op=11 then some (Dm 1)
 else if i.op=36 then some (Dm 4)
 else if i.op=38 then some (E7 ab)
 else none
def Hh(P:D7)(i:Ac):Int:=
 if i.op=0\/i.op=1\/i.op=2\/i.op=6\/i.op=43 then 0
 else if i.op=36 then i.arg
 else if i.op=42 then(match P.fns[i.arg.toNat]? with|some f=>(f.params:Nat)|none=>0)
 else if i.op=40 then 3
 else if i.op=12\/i.op=15\/i.op=17\/i.op=19\/i.op=21\/i.op=38\/i.op=39\/i.op=25\/i.op=26\/i.op=28\/i.op=29\/i.op=30\/i.op=31 then 2
 else 1
def Md(n:Int)(ab:List Kn):List Kn:=if n<0 then ab else ab.take n.toNat
def follow(P:D7)(params ab:List Kn)(i:Ac):List Kn:=
 let c:=Md ((ab.length:Nat)-Hh P i) ab
 match Uc params ab i with
 | some k=>c++[k]
 | none=>c
def K7(P:D7)(params:List Kn):List Kn->List Ac->List Ac
 | _,[]=>[]
 | ab,i::r=>quick params ab i::K7 P params (follow P params ab i) r
def I0(P:D7)(b:Cx)(f:Fn):Form:=
 let ks:=(List.range f.params).map (Jm b)
 ⟨f.slots,K7 P (La f.steps ks) [] f.steps,ks⟩
def MS.Kh(i:Ac)(m:MS)(k:MS->MS):MS:=if m.fuel=0 then m.fail 8 i else k { m with fuel:=m.fuel-1 }
def taken(n:Nat)(calls:Nat):List Cx->Option Cx
 | []=>none
 | b::r=>match taken n calls r with
  | some x=>some x
  | none=>if b.fn=(n:Nat)/\b.after=(calls:Nat) then some b else none
def Jc(m:MS):Int->List Kn->Bool
 | _,[]=>true
 | i,k::r=>k.is (m.at' i)&&Jc m (i+1) r
def K6(n:Nat):List PV:=List.replicate n Ag
def MS.begin(slots:Nat)(steps:List Ac)(args:Nat)(m:MS):MS:=
 { m with now:=⟨steps,0,(m.vals.length:Nat)-(args:Nat)⟩,vals:=m.vals++K6 (slots-args) }
def MS.Kw(n:Nat)(l:Dv)(m:MS):MS:={ m with lots:=m.lots.set n l }
def MS.body(P:D7)(bets:List Cx)(n:Nat)(f:Fn)(m:MS):MS:=
 match m.lots[n]? with
 | none=>m
 | some l=>
  let fm:=match taken n l.calls bets with
   | some b=>some (I0 P b f)
   | none=>l.form
  match fm with
  | none=>(m.Kw n ⟨l.calls+1,none,l.fast,l.drops⟩).begin f.slots f.steps f.params
  | some fo=>
   if Jc m ((m.vals.length:Nat)-(fo.bet.length:Nat)) fo.bet then(m.Kw n ⟨l.calls+1,some fo,l.fast+1,l.drops⟩).begin fo.slots fo.steps f.params
   else(m.Kw n ⟨l.calls+1,none,l.fast,l.drops+1⟩).begin f.slots f.steps f.params
def wr(n:Int):Int:=RowKit.wrap64 n
def MS.two(m:MS)(k:PV->PV->MS->MS):MS:=k m.pop.top m.top m.pop.pop
def MS.both(m:MS)(kd:Nat):Bool:=m.top.k==kd&&(m.at' ((m.vals.length:Nat)-2)).k==kd
def MS.ints(i:Ac)(m:MS)(k:Int->Int->MS->MS):MS:=if m.both 2 then m.two (fun a b m'=>k a.n b.n m') else m.fail 5 i
def before(a b:PV):Bool:=decide (a.n<b.n)||Op.bytesLess a.t b.t
def sizeOf'(m:MS)(v:PV):Option Nat:=if v.k=3 then some v.t.length else if v.k=4 then some ((m.arr[v.r.getD 0]?).getD []).length else none
def MS.room(n:Int)(i:Ac)(m:MS)(k:MS->MS):MS:=if(500:Int)-m.cells<n then m.fail 10 i else k { m with cells:=m.cells+n.toNat }
def MS.place(of p:PV)(i:Ac)(m:MS)(k:MS->MS):MS:=
 match sizeOf' m of with
 | none=>m.fail 5 i
 | some n=>if p.k≠2 then m.fail 5 i else if p.n<0\/(n:Int)<=p.n then m.fail 7 i else k m
def MS.Mj(i:Ac)(m:MS):MS:=
 if 500<(G1 m.arr 4 [] m.top).length\/m.out.length=100 then m.pop.fail 10 i else { m.pop with out:=m.out++[G1 m.arr 4 [] m.top] }
def MS.join(i:Ac)(m:MS):MS:=m.two fun a b m'=>if 100<a.t.length+b.t.length then m'.fail 10 i else m'.push (ofStr (a.t++b.t))
def Ay(P:D7)(bets:List Cx)(i:Ac)(m:MS):MS:=
 match i.op with
 | 0=>m.push i.v
 | 1=>m.push (m.at' (m.now.base+i.arg))
 | 2=>m.push ((m.gl[i.arg.toNat]?).getD Ag)
 | 3=>m.pop.put (m.now.base+i.arg) m.top
 | 4=>{ m.pop with gl:=m.gl.set i.arg.toNat m.top }
 | 5=>m.pop
 | 6=>m.jump i.arg
 | 7=>if m.top.y then m.pop.Kh i (fun m'=>if m.top.k=1 then m' else m'.fail 5 i) else if m.top.k=1 then m.pop.jump i.arg else m.pop.fail 5 i
 | 8=>if m.top.k=1 then(if m.top.y then m.pop else m.pop.jump i.arg) else m.pop.fail 5 i
 | 9=>if m.top.k=1 then(if m.top.y then m.pop else m.jump i.arg) else m.fail 5 i
 | 10=>if m.top.k=1 then(if m.top.y then m.jump i.arg else m.pop) else m.fail 5 i
 | 11=>if m.top.k=1 then m else m.fail 5 i
 | 12=>if m.both 3 then m.join i else m.ints i (fun a b m'=>m'.push (ofInt (wr (a+b))))
 | 13=>m.two fun a b m'=>m'.push (ofInt (wr (a.n+b.n)))
 | 14=>m.join i
 | 15=>m.ints i (fun a b m'=>m'.push (ofInt (wr (a-b))))
 | 16=>m.two fun a b m'=>m'.push (ofInt (wr (a.n-b.n)))
 | 17=>m.ints i (fun a b m'=>m'.push (ofInt (wr (a*b))))
 | 18=>m.two fun a b m'=>m'.push (ofInt (wr (a.n*b.n)))
 | 19=>m.ints i (fun a b m'=>if b=0 then m'.fail 6 i else m'.push (ofInt (wr (a.tdiv b))))
 | 20=>m.two fun a b m'=>if b.n=0 then m'.fail 6 i else m'.push (ofInt (wr (a.n.tdiv b.n)))
 | 21=>m.ints i (fun a b m'=>if b=0 then m'.fail 6 i else m'.push (ofInt (a.tmod b)))
 | 22=>m.two fun a b m'=>if b.n=0 then m'.fail 6 i else m'.push (ofInt (a.n.tmod b.n))
 | 23=>if m.top.k=2 then m.pop.push (ofInt (wr (-m.top.n))) else m.fail 5 i
 | 24=>m.pop.push (ofInt (wr (-m.top.n)))
 | 25=>m.two fun a b m'=>m'.push (ofBool (a.same b))
 | 26=>m.two fun a b m'=>m'.push (ofBool (!a.same b))
 | 27=>if m.top.k=1 then m.pop.push (ofBool (!m.top.y)) else m.pop.fail 5 i
 | 28=>if m.both 2||m.both 3 then m.two fun a b m'=>m'.push (ofBool (before b a)) else m.fail 5 i
 | 29=>if m.both 2||m.both 3 then m.two fun a b m'=>m'.push (ofBool (before a b)) else m.fail 5 i
 | 30=>if m.both 2||m.both 3 then m.two fun a b m'=>m'.push (ofBool (!before a b)) else m.fail 5 i
 | 31=>if m.both 2||m.both 3 then m.two fun a b m'=>m'.push (ofBool (!before b a)) else m.fail 5 i
 | 32=>m.two fun a b m'=>m'.push (ofBool (decide (b.n<a.n)))
 | 33=>m.two fun a b m'=>m'.push (ofBool (decide (a.n<b.n)))
 | 34=>m.two fun a b m'=>m'.push (ofBool (decide (b.n<=a.n)))
 | 35=>m.two fun a b m'=>m'.push (ofBool (decide (a.n<=b.n)))
 | 36=>m.room i.arg i fun m'=>
   let f:=(m'.vals.length:Int)-i.arg
   let m2:=m'.cut f
   { m2 with arr:=m'.arr++[(List.range i.arg.toNat).map (fun(j:Nat)=>m'.at' (f+j))] }.push (Cf m'.arr.length)
 | 37=>match sizeOf' m m.top with
  | some n=>m.pop.push (ofInt (n:Nat))
  | none=>m.pop.fail 5 i
 | 38=>m.two fun a b m'=>if a.k=4 then m'.room 1 i fun m2=>{ m2 with arr:=m2.arr.modify (a.r.getD 0) (·++[b]) }.push b else m'.fail 5 i
 | 39=>m.two fun a b m'=>m'.place a b i fun m2=>m2.push (if a.k=3 then ofStr ((a.t.drop b.n.toNat).take 1) else(((m2.arr[a.r.getD 0]?).getD [])[b.n.toNat]?).getD Ag)
 | 40=>m.pop.two fun a b m'=>if a.k=4 then m'.place a b i fun m2=>{ m2 with arr:=m2.arr.modify (a.r.getD 0) (·.set b.n.toNat m.top) } else m'.fail 5 i
 | 41=>m.Mj i
 | 42=>m.Kh i fun m'=>if m'.calls.length=40 then m'.fail 9 i else
   match P.fns[i.arg.toNat]? with
   | some f=>{ m' with calls:=m'.calls++[m'.now] }.body P bets i.arg.toNat f
   | none=>m'
 | 43=>{ (m.cut m.now.base).push Ag with now:=m.calls.getLastD ⟨[],0,0⟩,calls:=m.calls.dropLast }
 | 44=>{ (m.pop.cut m.now.base).push m.top with now:=m.calls.getLastD ⟨[],0,0⟩,calls:=m.calls.dropLast }
 | _=>m
def M8(P:D7)(bets:List Cx)(i:Ac)(m:MS):MS:=Ay P bets i { m with now:=⟨m.now.steps,m.now.pc+1,m.now.base⟩ }
def Iy(P:D7)(bets:List Cx):Nat->MS->Option MS
 | 0,_=>none
 | n+1,m=>if m.code≠0 then some m else match m.now.steps[m.now.pc]? with
  | none=>some m
  | some i=>Iy P bets n (M8 P bets i m)
def mstart(P:D7):MS:=
 MS.begin P.slots P.main 0 ⟨[],K6 P.globals,[],⟨[],0,0⟩,2000,0,[],0,0,[],List.replicate P.fns.length ⟨0,none,0,0⟩⟩
end
section
def D4(n:Int):Prop:=-9223372036854775808<=n/\n<=9223372036854775807
theorem Yy(n:Int):D4 (wr n):=by unfold D4 wr RowKit.wrap64;omega
theorem Th{n:Int}(h:D4 n):wr n=n:=by unfold D4 at h;unfold wr RowKit.wrap64;omega
theorem A4i(a b:Int)(ha:D4 a):D4 (a.tmod b):=by
 unfold D4 at *;have:=Int.natAbs_tmod a b;have h3:0<=a->0<=a.tmod b:=fun h=>Int.tmod_nonneg b h;have h4:a<0->a.tmod b<=0:=fun h=>by
  have:=Int.tmod_nonneg b (show 0<=-a by omega);rw[Int.neg_tmod]at this;omega
 have h2:a.natAbs % b.natAbs<=a.natAbs:=Nat.mod_le _ _;omega
end
section
open Go.Deep (BT)
def I2(v:PV):Prop:=v.t.length<=2000/\D4 v.n
def Mq(b:Cx):Prop:=∀n∈b.ints,D4 n
def Kp(o:Nat):Prop:=o<=44
def Js(N:Nat)(i:Ac):Prop:=0<=i.arg/\i.arg<=5000/\i.v.r=none/\i.v.k≠4/\I2 i.v/\(i.op=42->i.arg.toNat<N)/\Kp i.op
def Qc(N B:Nat)(fo:Form):Prop:=fo.slots<=B/\fo.bet.length<=B/\(∀i∈fo.steps,Js N i)/\∀x∈fo.bet,x.like.r=none
def No(N B:Nat)(f:Fn):Prop:=f.slots<=B/\f.params<=f.slots/\∀i∈f.steps,Js N i
def Pf(N B k:Nat)(f:Fr):Prop:=-(B:Int)<=f.base/\f.base<=k/\∀i∈f.steps,Js N i
structure Oa (B : Nat) (P : D7) : Prop where
 slots:P.slots<=B
 main:∀i∈P.main,Js P.fns.length i
 fns:∀f∈P.fns,No P.fns.length B f
structure Inv (N B k : Nat) (m : MS) : Prop where
 vals:m.vals.length<=k
 str:∀v∈m.vals,I2 v
 gls:∀v∈m.gl,I2 v
 ars:∀l∈m.arr,∀v∈l,I2 v
 now:Pf N B k m.now
 calls:∀f∈m.calls,Pf N B k f
 lots:∀l∈m.lots,∀fo,l.form=some fo->Qc N B fo
 fuel:m.fuel<=2000
 depth:m.calls.length<=40
 out:m.out.length<=100
 cells:m.cells<=500
 arl:∀l∈m.arr,l.length<=m.cells
 lotn:m.lots.length=N
 lotc:∀l∈m.lots,l.calls<=k/\l.fast<=k/\l.drops<=k
variable {N B k:Nat} {m:MS} {P:D7} {bets:List Cx}
theorem Pf.mono{k':Nat}{f:Fr}(h:Pf N B k f)(hk:k<=k'):Pf N B k' f:=⟨h.1,by have:=h.2.1;omega,h.2.2⟩
theorem Inv.mono{k':Nat}(h:Inv N B k m)(hk:k<=k'):Inv N B k' m:=
 ⟨by have:=h.vals;omega,h.str,h.gls,h.ars,h.now.mono hk,fun f hf=>(h.calls f hf).mono hk,h.lots,h.fuel,h.depth,h.out,h.cells,h.arl,h.lotn,fun l hl=>by have:=h.lotc l hl;omega⟩
theorem O2:D4 0:=⟨by decide,by decide⟩
theorem Ov:I2 Ag:=⟨by simp[Ag],O2⟩
theorem Qt{n:Int}(h:D4 n):I2 (ofInt n):=⟨by simp[ofInt],h⟩
theorem N4(n:Int):I2 (ofInt (wr n)):=Qt (Yy n)
theorem Me(b:Bool):I2 (ofBool b):=⟨by simp[ofBool],O2⟩
theorem z2ma {P:Prop} (h:P:=by
  rw[List.getElem?_eq_getElem q];exact h _ (List.getElem_mem q)):P:=h
theorem Sd{l:List PV}(h:∀v∈l,I2 v)(i:Nat):I2 ((l[i]?).getD Ag):=by
 rcases Nat.lt_or_ge i l.length with q|q
 ·exact z2ma
 ·rw[List.getElem?_eq_none q];exact Ov
theorem Inv.at'(h:Inv N B k m)(i:Int):I2 (m.at' i):=by
 unfold MS.at';split
 ·exact Ov
 ·exact Sd h.str _
theorem Inv.top(h:Inv N B k m):I2 m.top:=by
 unfold MS.top;rw[List.getLastD_eq_getLast?,List.getLast?_eq_getElem?];exact Sd h.str _
theorem Inv.push(h:Inv N B k m){v:PV}(hv:I2 v):Inv N B (k+1) (m.push v):=by
 have h':=h.mono (Nat.le_succ k);refine⟨by simp only[MS.push,List.length_append,List.length_singleton];have:=h.vals;omega,?_,h'.gls,h'.ars,h'.now,h'.calls,h'.lots,h'.fuel,h'.depth,h'.out,h'.cells,h'.arl,h'.lotn,h'.lotc⟩;intro u hu;simp only[MS.push,List.mem_append,List.mem_singleton]at hu;rcases hu with hu|rfl
 ·exact h.str u hu
 ·exact hv
theorem Inv.pop(h:Inv N B k m):Inv N B k m.pop:=
 ⟨by have:=h.vals;simp only[MS.pop,List.length_dropLast];omega,fun v hv=>h.str v (List.dropLast_subset _ hv),h.gls,h.ars,h.now,h.calls,h.lots,h.fuel,h.depth,h.out,h.cells,h.arl,h.lotn,h.lotc⟩
theorem Inv.fail(h:Inv N B k m)(c:Nat)(i:Ac):Inv N B k (m.fail c i):=⟨h.vals,h.str,h.gls,h.ars,h.now,h.calls,h.lots,h.fuel,h.depth,h.out,h.cells,h.arl,h.lotn,h.lotc⟩
theorem Inv.jump(h:Inv N B k m)(a:Int):Inv N B k (m.jump a):=⟨h.vals,h.str,h.gls,h.ars,⟨h.now.1,h.now.2.1,h.now.2.2⟩,h.calls,h.lots,h.fuel,h.depth,h.out,h.cells,h.arl,h.lotn,h.lotc⟩
theorem Inv.cut(h:Inv N B k m)(n:Int):Inv N B k (m.cut n):=by
 refine⟨?_,?_,h.gls,h.ars,h.now,h.calls,h.lots,h.fuel,h.depth,h.out,h.cells,h.arl,h.lotn,h.lotc⟩
 ·have:=h.vals;simp only[MS.cut];split
  ·exact this
  ·simp only[List.length_take];omega
 ·intro v hv;simp only[MS.cut]at hv;split at hv
  ·exact h.str v hv
  ·exact h.str v (List.mem_of_mem_take hv)
theorem Inv.put(h:Inv N B k m)(n:Int){v:PV}(hv:I2 v):Inv N B k (m.put n v):=by
 refine⟨?_,?_,h.gls,h.ars,h.now,h.calls,h.lots,h.fuel,h.depth,h.out,h.cells,h.arl,h.lotn,h.lotc⟩
 ·have:=h.vals;simp only[MS.put];split
  ·exact this
  ·simp only[List.length_set];exact this
 ·intro u hu;simp only[MS.put]at hu;split at hu
  ·exact h.str u hu
  ·rcases List.mem_or_eq_of_mem_set hu with q|q
   ·exact h.str u q
   ·rw[q];exact hv
theorem Inv.Kh(h:Inv N B k m)(i:Ac){f:MS->MS}{k':Nat}(hk:k<=k')(hf:∀m',Inv N B k m'->Inv N B k' (f m')):Inv N B k' (m.Kh i f):=by
 unfold MS.Kh;split
 ·exact(h.fail 8 i).mono hk
 ·exact hf _ ⟨h.vals,h.str,h.gls,h.ars,h.now,h.calls,h.lots,by have:=h.fuel;show m.fuel-1<=2000;omega,h.depth,h.out,h.cells,h.arl,h.lotn,h.lotc⟩
theorem Inv.room(h:Inv N B k m)(n:Int)(i:Ac){f:MS->MS}{k':Nat}(hk:k<=k')(hf:∀m',Inv N B k m'->n.toNat<=m'.cells->(∀l∈m'.arr,l.length+n.toNat<=m'.cells)->Inv N B k' (f m')):Inv N B k' (m.room n i f):=by
 unfold MS.room;split
 ·exact(h.fail 10 i).mono hk
 ·exact hf _ ⟨h.vals,h.str,h.gls,h.ars,h.now,h.calls,h.lots,h.fuel,h.depth,h.out,by have:=h.cells;show m.cells+n.toNat<=500;omega,fun l hl=>by have:=h.arl l hl;show l.length<=m.cells+n.toNat;omega,h.lotn,h.lotc⟩ (by show n.toNat<=m.cells+n.toNat;omega) (fun l hl=>by have:=h.arl l hl;show l.length+n.toNat<=m.cells+n.toNat;omega)
theorem Inv.place(h:Inv N B k m)(of p:PV)(i:Ac){f:MS->MS}{k':Nat}(hk:k<=k')(hf:∀m',Inv N B k m'->Inv N B k' (f m')):Inv N B k' (m.place of p i f):=by
 unfold MS.place;split
 ·exact(h.fail 5 i).mono hk
 ·split
  ·exact(h.fail 5 i).mono hk
  ·split
   ·exact(h.fail 7 i).mono hk
   ·exact hf _ h
theorem Inv.join(h:Inv N B k m)(i:Ac):Inv N B (k+1) (m.join i):=by
 unfold MS.join MS.two;dsimp only;split
 ·exact((h.pop.pop).fail 10 i).mono (Nat.le_succ k)
 ·rename_i hn;refine h.pop.pop.push ⟨?_,O2⟩;simp only[ofStr,List.length_append];omega
theorem Inv.ints(h:Inv N B k m)(i:Ac){f:Int->Int->MS->MS}(hf:∀a b m',D4 a->Inv N B k m'->Inv N B (k+1) (f a b m')):Inv N B (k+1) (m.ints i f):=by
 unfold MS.ints MS.two;split
 ·exact hf _ _ _ h.pop.top.2 h.pop.pop
 ·exact(h.fail 5 i).mono (Nat.le_succ k)
theorem Inv.T0(h:Inv N B k m){f:Fr}(hf:Pf N B k f):Inv N B k { m with now:=f }:=⟨h.vals,h.str,h.gls,h.ars,hf,h.calls,h.lots,h.fuel,h.depth,h.out,h.cells,h.arl,h.lotn,h.lotc⟩
theorem Inv.begin(h:Inv N B k m){slots args:Nat}{steps:List Ac}(hs:slots<=B)(ha:args<=B)(hi:∀i∈steps,Js N i):Inv N B (k+B) (m.begin slots steps args):=by
 have h':=h.mono (Nat.le_add_right k B);refine⟨?_,?_,h'.gls,h'.ars,⟨?_,?_,hi⟩,h'.calls,h'.lots,h'.fuel,h'.depth,h'.out,h'.cells,h'.arl,h'.lotn,h'.lotc⟩
 ·have:=h.vals;simp only[MS.begin,K6,List.length_append,List.length_replicate];omega
 ·intro v hv;simp only[MS.begin,K6,List.mem_append,List.mem_replicate]at hv;rcases hv with hv|⟨_,rfl⟩
  ·exact h.str v hv
  ·exact Ov
 ·simp only[MS.begin];omega
 ·have:=h.vals;simp only[MS.begin];omega
theorem Inv.Kw(h:Inv N B k m)(n:Nat){l:Dv}(hl:∀fo,l.form=some fo->Qc N B fo)(hc:l.calls<=k/\l.fast<=k/\l.drops<=k):Inv N B k (m.Kw n l):=by
 refine⟨h.vals,h.str,h.gls,h.ars,h.now,h.calls,?_,h.fuel,h.depth,h.out,h.cells,h.arl,by show(m.lots.set n l).length=N;rw[List.length_set];exact h.lotn,fun x hx=>?_⟩
 ·intro x hx;simp only[MS.Kw]at hx;rcases List.mem_or_eq_of_mem_set hx with q|q
  ·exact h.lots x q
  ·rw[q];exact hl
 ·simp only[MS.Kw]at hx;rcases List.mem_or_eq_of_mem_set hx with q|q
  ·exact h.lotc x q
  ·rw[q];exact hc
def M1(x:Kn):Prop:=x.whole=true->x.like.r=none/\x.like.k≠4/\I2 x.like
theorem Si:M1 En:=by intro h;cases h
theorem Afb(d:Nat):M1 (Dm d):=by intro h;cases h
theorem Afd:M1 (Jx Ag):=fun _=>⟨rfl,by show(0:Nat)≠4;decide,Ov⟩
theorem Afa{n:Int}(h:D4 n):M1 (Jx (ofInt n)):=fun _=>⟨rfl,by show(2:Nat)≠4;decide,Qt h⟩
theorem A91{b:Cx}(h:Mq b)(i:Nat):D4 ((b.ints[i]?).getD 0):=by
 rcases Nat.lt_or_ge i b.ints.length with q|q
 ·exact z2ma
 ·rw[List.getElem?_eq_none q];exact O2
theorem Af8{b:Cx}(hb:Mq b)(i:Nat):M1 (Jm b i):=by
 unfold Jm;split
 ·exact Si
 ·repeat' (first|exact Si|exact Afb _|exact Afd|exact Afa (A91 hb _)|split)
theorem Af9{ks:List Kn}(h:∀x∈ks,M1 x)(i:Nat):M1 ((ks[i]?).getD En):=by
 rcases Nat.lt_or_ge i ks.length with q|q
 ·exact z2ma
 ·rw[List.getElem?_eq_none q];exact Si
theorem Afc:∀(l:List Ac) (ks:List Kn),(∀x∈ks,M1 x)->∀x∈La l ks,M1 x:=by
 intro l;induction l with
 | nil=>intro ks h;exact h
 | cons i r ih=>
  intro ks h;rw[La];refine ih _ ?_;split
  ·intro x hx;rcases List.mem_or_eq_of_mem_set hx with q|q
   ·exact h x q
   ·rw[q];exact Si
  ·exact h
theorem Agr{o:Nat}(h:Ge o=42):o=42:=by
 unfold Ge at h;repeat (first|(split at h;cases h)|exact h)
theorem Ain{i:Ac}{ab:List Kn}(h:(if Fc ab 2=true then Ge (if(if i.op=12/\Fc ab 3=true then 14 else i.op)=23/\(E7 ab).sure 2=true then 24 else(if i.op=12/\Fc ab 3=true then 14 else i.op)) else(if(if i.op=12/\Fc ab 3=true then 14 else i.op)=23/\(E7 ab).sure 2=true then 24 else(if i.op=12/\Fc ab 3=true then 14 else i.op)))=42):i.op=42:=by
 have h2:(if(if i.op=12/\Fc ab 3=true then 14 else i.op)=23/\(E7 ab).sure 2=true then 24 else(if i.op=12/\Fc ab 3=true then 14 else i.op))=42:=by
  split at h
  ·exact Agr h
  ·exact h
 clear h;split at h2
 ·cases h2
 ·split at h2
  ·cases h2
  ·exact h2
theorem Ags{o:Nat}(h:Kp o):Kp (Ge o):=by
 unfold Ge;unfold Kp at *;repeat (first|(split;omega)|exact h)
theorem Aio{i:Ac}{ab:List Kn}(h:Kp i.op):Kp (if Fc ab 2=true then Ge (if(if i.op=12/\Fc ab 3=true then 14 else i.op)=23/\(E7 ab).sure 2=true then 24 else(if i.op=12/\Fc ab 3=true then 14 else i.op)) else(if(if i.op=12/\Fc ab 3=true then 14 else i.op)=23/\(E7 ab).sure 2=true then 24 else(if i.op=12/\Fc ab 3=true then 14 else i.op))):=by
 have h1:Kp (if i.op=12/\Fc ab 3=true then 14 else i.op):=by
  split
  ·unfold Kp;omega
  ·exact h
 generalize (if i.op=12/\Fc ab 3=true then 14 else i.op)=o1 at *;have h2:Kp (if o1=23/\(E7 ab).sure 2=true then 24 else o1):=by
  split
  ·unfold Kp;omega
  ·exact h1
 split
 ·exact Ags h2
 ·exact h2
theorem Ad6{ps ab:List Kn}{i:Ac}(hp:∀x∈ps,M1 x)(hi:Js N i):Js N (quick ps ab i):=by
 have hl:M1 (Fm ps i):=by
  unfold Fm;split
  ·exact Af9 hp _
  ·exact Si
 unfold quick;split
 ·rename_i hw;obtain⟨h1,h2,h3⟩:=hl hw;exact⟨by simp,by simp,h1,h2,h3,fun q=>(by cases q),(by unfold Kp;dsimp only;omega)⟩
 ·exact⟨hi.1,hi.2.1,hi.2.2.1,hi.2.2.2.1,hi.2.2.2.2.1,fun q=>hi.2.2.2.2.2.1 (Ain q),Aio hi.2.2.2.2.2.2⟩
theorem Ad7{ps:List Kn}(hp:∀x∈ps,M1 x):∀(l:List Ac) (ab:List Kn),(∀i∈l,Js N i)->∀i∈K7 P ps ab l,Js N i:=by
 intro l;induction l with
 | nil=>intro ab _ i hi;simp[K7]at hi
 | cons j r ih=>
  intro ab h i hi;rw[K7,List.mem_cons]at hi;rcases hi with rfl|hi
  ·exact Ad6 hp (h j z50a)
  ·exact ih _ (fun x hx=>h x (by simp[hx])) i hi
theorem W4(b:Cx)(i:Nat):(Jm b i).like.r=none:=by
 unfold Jm;split
 ·rfl
 ·repeat' (first|rfl|split)
theorem Ad4{f:Fn}(hf:No N B f){b:Cx}(hb:Mq b):Qc N B (I0 P b f):=by
 unfold I0;dsimp only;refine⟨hf.1,by simp only[List.length_map,List.length_range];have:=hf.1;have:=hf.2.1;omega,?_⟩;refine⟨Ad7 (Afc _ _ ?_) _ _ hf.2.2,fun x hx=>?_⟩;rotate_left
 ·simp only[List.mem_map]at hx;obtain⟨i,_,rfl⟩:=hx;exact W4 b i
 intro x hx;simp only[List.mem_map]at hx;obtain⟨i,_,rfl⟩:=hx;exact Af8 hb i
theorem Inv.Zr(h:Inv N B k m)(n:Nat)(l:Dv)(hlc:l.calls<=k/\l.fast<=k/\l.drops<=k){f:Fn}(hf:No N B f)(d:Nat)(hd:d<=k+1):Inv N B (k+B+1) ((m.Kw n ⟨l.calls+1,none,l.fast,d⟩).begin f.slots f.steps f.params):=by
 have:=((h.mono (Nat.le_succ k)).Kw n (l:=⟨l.calls+1,none,l.fast,d⟩) (by intro fo q;cases q) ⟨by dsimp only;omega,by dsimp only;omega,hd⟩).begin hf.1 (by have:=hf.1;have:=hf.2.1;omega) hf.2.2 (args:=f.params);rw[show k+B+1=k+1+B by omega];exact this
theorem Inv.Zs(h:Inv N B k m)(n:Nat)(l:Dv)(hlc:l.calls<=k/\l.fast<=k/\l.drops<=k){f:Fn}(hf:No N B f){fo:Form}(q:Qc N B fo):Inv N B (k+B+1) (if Jc m ((m.vals.length:Nat)-(fo.bet.length:Nat)) fo.bet then(m.Kw n ⟨l.calls+1,some fo,l.fast+1,l.drops⟩).begin fo.slots fo.steps f.params else(m.Kw n ⟨l.calls+1,none,l.fast,l.drops+1⟩).begin f.slots f.steps f.params):=by
 split
 ·have:=((h.mono (Nat.le_succ k)).Kw n (l:=⟨l.calls+1,some fo,l.fast+1,l.drops⟩) (by intro fo' q';injection q' with q';rw[←q'];exact q) ⟨by dsimp only;omega,by dsimp only;omega,by dsimp only;omega⟩).begin q.1 (by have:=hf.1;have:=hf.2.1;omega) q.2.2.1 (args:=f.params);rw[show k+B+1=k+1+B by omega];exact this
 ·exact h.Zr n l hlc hf _ z4va
theorem Aoh{n c:Nat}:∀{l:List Cx} {b:Cx},taken n c l=some b->b∈l:=by
 intro l;induction l with
 | nil=>intro b h;simp[taken]at h
 | cons x r ih=>
  intro b h;rw[taken]at h;cases hq:taken n c r with
  | some y=>rw[hq]at h;injection h with h;rw[←h];exact List.mem_cons_of_mem _ (ih hq)
  | none=>
   rw[hq]at h;dsimp only at h;split at h
   ·injection h with h;rw[←h];exact List.mem_cons_self
   ·cases h
theorem Inv.body(h:Inv N B k m)(hbt:∀x∈bets,Mq x)(n:Nat){f:Fn}(hf:No N B f):Inv N B (k+B+1) (m.body P bets n f):=by
 unfold MS.body;cases hl:m.lots[n]? with
 | none=>exact h.mono z4va
 | some l=>
  have hlc:=h.lotc l (List.mem_of_getElem? hl);dsimp only;cases ht:taken n l.calls bets with
  | none=>
   cases hx:l.form with
   | none=>exact h.Zr n l hlc hf _ z4va
   | some fo=>exact h.Zs n l hlc hf (h.lots l (List.mem_of_getElem? hl) fo hx)
  | some b=>exact h.Zs n l hlc hf (Ad4 hf (hbt b (Aoh ht)))
theorem Inv.Mj(h:Inv N B k m)(i:Ac):Inv N B k (m.Mj i):=by
 unfold MS.Mj;split
 ·exact h.pop.fail 10 i
 ·rename_i hn;have:=h.out;exact⟨h.pop.vals,h.pop.str,h.gls,h.ars,h.now,h.calls,h.lots,h.fuel,h.depth,by simp only[List.length_append,List.length_singleton];show m.out.length+1<=100;omega,h.cells,h.arl,h.lotn,h.lotc⟩
theorem Inv.leave(h:Inv N B k m){v:PV}(hv:I2 v):Inv N B (k+1) { (m.cut m.now.base).push v with now:=m.calls.getLastD ⟨[],0,0⟩,calls:=m.calls.dropLast }:=by
 have q:=(h.cut m.now.base).push hv;have hl:Pf N B k (m.calls.getLastD ⟨[],0,0⟩):=by
  rw[List.getLastD_eq_getLast?];cases hc:m.calls.getLast? with
  | none=>exact⟨by simp,by simp,by simp⟩
  | some f=>exact h.calls f (List.mem_of_getLast? hc)
 exact⟨q.vals,q.str,q.gls,q.ars,hl.mono (Nat.le_succ k),fun f hf=>q.calls f (List.dropLast_subset _ hf),q.lots,q.fuel,by have:=h.depth;show m.calls.dropLast.length<=40;simp only[List.length_dropLast];omega,q.out,q.cells,q.arl,q.lotn,q.lotc⟩
theorem Inv.Vz(h:Inv N B k m){arr:List (List PV)}(ha:∀l∈arr,∀v∈l,I2 v)(hl:∀l∈arr,l.length<=m.cells):Inv N B k { m with arr:=arr }:=⟨h.vals,h.str,h.gls,ha,h.now,h.calls,h.lots,h.fuel,h.depth,h.out,h.cells,hl,h.lotn,h.lotc⟩
theorem A1h{arr:List (List PV)}{c d:Nat}(ha:∀l∈arr,l.length+d<=c)(f:List PV->List PV)(hf:∀l,(f l).length=l.length+d)(i:Nat):∀l∈arr.modify i f,l.length<=c:=by
 intro l hl;rw[List.mem_iff_getElem?]at hl;obtain⟨j,hj⟩:=hl;rw[List.getElem?_modify]at hj;cases hq:arr[j]? with
 | none=>rw[hq]at hj;simp at hj
 | some x=>
  rw[hq]at hj;simp only[Option.map_eq_map,Option.map_some,Option.some.injEq]at hj;rw[←hj];have hx:=ha x (List.mem_of_getElem? hq);split
  ·rw[hf];exact hx
  ·omega
theorem A0s{arr:List (List PV)}(ha:∀l∈arr,∀v∈l,I2 v)(f:List PV->List PV)(hf:∀l,(∀v∈l,I2 v)->∀v∈f l,I2 v)(i:Nat):∀l∈arr.modify i f,∀v∈l,I2 v:=by
 intro l hl;rw[List.mem_iff_getElem?]at hl;obtain⟨j,hj⟩:=hl;rw[List.getElem?_modify]at hj;cases hq:arr[j]? with
 | none=>rw[hq]at hj;simp at hj
 | some x=>
  rw[hq]at hj;simp only[Option.map_eq_map,Option.map_some,Option.some.injEq]at hj;rw[←hj];have hx:=ha x (List.mem_of_getElem? hq);split
  ·exact hf x hx
  ·exact hx
theorem Alx(h:Inv N B k m){n:Nat}(hn:sizeOf' m m.top=some n):D4 ((n:Nat):Int):=by
 unfold sizeOf' at hn;have h1:=h.top.1;have h2:=h.cells;split at hn
 ·injection hn with hn;unfold D4;omega
 ·split at hn
  ·injection hn with hn;cases hq:m.arr[m.top.r.getD 0]? with
   | none=>rw[hq]at hn;simp at hn;unfold D4;omega
   | some l=>rw[hq]at hn;simp at hn;have:=h.arl l (List.mem_of_getElem? hq);unfold D4;omega
  ·cases hn
theorem z2ba {P:Prop} (h:P:=by
  exact k1 (h.pop.pop.push (Me _))):P:=h
theorem z3va {P:Prop} (h:P:=by
  exact k1 (h.ints i (fun a b m' _ h'=>h'.push (N4 _)))):P:=h
theorem z3sa {P:Prop} (h:P:=by
  split
  ·exact z2ba
  ·exact k0 (h.fail 5 i)):P:=h
theorem Inv.act(h:Inv N B k m)(hN:P.fns.length=N)(hP:Oa B P)(hbt:∀x∈bets,Mq x)(i:Ac)(hi:Js N i):Inv N B (k+B+1) (Ay P bets i m):=by
 have k1:∀{m'},Inv N B (k+1) m'->Inv N B (k+B+1) m':=fun q=>q.mono z4va;have k0:∀{m'},Inv N B k m'->Inv N B (k+B+1) m':=fun q=>q.mono z4va;have k2:∀{m'},Inv N B k m'->Inv N B (k+1) m':=fun q=>q.mono z4va;unfold Ay;split
 ·exact k1 (h.push hi.2.2.2.2.1)
 ·exact k1 (h.push (h.at' _))
 ·exact k1 (h.push (Sd h.gls _))
 ·exact k0 (h.pop.put _ h.top)
 ·refine k0 ⟨h.pop.vals,h.pop.str,?_,h.ars,h.now,h.calls,h.lots,h.fuel,h.depth,h.out,h.cells,h.arl,h.lotn,h.lotc⟩;intro v hv;rcases List.mem_or_eq_of_mem_set hv with q|q
  ·exact h.gls v q
  ·rw[q];exact h.top
 ·exact k0 h.pop
 ·exact k0 (h.jump _)
 ·split
  ·refine k0 (h.pop.Kh i (Nat.le_refl _) (fun m' h'=>?_));split
   ·exact h'
   ·exact h'.fail 5 i
  ·split
   ·exact k0 (h.pop.jump _)
   ·exact k0 (h.pop.fail 5 i)
 ·split
  ·split
   ·exact k0 h.pop
   ·exact k0 (h.pop.jump _)
  ·exact k0 (h.pop.fail 5 i)
 ·split
  ·split
   ·exact k0 h.pop
   ·exact k0 (h.jump _)
  ·exact k0 (h.fail 5 i)
 ·split
  ·split
   ·exact k0 (h.jump _)
   ·exact k0 h.pop
  ·exact k0 (h.fail 5 i)
 ·split
  ·exact k0 h
  ·exact k0 (h.fail 5 i)
 ·split
  ·exact k1 (h.join i)
  ·exact z3va
 ·exact k1 (h.pop.pop.push (N4 _))
 ·exact k1 (h.join i)
 ·exact z3va
 ·exact k1 (h.pop.pop.push (N4 _))
 ·exact z3va
 ·exact k1 (h.pop.pop.push (N4 _))
 ·exact k1 (h.ints i (fun a b m' _ h'=>by split;exact k2 (h'.fail 6 i);exact h'.push (N4 _)))
 ·unfold MS.two;dsimp only;split
  ·exact k0 (h.pop.pop.fail 6 i)
  ·exact k1 (h.pop.pop.push (N4 _))
 ·exact k1 (h.ints i (fun a b m' ha h'=>by split;exact k2 (h'.fail 6 i);exact h'.push (Qt (A4i a b ha))))
 ·unfold MS.two;dsimp only;split
  ·exact k0 (h.pop.pop.fail 6 i)
  ·exact k1 (h.pop.pop.push (Qt (A4i _ _ h.pop.top.2)))
 ·split
  ·exact k1 (h.pop.push (N4 _))
  ·exact k0 (h.fail 5 i)
 ·exact k1 (h.pop.push (N4 _))
 ·exact z2ba
 ·exact z2ba
 ·split
  ·exact k1 (h.pop.push (Me _))
  ·exact k0 (h.pop.fail 5 i)
 ·exact z3sa
 ·exact z3sa
 ·exact z3sa
 ·exact z3sa
 ·exact z2ba
 ·exact z2ba
 ·exact z2ba
 ·exact z2ba
 ·refine k1 (h.room i.arg i (Nat.le_succ k) (fun m' h' hc hl=>?_));refine Inv.push (Inv.Vz (h'.cut _) (fun l hl' v hv=>?_) (fun l hl'=>?_)) ⟨by simp[Cf],O2⟩
  ·rcases List.mem_append.1 hl' with q|q
   ·exact h'.ars l q v hv
   ·rw[List.mem_singleton.1 q]at hv;obtain⟨j,_,rfl⟩:=List.mem_map.1 hv;exact h'.at' _
  ·rcases List.mem_append.1 hl' with q|q
   ·have:=hl l q;show l.length<=m'.cells;omega
   ·rw[List.mem_singleton.1 q];simp only[List.length_map,List.length_range];exact hc
 ·cases hq:sizeOf' m m.top with
  | some n=>exact k1 (h.pop.push (Qt (Alx h hq)))
  | none=>exact k0 (h.pop.fail 5 i)
 ·unfold MS.two;dsimp only;split
  ·refine k1 (h.pop.pop.room 1 i (Nat.le_succ k) (fun m' h' hc hl=>?_));refine Inv.push (Inv.Vz h' (A0s h'.ars _ (fun l hl' v hv=>?_) _) (A1h (d:=1) hl _ (fun l=>by simp) _)) h.top;rcases List.mem_append.1 hv with q|q
   ·exact hl' v q
   ·rw[List.mem_singleton.1 q];exact h.top
  ·exact k0 (h.pop.pop.fail 5 i)
 ·unfold MS.two;dsimp only;refine k1 (h.pop.pop.place _ _ i (Nat.le_succ k) (fun m' h'=>?_));refine h'.push ?_;split
  ·exact⟨by simp only[ofStr,List.length_take,List.length_drop];omega,O2⟩
  ·refine Sd (fun v hv=>?_) _;cases hq:m'.arr[m.pop.top.r.getD 0]? with
   | none=>rw[hq]at hv;simp at hv
   | some l=>rw[hq]at hv;exact h'.ars l (List.mem_of_getElem? hq) v hv
 ·unfold MS.two;dsimp only;split
  ·refine k0 (h.pop.pop.pop.place _ _ i (Nat.le_refl k) (fun m' h'=>?_));refine Inv.Vz h' (A0s h'.ars _ (fun l hl' v hv=>?_) _) (A1h (d:=0) h'.arl _ (fun l=>by simp) _);rcases List.mem_or_eq_of_mem_set hv with q|q
   ·exact hl' v q
   ·rw[q];exact h.top
  ·exact k0 (h.pop.pop.pop.fail 5 i)
 ·exact k0 (h.Mj i)
 ·refine h.Kh i z4va (fun m' h'=>?_);split
  ·exact(h'.fail 9 i).mono z4va
  ·rename_i hd;split
   ·rename_i f hf;have hff:=hP.fns f (List.mem_of_getElem? hf);rw[hN]at hff;refine Inv.body ?_ hbt _ hff;refine⟨h'.vals,h'.str,h'.gls,h'.ars,h'.now,?_,h'.lots,h'.fuel,by have:=h'.depth;simp only[List.length_append,List.length_singleton];omega,h'.out,h'.cells,h'.arl,h'.lotn,h'.lotc⟩;intro x hx;simp only[List.mem_append,List.mem_singleton]at hx;rcases hx with hx|rfl
    ·exact h'.calls x hx
    ·exact h'.now
   ·exact h'.mono z4va
 ·exact k1 (h.leave Ov)
 ·exact k1 (Inv.leave h.pop h.top)
 ·exact k0 h
theorem Inv.step(h:Inv N B k m)(hN:P.fns.length=N)(hP:Oa B P)(hbt:∀x∈bets,Mq x)(i:Ac)(hi:i∈m.now.steps):Inv N B (k+B+1) (M8 P bets i m):=by
 have q:Inv N B k { m with now:=⟨m.now.steps,m.now.pc+1,m.now.base⟩ }:=h.T0 ⟨h.now.1,h.now.2.1,h.now.2.2⟩;exact q.act hN hP hbt i (h.now.2.2 i hi)
def Uk(i:Ac)(m:MS):Prop:=(i.op=41->m.top.k≠4)/\(i.op=39->m.pop.top.k≠3)/\(i.op=2\/i.op=4->i.arg.toNat<m.gl.length)/\(i.op=36->i.arg.toNat<=m.vals.length)
structure Dx (P : D7) (i : Ac) (m : MS) : Prop where
 nice:Uk i m
 ars:∀l∈m.arr,l.length<=500
 cells:m.cells<=500
 ins:Js P.fns.length i
 vals:m.vals.length<=80000
 base:-1000<=m.now.base/\m.now.base<=80000
 fuel:m.fuel<=2000
 depth:m.calls.length<=40
 out:m.out.length<=100
 str:∀v∈m.vals,I2 v
 lotn:m.lots.length=P.fns.length
 lots:∀l∈m.lots,∀fo,l.form=some fo->Qc P.fns.length 1000 fo
 lotc:∀l∈m.lots,l.calls<=80000/\l.fast<=80000/\l.drops<=80000
 fns:∀f∈P.fns,No P.fns.length 1000 f
def P3(P:D7)(bets:List Cx):Nat->MS->Prop
 | 0,_=>True
 | n+1,m=>m.code=0->∀i,m.now.steps[m.now.pc]?=some i->Dx P i m/\P3 P bets n (M8 P bets i m)
def nice(P:D7)(bets:List Cx):Nat->MS->Prop
 | 0,_=>True
 | n+1,m=>m.code=0->∀i,m.now.steps[m.now.pc]?=some i->Uk i m/\nice P bets n (M8 P bets i m)
theorem A27(hP:Oa B P)(hbt:∀x∈bets,Mq x)(hB:B<=1000):∀(n k:Nat) (m:MS),Inv P.fns.length B k m->nice P bets n m->k+n*(B+1)<=80000->P3 P bets n m:=by
 intro n;induction n with
 | zero=>intro k m _ _ _;trivial
 | succ n ih=>
  intro k m h hni hk hc i hi;obtain⟨Bl,Di⟩:=hni hc i hi;have hm:=List.mem_of_getElem? hi;have e:(n+1)*(B+1)=n*(B+1)+B+1:=by rw[Nat.add_mul];omega
  refine⟨⟨Bl,fun l hl=>Nat.le_trans (h.arl l hl) h.cells,h.cells,h.now.2.2 i hm,by have:=h.vals;omega,⟨by have:=h.now.1;omega,by have:=h.now.2.1;omega⟩,h.fuel,h.depth,h.out,h.str,h.lotn,fun l hl fo hfo=>?_,fun l hl=>by have:=h.lotc l hl;omega,fun f hf=>?_⟩,ih (k+B+1) _ (h.step rfl hP hbt i hm) Di z4va⟩
  ·obtain⟨q1,q2,q3⟩:=h.lots l hl fo hfo;exact⟨by omega,by omega,q3⟩
  ·obtain⟨q1,q2,q3⟩:=hP.fns f hf;exact⟨by omega,q2,q3⟩
theorem Xg(hP:Oa B P):Inv P.fns.length B B (mstart P):=by
 have h0:Inv P.fns.length B 0 ⟨[],K6 P.globals,[],⟨[],0,0⟩,2000,0,[],0,0,[],List.replicate P.fns.length ⟨0,none,0,0⟩⟩:=by
  refine⟨by simp,by simp,?_,by simp,⟨by simp,by simp,by simp⟩,by simp,?_,by simp,by simp,by simp,by simp,by simp,by simp,fun l hl=>by simp only[List.mem_replicate]at hl;rw[hl.2];simp⟩
  ·intro v hv;simp only[K6,List.mem_replicate]at hv;rw[hv.2];exact Ov
  ·intro l hl fo hfo;simp only[List.mem_replicate]at hl;rw[hl.2]at hfo;cases hfo
 have:=h0.begin hP.slots (Nat.zero_le _) hP.main (args:=0);rw[Nat.zero_add]at this;exact this
end
section
open Go.Deep (BT)
def Fx(n:Int):List UInt8:=if n<0 then 40::45::(Lib.decDigits (-(n+1)).toNat++[45,49,41]) else Lib.decDigits n.toNat
def Sq(n:Int):List Tk:=if n<0 then [⟨18,1,[],0⟩,⟨35,1,[],0⟩,⟨2,1,[],-(n+1)⟩,⟨35,1,[],0⟩,⟨2,1,[],1⟩,⟨19,1,[],0⟩] else [⟨2,1,[],n⟩]
def K9:List Tk->Nat ⊕ List Tk->Nat ⊕ List Tk
 | [],x=>x
 | t::r,x=>match K9 r x with
  | .inl l=>.inl l
  | .inr ts=>.inr (t::ts)
theorem Aov(ys:List Tk):∀ts,K9 ts (.inr ys)=.inr (ts++ys):=by
 intro ts;induction ts with
 | nil=>rfl
 | cons t r ih=>rw[K9,ih];rfl
theorem Tb(b:List Tk)(x:Nat ⊕ List Tk):∀a,K9 (a++b) x=K9 a (K9 b x):=by
 intro a;induction a with
 | nil=>rfl
 | cons t r ih=>rw[List.cons_append,K9,K9,ih]
theorem Xm:∀(f g:Nat) (l:List UInt8) (line:Nat) (said:Bool),l.length<f->l.length<g->lex f l line said=lex g l line said:=by
 intro f;induction f with
 | zero=>intro g l line said h;omega
 | succ f ih=>
  intro g l line said h1 h2;obtain⟨g,rfl⟩:∃k,g=k+1:=⟨g-1,by omega⟩;cases l with
  | nil=>rfl
  | cons c r=>
   simp only[List.length_cons]at h1 h2;have e1:∀line said,lex f r line said=lex g r line said:=fun line said=>ih g r line said z4va z4va;rw[lex,lex,e1,e1];cases ht:F5 (c::r) with
   | none=>rfl
   | some x=>
    obtain⟨t,n⟩:=x;have hn:=(V6 c r t n ht).2.2;have e2:=ih g ((c::r).drop n) line false z4ya z4ya;simp only[e2]
theorem k7(u:Nat):∀c∈Lib.decDigits u,De c=true:=by
 induction u using Nat.strongRecOn with
 | _ u ih=>
  have hd:∀k,k<10->De (UInt8.ofNat (48+k))=true:=by
   intro k hk;have:(UInt8.ofNat (48+k)).toNat=48+k:=by simp;omega
   simp only[De,this,Bool.and_eq_true,decide_eq_true_eq];omega
  rw[Lib.decDigits];split
  ·intro c hc;simp only[List.mem_singleton]at hc;rw[hc];exact hd u (by assumption)
  ·intro c hc;simp only[List.mem_append,List.mem_singleton]at hc;rcases hc with hc|hc
   ·exact ih (u / 10) z4va c hc
   ·rw[hc];exact hd _ (Nat.mod_lt _ z4va)
theorem Abf(c:UInt8):∀(l:List UInt8) (a:Int),Hr a (l++[c])=10*Hr a l+((c.toNat:Int)-48):=by
 intro l;induction l with
 | nil=>intro a;rfl
 | cons d r ih=>intro a;rw[List.cons_append,Hr,Hr,ih]
theorem Abe(u:Nat):Hr 0 (Lib.decDigits u)=(u:Int):=by
 induction u using Nat.strongRecOn with
 | _ u ih=>
  rw[Lib.decDigits];split
  ·have:(UInt8.ofNat (48+u)).toNat=48+u:=by simp;omega
   simp only[Hr,this];omega
  ·have:(UInt8.ofNat (48+u % 10)).toNat=48+u % 10:=by simp;omega
   rw[Abf,ih (u / 10) z4va,this];omega
theorem Wg(u:Nat):∃d r,Lib.decDigits u=d::r/\De d=true:=by
 have h:=k7 u;have hl:1<=(Lib.decDigits u).length:=by rw[Lib.decDigits_length];exact Lib.nDigits_pos u
 cases hd:Lib.decDigits u with
 | nil=>rw[hd]at hl;simp at hl
 | cons d r=>rw[hd]at h;exact⟨d,r,rfl,h d z50a⟩
theorem Aoa{α:Type}(p:α->Bool)(c:α)(r:List α)(hc:p c=false):∀l:List α,(∀x∈l,p x=true)->(l++c::r).takeWhile p=l:=by
 intro l;induction l with
 | nil=>intro _;rw[List.nil_append,List.takeWhile_cons,hc];rfl
 | cons d s ih=>intro h;rw[List.cons_append,List.takeWhile_cons,h d z50a];simp only[if_true];rw[ih (fun x hx=>h x (by simp[hx]))]
theorem A1k(u:Nat)(hu:(u:Int)<=So)(c:UInt8)(r:List UInt8)(hc:De c=false)(f line:Nat):lex (f+1) (Lib.decDigits u++c::r) line false=K9 [⟨2,line,[],(u:Nat)⟩] (lex f (c::r) line false):=by
 obtain⟨d,s,hd,hdig⟩:=Wg u;have htw:=Aoa De c r hc (Lib.decDigits u) (k7 u);have hval:=Abe u;have hlen:((Lib.decDigits u)++c::r).drop (Lib.decDigits u).length=c::r:=List.drop_left;have hdr:48<=d.toNat/\d.toNat<=57:=by simpa [De]using hdig
 have h10:(d==10)=false:=by rw[beq_eq_false_iff_ne];intro e;rw[e]at hdr;exact absurd hdr.1 z4wa
 have h9:(d==9)=false:=by rw[beq_eq_false_iff_ne];intro e;rw[e]at hdr;exact absurd hdr.1 z4wa
 have h32:(d==32)=false:=by rw[beq_eq_false_iff_ne];intro e;rw[e]at hdr;exact absurd hdr.1 z4wa
 have h47:(d==47)=false:=by rw[beq_eq_false_iff_ne];intro e;rw[e]at hdr;exact absurd hdr.1 z4wa
 have hp:Gu d=true:=by simp only[Gu,Bool.and_eq_true,decide_eq_true_eq];omega
 rw[hd,List.cons_append]at htw hlen;rw[hd]at hval;rw[hd,List.cons_append,lex];have htok:F5 (d::(s++c::r))=some (⟨2,0,[],(u:Nat)⟩,(d::s).length):=by
  rw[F5,if_pos hdig,htw,numOf,hval,if_pos hu]
 simp only[h10,hp,h47,h9,h32,htok,hlen,Bool.not_true,Bool.and_false,Bool.or_false,Bool.false_and,if_false,Bool.false_eq_true];rfl
theorem Ag0(n:Int)(h1:-9223372036854775808<=n)(h2:n<=9223372036854775807)(c:UInt8)(r:List UInt8)(hc:De c=false):∃k,∀f,lex (f+k) (Fx n++c::r) 1 false=K9 (Sq n) (lex f (c::r) 1 false):=by
 unfold Fx Sq;by_cases h:n<0
 ·refine⟨6,fun f=>?_⟩;rw[if_pos h,if_pos h];obtain⟨d,s,hd,hdig⟩:=Wg (-(n+1)).toNat;have e1:lex (f+6) (40::45::(Lib.decDigits (-(n+1)).toNat++[45,49,41])++c::r) 1 false=K9 [⟨18,1,[],0⟩,⟨35,1,[],0⟩] (lex (f+4) (Lib.decDigits (-(n+1)).toNat++45::49::41::c::r) 1 false):=by
   rw[List.cons_append,List.cons_append,List.append_assoc,List.cons_append,List.cons_append,List.cons_append,List.nil_append,hd,List.cons_append];rfl
  have e2:lex (f+3) (45::49::41::c::r) 1 false=K9 [⟨35,1,[],0⟩,⟨2,1,[],1⟩,⟨19,1,[],0⟩] (lex f (c::r) 1 false):=rfl;rw[e1,A1k _ (by unfold So;omega) 45 _ z4wa,e2,show(((-(n+1)).toNat:Nat):Int)=-(n+1) by omega,←Tb,←Tb];rfl
 ·refine⟨1,fun f=>?_⟩;rw[if_neg h,if_neg h,A1k _ (by unfold So;omega) c r hc,show((n.toNat:Nat):Int)=n by omega]
theorem U2(u:Nat)(h:u<10000000000000000000):(Lib.decDigits u).length<=19:=by
 rw[Lib.decDigits_length];rcases Nat.lt_or_ge 19 (Lib.nDigits u) with hk|hk
 ·exfalso;have:∀(k v:Nat),k+1<=Lib.nDigits v->10 ^ k<=v\/k=0:=by
   intro k;induction k with
   | zero=>intro v _;right;rfl
   | succ k ih=>
    intro v hv;left;by_cases h10:v<10
    ·rw[Lib.nDigits_small h10]at hv;omega
    ·rw[Lib.nDigits_big h10]at hv;rcases ih (v / 10) z4va with q|q
     ·rw[Nat.pow_succ];omega
     ·rw[q];omega
  rcases this 19 u z4va with q|q
  ·omega
  ·omega
 ·exact hk
theorem U3(n:Int)(h1:-9223372036854775808<=n)(h2:n<=9223372036854775807):(Fx n).length<=24:=by
 unfold Fx;split
 ·have:=U2 (-(n+1)).toNat z4va;simp only[List.length_cons,List.length_append,List.length_nil];omega
 ·have:=U2 n.toNat z4va;omega
theorem A1b(n:Int)(h1:-9223372036854775808<=n)(h2:n<=9223372036854775807):(Lib.itoa n).length<=20:=by
 unfold Lib.itoa;split
 ·have:=U2 n.natAbs z4va;simp only[List.length_cons];omega
 ·have:=U2 n.toNat z4va;omega
theorem Abi(n:Int):∃d s,Fx n=d::s:=by
 unfold Fx;split
 ·exact⟨_,_,rfl⟩
 ·obtain⟨d,s,h,_⟩:=Wg n.toNat;exact⟨d,s,h⟩
def Lj(n:Int):List Ac:=if n<0 then [⟨0,0,0,ofInt (-(n+1))⟩,⟨23,0,1,Ag⟩,⟨0,0,0,ofInt 1⟩,⟨15,0,1,Ag⟩] else [⟨0,0,0,ofInt n⟩]
def Ng(ts:List Tk):BT A6:=match Ah 100000 10 0 .nil ⟨ts,0⟩ with
 | some r=>r.1
 | none=>.nil
theorem Ap7(l:List UInt8)(ts:List Tk)(hl:l.length<=2000)(h:∀f,l.length<f->lex f l 1 false=.inr ts)(h1:Ah 100000 10 0 .nil ⟨ts,0⟩=some (Ng ts,⟨[⟨0,1,[],0⟩],0⟩))(h2:nest ts 0=0)(h3:Et (Cr (Ng ts)) (Ng ts) [] [] (0,0)=(0,0)):Hi l=((0,0),some (Ng ts)):=by
 unfold Hi;rw[if_neg z4va,h _ (Nat.lt_succ_self _)];simp only[h1,h2,h3,ne_eq,not_true_eq_false,if_false]
theorem Ahb(l:List UInt8)(ts:List Tk)(h:∀f,l.length<f->lex f l 1 false=.inr ts)(h1:Ah 100000 10 0 .nil ⟨ts,0⟩=some (Ng ts,⟨[⟨0,1,[],0⟩],0⟩))(hb:bsize (Ng ts)<=4002):Qd l:=fun ts' h'=>by
 have:=(h _ (Nat.lt_succ_self _)).symm.trans h';cases this;exact⟨_,h1,fun _=>hb⟩
def Kb(P:D7)(bets:List Cx)(k:Nat)(m m':MS):Prop:=∀n,Iy P bets (n+k) m=Iy P bets n m'
variable {P:D7} {bets:List Cx} {m0:MS} {a b:Int} {S:List Ac}
theorem Kb.trans{k j:Nat}{x y z:MS}(h1:Kb P bets k x y)(h2:Kb P bets j y z):Kb P bets (j+k) x z:=by
 intro n;rw[←Nat.add_assoc,h1,h2]
theorem Kb.one{m:MS}{i:Ac}(hc:m.code=0)(hi:m.now.steps[m.now.pc]?=some i):Kb P bets 1 m (M8 P bets i m):=by
 intro n;rw[Iy,if_neg (by rw[hc];simp),hi]
def Iq(m0:MS)(S:List Ac)(V:List PV)(o:List (List UInt8))(pc:Nat):MS:={ m0 with vals:=V,now:=⟨S,pc,0⟩,out:=o }
theorem goS{V:List PV}{o:List (List UInt8)}{pc:Nat}{x y:Ac}{m':MS}(hc:m0.code=0)(hi:S[pc]?=some x\/S[pc]?=some y)(hx:Ay P bets x (Iq m0 S V o (pc+1))=m')(hy:Ay P bets y (Iq m0 S V o (pc+1))=m'):Kb P bets 1 (Iq m0 S V o pc) m':=by
 rcases hi with h|h
 ·rw[←hx];exact Kb.one hc h
 ·rw[←hy];exact Kb.one hc h
theorem Ym(arr:List (List PV))(n:Int):G1 arr 4 [] (ofInt n)=Lib.itoa n:=by simp[G1,ofInt]
def Qh(c:Bool):List UInt8:=if c then [116,114,117,101] else [102,97,108,115,101]
theorem A9k(c:Bool):(Qh c).length<=500:=by cases c <;> decide
theorem Y9{V:List PV}{v:PV}{o:List (List UInt8)}{pc:Nat}{l:List UInt8}(ht:G1 m0.arr 4 [] v=l)(hl:l.length<=500)(ho:o.length<100):Ay P bets ⟨41,0,1,Ag⟩ (Iq m0 S (V++[v]) o pc)=Iq m0 S V (o++[l]) pc:=by
 show MS.Mj _ _=_;have e:(Iq m0 S (V++[v]) o pc).top=v:=by simp[MS.top,Iq]
 unfold MS.Mj;rw[e];have e2:(Iq m0 S (V++[v]) o pc).arr=m0.arr:=rfl;have e3:(Iq m0 S (V++[v]) o pc).out=o:=rfl;rw[e2,e3,ht,if_neg z4va];simp[MS.pop,Iq]
theorem Ak4(a b:Int):(ofInt a).same (ofInt b)=decide (a=b):=by
 simp only[PV.same,ofInt,beq_self_eq_true,Bool.true_and,Bool.and_true];by_cases h:a=b
 ·simp[h]
 ·simp[h]
theorem A8s(a b:Int):before (ofInt a) (ofInt b)=decide (a<b):=by unfold before;exact Bool.or_false _
theorem i20{n:Int}(h:D4 n):(Lib.itoa n).length<=500:=by have:=A1b n h.1 h.2;omega
end
section
open Go.Deep (BT)
variable {P:D7} {bets:List Cx} {a b:Int} {M:List Ac}
theorem X6{m0:MS}{V:List PV}{o:List (List UInt8)}{pc:Nat}{x:Ac}{m':MS}(hc:m0.code=0)(hi:M[pc]?=some x)(hx:Ay P bets x (Iq m0 M V o (pc+1))=m'):Kb P bets 1 (Iq m0 M V o pc) m':=goS hc (.inl hi) hx hx
theorem l8(a:Int):(Lj a).length<=4:=by unfold Lj;split <;> simp
def bs(f:Nat)(l:Dv)(calls:List Fr):MS:=⟨[],[],calls,⟨[],0,0⟩,f,0,[],0,0,[],[l]⟩
theorem Z8(m:MS)(i:Ac)(ho:i.op=42)(hf:m.fuel≠0)(hd:m.calls.length≠40){f:Fn}(hp:P.fns[i.arg.toNat]?=some f):Ay P bets i m=MS.body P bets i.arg.toNat f { m with fuel:=m.fuel-1,calls:=m.calls++[m.now] }:=by
 unfold Ay;rw[ho];show MS.Kh _ _ _=_;unfold MS.Kh;rw[if_neg hf];dsimp only;rw[if_neg hd,hp]
def Wv(i:Ac):Bool:=decide (0<=i.arg)&&decide (i.arg<=5000)&&i.v.r.isNone&&decide (i.v.k≠4)&&decide (i.v.t.length<=2000)&&decide (-9223372036854775808<=i.v.n)&&decide (i.v.n<=9223372036854775807)&&decide (i.op=42->i.arg.toNat<1)&&decide (i.op<=44)
theorem Qs{i:Ac}(h:Wv i=true):Js 1 i:=by
 simp only[Wv,Bool.and_eq_true,decide_eq_true_eq,Option.isNone_iff_eq_none]at h;obtain⟨h,o1⟩:=h;exact⟨h.1.1.1.1.1.1.1,h.1.1.1.1.1.1.2,h.1.1.1.1.1.2,h.1.1.1.1.2,⟨h.1.1.1.2,⟨h.1.1.2,h.1.2⟩⟩,h.2,o1⟩
theorem Ou{l:List Ac}(h:l.all Wv=true):∀i∈l,Js 1 i:=fun i hi=>Qs (List.all_eq_true.1 h i hi)
theorem Ww(n:Int)(h:D4 n):Js 1 ⟨0,0,0,ofInt n⟩:=⟨Int.le_refl 0,by show(0:Int)<=5000;decide,rfl,by show(2:Nat)≠4;decide,Qt h,fun q=>(by cases q),(by unfold Kp;dsimp only;omega)⟩
theorem Ad3(a:Int)(ha:D4 a):∀i∈Lj a,Js 1 i:=by
 unfold Lj;unfold D4 at ha;split
 ·intro i hi;simp only[List.mem_cons,List.not_mem_nil,or_false]at hi;rcases hi with rfl|rfl|rfl|rfl
  ·exact Ww _ ⟨by omega,by omega⟩
  ·exact Qs (by rfl)
  ·exact Ww _ ⟨by omega,by omega⟩
  ·exact Qs (by rfl)
 ·intro i hi;simp only[List.mem_singleton]at hi;rw[hi];exact Ww _ ha
end
section
set_option maxRecDepth 100000
open Go.Deep (BT)
def Nh:List UInt8:=[102,110,32,102,40,120,41,32,123,32,114,101,116,117,114,110,32,120,32,43,32,120,59,32,125,32,112,114,105,110,116,32,102,40,50,41,59,32,112,114,105,110,116,32,102,40,34,97,34,41,59,32,112,114,105,110,116,32,102,40,51,41,59]
def O7:List Tk:=[⟨4,1,[],0⟩,⟨1,1,[102],0⟩,⟨18,1,[],0⟩,⟨1,1,[120],0⟩,⟨19,1,[],0⟩,⟨20,1,[],0⟩,⟨9,1,[],0⟩,⟨1,1,[120],0⟩,⟨34,1,[],0⟩,⟨1,1,[120],0⟩,⟨25,1,[],0⟩,⟨21,1,[],0⟩,⟨12,1,[],0⟩,⟨1,1,[102],0⟩,⟨18,1,[],0⟩,⟨2,1,[],2⟩,⟨19,1,[],0⟩,⟨25,1,[],0⟩,⟨12,1,[],0⟩,⟨1,1,[102],0⟩,⟨18,1,[],0⟩,⟨3,1,[97],0⟩,⟨19,1,[],0⟩,⟨25,1,[],0⟩,⟨12,1,[],0⟩,⟨1,1,[102],0⟩,⟨18,1,[],0⟩,⟨2,1,[],3⟩,⟨19,1,[],0⟩,⟨25,1,[],0⟩,⟨0,1,[],0⟩]
def A9n:List Ac:=[⟨1,0,0,Ag⟩,⟨1,0,0,Ag⟩,⟨12,0,1,Ag⟩,⟨44,0,0,Ag⟩,⟨43,0,0,Ag⟩]
def fnA:Fn:=⟨[102],1,1,A9n⟩
def Ko:List Ac:=[⟨0,0,0,ofInt 2⟩,⟨42,0,1,Ag⟩,⟨41,0,1,Ag⟩,⟨0,0,0,ofStr [97]⟩,⟨42,0,1,Ag⟩,⟨41,0,1,Ag⟩,⟨0,0,0,ofInt 3⟩,⟨42,0,1,Ag⟩,⟨41,0,1,Ag⟩]
def Jj:D7:=⟨0,0,Ko,[fnA]⟩
theorem A1i:lex 2001 Nh 1 false=.inr O7:=by kernel_rfl
theorem A29:Ah 100000 10 0 .nil ⟨O7,0⟩=some (Ng O7,⟨[⟨0,1,[],0⟩],0⟩):=by kernel_rfl
theorem Age:nest O7 0=0:=by kernel_rfl
theorem Akg:Et (Cr (Ng O7)) (Ng O7) [] [] (0,0)=(0,0):=by kernel_rfl
theorem emA:Ny (Ng O7)=Jj:=by kernel_rfl
theorem Ap6:∃c,Hi Nh=((0,0),some c)/\Ny c=Jj:=by
 have hl:Nh.length=63:=by kernel_rfl
 exact⟨_,Ap7 Nh O7 z4va (fun f hf=>by rw[Xm f 2001 _ _ _ hf z4va,A1i]) A29 Age Akg,emA⟩
theorem Ah9:Qd Nh:=Ahb Nh O7 (fun f hf=>by rw[Xm f 2001 _ _ _ hf (show Nh.length<2001 by rw[show Nh.length=63 by kernel_rfl];omega),A1i]) A29 (of_decide_eq_true (by kernel_rfl))
def Mg(n:Nat):Dv:=⟨n,none,0,0⟩
theorem Ae7:Kb Jj [] 6 (mstart Jj) (Iq (bs 1999 (Mg 1) []) Ko [ofInt (wr (2+2))] [] 2):=fun n=>by kernel_rfl
theorem Ae8(o:List (List UInt8)):Kb Jj [] 6 (Iq (bs 1999 (Mg 1) []) Ko [] o 3) (Iq (bs 1998 (Mg 2) []) Ko [ofStr [97,97]] o 5):=fun n=>by kernel_rfl
theorem Ae9(o:List (List UInt8)):Kb Jj [] 6 (Iq (bs 1998 (Mg 2) []) Ko [] o 6) (Iq (bs 1997 (Mg 3) []) Ko [ofInt (wr (3+3))] o 8):=fun n=>by kernel_rfl
theorem Aot(arr:List (List PV))(t:List UInt8):G1 arr 4 [] (ofStr t)=t:=by simp[G1,ofStr]
def Q9:List (List UInt8):=[[52],[97,97],[54]]
theorem A8q:∃m',Iy Jj [] 22 (mstart Jj)=some m'/\m'.code=0/\m'.out=Q9:=by
 have i4:Lib.itoa (wr (2+2))=[52]:=by
  have:wr (2+2)=4:=Th ⟨by decide,by decide⟩;rw[this];simp[Lib.itoa,Lib.decDigits]
 have i6:Lib.itoa (wr (3+3))=[54]:=by
  have:wr (3+3)=6:=Th ⟨by decide,by decide⟩;rw[this];simp[Lib.itoa,Lib.decDigits]
 have s0:Kb Jj [] 1 (Iq (bs 1999 (Mg 1) []) Ko [ofInt (wr (2+2))] [] 2) (Iq (bs 1999 (Mg 1) []) Ko [] ([]++[[52]]) 3):=X6 (P:=Jj) (bets:=[]) rfl (show Ko[2]?=some ⟨41,0,1,Ag⟩ from rfl) (Y9 (V:=[]) ((Ym _ _).trans i4) z50a z50a);have s1:Kb Jj [] 1 (Iq (bs 1998 (Mg 2) []) Ko [ofStr [97,97]] ([]++[[52]]) 5) (Iq (bs 1998 (Mg 2) []) Ko [] ([]++[[52]]++[[97,97]]) 6):=X6 (P:=Jj) (bets:=[]) rfl (show Ko[5]?=some ⟨41,0,1,Ag⟩ from rfl) (Y9 (V:=[]) (Aot _ _) z50a z50a);have s2:Kb Jj [] 1 (Iq (bs 1997 (Mg 3) []) Ko [ofInt (wr (3+3))] ([]++[[52]]++[[97,97]]) 8) (Iq (bs 1997 (Mg 3) []) Ko [] ([]++[[52]]++[[97,97]]++[[54]]) 9):=X6 (P:=Jj) (bets:=[]) rfl (show Ko[8]?=some ⟨41,0,1,Ag⟩ from rfl) (Y9 (V:=[]) ((Ym _ _).trans i6) z50a z50a);have g:=((((Ae7.trans s0).trans (Ae8 _)).trans s1).trans (Ae9 _)).trans s2;exact⟨_,g 1,rfl,rfl⟩
theorem Wx:Oa 1 Jj:=by
 refine⟨by show(0:Nat)<=1;omega,Ou (by rfl),?_⟩;intro f hf;simp only[Jj,List.mem_singleton]at hf;rw[hf];exact⟨Nat.le_refl 1,Nat.le_refl 1,Ou (by rfl)⟩
def N7(i:Ac)(m:MS):Bool:=(i.op !=41||m.top.k !=4)&&(i.op !=39||m.pop.top.k !=3)&&((i.op !=2&&i.op !=4)||decide (i.arg.toNat<m.gl.length))&&(i.op !=36||decide (i.arg.toNat<=m.vals.length))
theorem Py{i:Ac}{m:MS}(h:N7 i m=true):Uk i m:=by
 simp only[N7,Bool.and_eq_true,Bool.or_eq_true,bne_iff_ne,decide_eq_true_eq]at h;obtain⟨⟨⟨h1,h2⟩,h3⟩,h4⟩:=h;exact⟨fun e=>h1.resolve_left (fun q=>q e),fun e=>h2.resolve_left (fun q=>q e),fun e=>h3.resolve_left (fun q=>e.elim (fun e=>q.1 e) (fun e=>q.2 e)),fun e=>h4.resolve_left (fun q=>q e)⟩
def Xq(P:D7)(bets:List Cx):Nat->MS->Bool
 | 0,_=>true
 | n+1,m=>m.code !=0||(match m.now.steps[m.now.pc]? with
  | none=>true
  | some i=>N7 i m&&Xq P bets n (M8 P bets i m))
theorem Agm(P:D7)(bets:List Cx):∀(n:Nat) (m:MS),Xq P bets n m=true->nice P bets n m:=by
 intro n;induction n with
 | zero=>intro m _;trivial
 | succ n ih=>
  intro m h hc i hi;rw[Xq,hc,hi]at h;simp only[bne_self_eq_false,Bool.false_or,Bool.and_eq_true]at h;exact⟨Py h.1,ih _ h.2⟩
theorem Agu:P3 Jj [] 22 (mstart Jj):=A27 Wx (fun x h=>by cases h) z4va 22 1 _ (Xg Wx) (Agm _ _ _ _ (by decide +kernel)) z4va
end
section
def U4(k:Nat):List UInt8:=[UInt8.ofNat (48+k)]
theorem Abh{n:Int}(h0:0<=n)(h:n<10):Fx n=U4 (n.tmod 10).toNat:=by
 unfold Fx;rw[if_neg z4va,Lib.decDigits,dif_pos z4va];rw[Int.tmod_eq_of_lt h0 h];rfl
theorem Abg{n:Int}(h:10<=n):Fx n=Fx (n.tdiv 10)++U4 (n.tmod 10).toNat:=by
 obtain⟨u,rfl⟩:∃u:Nat,n=(u:Int):=⟨n.toNat,by omega⟩;have e1:(u:Int).tdiv 10=((u / 10:Nat):Int):=rfl;have e2:(u:Int).tmod 10=((u % 10:Nat):Int):=rfl;rw[e1,e2];unfold Fx;rw[if_neg z4va,if_neg z4va,Int.toNat_natCast,Int.toNat_natCast,Int.toNat_natCast,Lib.decDigits,dif_neg z4va];rfl
theorem Abj{n:Int}(h:n<0):Fx n=[40,45]++Fx (-(n+1))++[45,49,41]:=by
 have e:Fx (-(n+1))=Lib.decDigits (-(n+1)).toNat:=by unfold Fx;rw[if_neg z4va]
 rw[e];unfold Fx;rw[if_pos h];rfl
theorem Aet{n:Int}(h:0<=n):Lib.itoa n=Fx n:=by
 unfold Lib.itoa Fx;rw[if_neg z4va,if_neg z4va]
theorem itoa_neg{n:Int}(h:n<0):Lib.itoa n=(if n.tdiv 10<0 then Lib.itoa (n.tdiv 10) else [45])++U4 (-(n.tmod 10)).toNat:=by
 obtain⟨u,rfl,hu⟩:∃u:Nat,n=-(u:Int)/\0<u:=⟨n.natAbs,by omega,by omega⟩;have e1:(-(u:Int)).tdiv 10=-((u / 10:Nat):Int):=by rw[Int.neg_tdiv];rfl
 have e2:-((-(u:Int)).tmod 10)=((u % 10:Nat):Int):=by rw[Int.neg_tmod,Int.neg_neg];rfl
 rw[e1,e2,Int.toNat_natCast];by_cases h10:u<10
 ·rw[if_neg z4va];unfold Lib.itoa;rw[if_pos h,Int.natAbs_neg,Int.natAbs_natCast,Lib.decDigits,dif_pos h10,Nat.mod_eq_of_lt h10];rfl
 ·rw[if_pos z4va];unfold Lib.itoa;rw[if_pos h,if_pos z4va,Int.natAbs_neg,Int.natAbs_natCast,Int.natAbs_neg,Int.natAbs_natCast,Lib.decDigits,dif_neg h10];rfl
end
end Go.Proofs.YtjdlndhfaaolaaaGreatDoor
