import Derived.Lib.ItoaNum
import Derived.Test.YtjdlndhfaaolaaaGreatDoorT09
set_option maxHeartbeats 20000000
namespace Go.Proofs.YtjdlndhfaaolaaaGreatDoor
section
open Go.Deep (BT)
def PV.same(a b:PV):Bool:=a.k==b.k&&a.y==b.y&&a.n==b.n&&a.t==b.t&&a.r==b.r
def ofBool(b:Bool):PV:=⟨1,b,0,[],none⟩
def ofInt(n:Int):PV:=⟨2,false,n,[],none⟩
def ofStr(t:List UInt8):PV:=⟨3,false,0,t,none⟩
def Ae(i:Nat):PV:=⟨4,false,0,[],some i⟩
structure Kn where
 kind:Bool
 whole:Bool
 like:PV
structure Form where
 slots:Nat
 steps:List Af
 bet:List Kn
structure Ey where
 calls:Nat
 form:Option Form
 fast:Nat
 drops:Nat
structure Dc where
 fn:Int
 after:Int
 kinds:List Int
 ints:List Int
structure Fr where
 steps:List Af
 pc:Nat
 base:Int
structure MS where
 vals:List PV
 gl:List PV
 calls:List Fr
 now:Fr
 fuel:Nat
 cells:Nat
 out:List (List UInt8)
 code:Nat
 line:Nat
 arr:List (List PV)
 lots:List Ey
def MS.push(v:PV)(m:MS):MS:={ m with vals:=m.vals++[v] }
def MS.top(m:MS):PV:=m.vals.getLastD Ab
def MS.at'(m:MS)(i:Int):PV:=if i<0 then Ab else(m.vals[i.toNat]?).getD Ab
def MS.pop(m:MS):MS:={ m with vals:=m.vals.dropLast }
def MS.put(i:Int)(v:PV)(m:MS):MS:={ m with vals:=if i<0 then m.vals else m.vals.set i.toNat v }
def MS.cut(n:Int)(m:MS):MS:={ m with vals:=if n<0 then m.vals else m.vals.take n.toNat }
def MS.fail(c:Nat)(i:Af)(m:MS):MS:={ m with code:=c,line:=i.line }
def MS.jump(a:Int)(m:MS):MS:={ m with now:=⟨m.now.steps,a.toNat,m.now.base⟩ }
def A4b(f:List UInt8->PV->List UInt8):Bool->List UInt8->List PV->List UInt8
 | _,l,[]=>l++[93]
 | b,l,v::r=>if 500<l.length then l else A4b f true (f (if b then l++[44] else l) v) r
def Fs(arr:List (List PV)):Nat->List UInt8->PV->List UInt8
 | n,l,v=>
  if v.k=1 then l++(if v.y then [116,114,117,101] else [102,97,108,115,101])
  else if v.k=2 then l++Lib.itoa v.n
  else if v.k=3 then l++v.t
  else if v.k=4 then
   match n with
   | 0=>l++[91,46,46,93]
   | n+1=>A4b (fun l' v'=>Fs arr n l' v') false (l++[91]) ((arr[v.r.getD 0]?).getD [])
  else l++[110,117,108,108]
def Eo:Kn:=⟨false,false,Ab⟩
def Dj(k:Nat):Kn:=⟨true,false,⟨k,false,0,[],none⟩⟩
def Js(v:PV):Kn:=⟨true,true,v⟩
def Kn.is(k:Kn)(v:PV):Bool:=if k.whole then v.same k.like else !k.kind||v.k==k.like.k
def Kn.sure(k:Kn)(kd:Nat):Bool:=k.kind&&k.like.k==kd
def Jk(b:Dc)(i:Nat):Kn:=
 match b.kinds[i]? with
 | none=>Eo
 | some k=>if k=1 then Dj 2 else if k=2 then Dj 3 else if k=3 then Dj 1 else if k=4 then Js Ab else if k=5 then Dj 4
  else if k=6 then Js (ofInt ((b.ints[i]?).getD 0)) else Eo
def Ky:List Af->List Kn->List Kn
 | [],ks=>ks
 | i::r,ks=>Ky r (if i.op=3/\i.arg<ks.length then ks.set i.arg.toNat Eo else ks)
def Fq(params:List Kn)(i:Af):Kn:=if i.op=1 then(params[i.arg.toNat]?).getD Eo else Eo
def E6(ab:List Kn):Kn:=ab.getLastD Eo
def Kl(ab:List Kn):Kn:=ab.dropLast.getLastD Eo
def Fg(ab:List Kn)(kd:Nat):Bool:=(E6 ab).sure kd&&(Kl ab).sure kd
def Gf(o:Nat):Nat:=
 if o=12 then 13 else if o=15 then 16 else if o=17 then 18 else if o=19 then 20 else if o=21 then 22 else if o=28 then 32 else if o=29 then 33 else if o=30 then 34 else if o=31 then 35 else o
def quick(params ab:List Kn)(i:Af):Af:=
 if(Fq params i).whole then⟨0,0,0,(Fq params i).like⟩
 else
  let o1:=if i.op=12/\Fg ab 3=true then 14 else i.op
  let o2:=if o1=23/\(E6 ab).sure 2=true then 24 else o1
  ⟨if Fg ab 2 then Gf o2 else o2,i.arg,i.line,i.v⟩
def N7(ab:List Kn):Kn:=if(E6 ab).sure 2||(Kl ab).sure 2 then Dj 2 else if(E6 ab).sure 3||(Kl ab).sure 3 then Dj 3 else Eo
def Tw(params ab:List Kn)(i:Af):Option Kn:=
 if i.op=0 then some (Js i.v)
 else if i.op=1\/i.op=2\/i.op=42\/i.op=39 then some (Fq params i)
 else if i.op=12 then some (N7 ab)
 else if i.op=15\/i.op=17\/i.op=19\/i.op=21\/i.op=23\/i.op=37 then some (Dj 2)
 else if i.op=25\/i.op=26\/i.op=27\/i.op=28\/i.op=29\/i.op=30\/i.op=31\/i.op=11 then some (Dj 1)
 else if i.op=36 then some (Dj 4)
 else if i.op=38 then some (E6 ab)
 else none
def Hg(P:Dl)(i:Af):Int:=
 if i.op=0\/i.op=1\/i.op=2\/i.op=6\/i.op=43 then 0
 else if i.op=36 then i.arg
 else if i.op=42 then(match P.fns[i.arg.toNat]? with|some f=>(f.params:Nat)|none=>0)
 else if i.op=40 then 3
 else if i.op=12\/i.op=15\/i.op=17\/i.op=19\/i.op=21\/i.op=38\/i.op=39\/i.op=25\/i.op=26\/i.op=28\/i.op=29\/i.op=30\/i.op=31 then 2
 else 1
def M5(n:Int)(ab:List Kn):List Kn:=if n<0 then ab else ab.take n.toNat
def follow(P:Dl)(params ab:List Kn)(i:Af):List Kn:=
 let c:=M5 ((ab.length:Nat)-Hg P i) ab
 match Tw params ab i with
 | some k=>c++[k]
 | none=>c
def K0(P:Dl)(params:List Kn):List Kn->List Af->List Af
 | _,[]=>[]
 | ab,i::r=>quick params ab i::K0 P params (follow P params ab i) r
def Iv(P:Dl)(b:Dc)(f:Fn):Form:=
 let ks:=(List.range f.params).map (Jk b)
 ⟨f.slots,K0 P (Ky f.steps ks) [] f.steps,ks⟩
def MS.Km(i:Af)(m:MS)(k:MS->MS):MS:=if m.fuel=0 then m.fail 8 i else k { m with fuel:=m.fuel-1 }
def taken(n:Nat)(calls:Nat):List Dc->Option Dc
 | []=>none
 | b::r=>match taken n calls r with
  | some x=>some x
  | none=>if b.fn=(n:Nat)/\b.after=(calls:Nat) then some b else none
def Jm(m:MS):Int->List Kn->Bool
 | _,[]=>true
 | i,k::r=>k.is (m.at' i)&&Jm m (i+1) r
def Jz(n:Nat):List PV:=List.replicate n Ab
def MS.begin(slots:Nat)(steps:List Af)(args:Nat)(m:MS):MS:=
 { m with now:=⟨steps,0,(m.vals.length:Nat)-(args:Nat)⟩,vals:=m.vals++Jz (slots-args) }
def MS.L5(n:Nat)(l:Ey)(m:MS):MS:={ m with lots:=m.lots.set n l }
def MS.body(P:Dl)(bets:List Dc)(n:Nat)(f:Fn)(m:MS):MS:=
 match m.lots[n]? with
 | none=>m
 | some l=>
  let fm:=match taken n l.calls bets with
   | some b=>some (Iv P b f)
   | none=>l.form
  match fm with
  | none=>(m.L5 n ⟨l.calls+1,none,l.fast,l.drops⟩).begin f.slots f.steps f.params
  | some fo=>
   if Jm m ((m.vals.length:Nat)-(fo.bet.length:Nat)) fo.bet then(m.L5 n ⟨l.calls+1,some fo,l.fast+1,l.drops⟩).begin fo.slots fo.steps f.params
   else(m.L5 n ⟨l.calls+1,none,l.fast,l.drops+1⟩).begin f.slots f.steps f.params
def wr(n:Int):Int:=RowKit.wrap64 n
def MS.two(m:MS)(k:PV->PV->MS->MS):MS:=k m.pop.top m.top m.pop.pop
def MS.both(m:MS)(kd:Nat):Bool:=m.top.k==kd&&(m.at' ((m.vals.length:Nat)-2)).k==kd
def MS.ints(i:Af)(m:MS)(k:Int->Int->MS->MS):MS:=if m.both 2 then m.two (fun a b m'=>k a.n b.n m') else m.fail 5 i
def before(a b:PV):Bool:=decide (a.n<b.n)||Op.bytesLess a.t b.t
def sizeOf'(m:MS)(v:PV):Option Nat:=if v.k=3 then some v.t.length else if v.k=4 then some ((m.arr[v.r.getD 0]?).getD []).length else none
def MS.room(n:Int)(i:Af)(m:MS)(k:MS->MS):MS:=if(500:Int)-m.cells<n then m.fail 10 i else k { m with cells:=m.cells+n.toNat }
def MS.place(of p:PV)(i:Af)(m:MS)(k:MS->MS):MS:=
 match sizeOf' m of with
 | none=>m.fail 5 i
 | some n=>if p.k≠2 then m.fail 5 i else if p.n<0\/(n:Int)<=p.n then m.fail 7 i else k m
def MS.Md(i:Af)(m:MS):MS:=
 if 500<(Fs m.arr 4 [] m.top).length\/m.out.length=100 then m.pop.fail 10 i else { m.pop with out:=m.out++[Fs m.arr 4 [] m.top] }
def MS.join(i:Af)(m:MS):MS:=m.two fun a b m'=>if 100<a.t.length+b.t.length then m'.fail 10 i else m'.push (ofStr (a.t++b.t))
def B1(P:Dl)(bets:List Dc)(i:Af)(m:MS):MS:=
 match i.op with
 | 0=>m.push i.v
 | 1=>m.push (m.at' (m.now.base+i.arg))
 | 2=>m.push ((m.gl[i.arg.toNat]?).getD Ab)
 | 3=>m.pop.put (m.now.base+i.arg) m.top
 | 4=>{ m.pop with gl:=m.gl.set i.arg.toNat m.top }
 | 5=>m.pop
 | 6=>m.jump i.arg
 | 7=>if m.top.y then m.pop.Km i (fun m'=>if m.top.k=1 then m' else m'.fail 5 i) else if m.top.k=1 then m.pop.jump i.arg else m.pop.fail 5 i
 | 8=>if m.top.k=1 then(if m.top.y then m.pop else m.pop.jump i.arg) else m.pop.fail 5 i
 | 9=>if m.top.k=1 then(if m.top.y then m.pop else m.jump i.arg) else m.fail 5 i
 | 10=>if m.top.k=1 then(if m.top.y then m.jump i.arg else m.pop) else m.fail 5 i
 | 11=>if m.top.k=1 then m else m.fail 5 i
 | 12=>if m.both 3 then m.join i else m.ints i (fun a b m'=>m'.push (ofInt (wr (a+b))))
 | 13=>m.two fun a b m'=>m'.push (ofInt (wr (a.n+b.n)))
 | 14=>m.join i
 | 15=>m.ints i (fun a b m'=>m'.push (ofInt (wr (a-b))))
 | 16=>m.two fun a b m'=>m'.push (ofInt (wr (a.n-b.n)))
 | 17=>m.ints i (fun a b m'=>m'.push (ofInt (wr (a*b))))
 | 18=>m.two fun a b m'=>m'.push (ofInt (wr (a.n*b.n)))
 | 19=>m.ints i (fun a b m'=>if b=0 then m'.fail 6 i else m'.push (ofInt (wr (a.tdiv b))))
 | 20=>m.two fun a b m'=>if b.n=0 then m'.fail 6 i else m'.push (ofInt (wr (a.n.tdiv b.n)))
 | 21=>m.ints i (fun a b m'=>if b=0 then m'.fail 6 i else m'.push (ofInt (a.tmod b)))
 | 22=>m.two fun a b m'=>if b.n=0 then m'.fail 6 i else m'.push (ofInt (a.n.tmod b.n))
 | 23=>if m.top.k=2 then m.pop.push (ofInt (wr (-m.top.n))) else m.fail 5 i
 | 24=>m.pop.push (ofInt (wr (-m.top.n)))
 | 25=>m.two fun a b m'=>m'.push (ofBool (a.same b))
 | 26=>m.two fun a b m'=>m'.push (ofBool (!a.same b))
 | 27=>if m.top.k=1 then m.pop.push (ofBool (!m.top.y)) else m.pop.fail 5 i
 | 28=>if m.both 2||m.both 3 then m.two fun a b m'=>m'.push (ofBool (before b a)) else m.fail 5 i
 | 29=>if m.both 2||m.both 3 then m.two fun a b m'=>m'.push (ofBool (before a b)) else m.fail 5 i
 | 30=>if m.both 2||m.both 3 then m.two fun a b m'=>m'.push (ofBool (!before a b)) else m.fail 5 i
 | 31=>if m.both 2||m.both 3 then m.two fun a b m'=>m'.push (ofBool (!before b a)) else m.fail 5 i
 | 32=>m.two fun a b m'=>m'.push (ofBool (decide (b.n<a.n)))
 | 33=>m.two fun a b m'=>m'.push (ofBool (decide (a.n<b.n)))
 | 34=>m.two fun a b m'=>m'.push (ofBool (decide (b.n<=a.n)))
 | 35=>m.two fun a b m'=>m'.push (ofBool (decide (a.n<=b.n)))
 | 36=>m.room i.arg i fun m'=>
   let f:=(m'.vals.length:Int)-i.arg
   let m2:=m'.cut f
   { m2 with arr:=m'.arr++[(List.range i.arg.toNat).map (fun(j:Nat)=>m'.at' (f+j))] }.push (Ae m'.arr.length)
 | 37=>match sizeOf' m m.top with
  | some n=>m.pop.push (ofInt (n:Nat))
  | none=>m.pop.fail 5 i
 | 38=>m.two fun a b m'=>if a.k=4 then m'.room 1 i fun m2=>{ m2 with arr:=m2.arr.modify (a.r.getD 0) (·++[b]) }.push b else m'.fail 5 i
 | 39=>m.two fun a b m'=>m'.place a b i fun m2=>m2.push (if a.k=3 then ofStr ((a.t.drop b.n.toNat).take 1) else(((m2.arr[a.r.getD 0]?).getD [])[b.n.toNat]?).getD Ab)
 | 40=>m.pop.two fun a b m'=>if a.k=4 then m'.place a b i fun m2=>{ m2 with arr:=m2.arr.modify (a.r.getD 0) (·.set b.n.toNat m.top) } else m'.fail 5 i
 | 41=>m.Md i
 | 42=>m.Km i fun m'=>if m'.calls.length=40 then m'.fail 9 i else
   match P.fns[i.arg.toNat]? with
   | some f=>{ m' with calls:=m'.calls++[m'.now] }.body P bets i.arg.toNat f
   | none=>m'
 | 43=>{ (m.cut m.now.base).push Ab with now:=m.calls.getLastD ⟨[],0,0⟩,calls:=m.calls.dropLast }
 | 44=>{ (m.pop.cut m.now.base).push m.top with now:=m.calls.getLastD ⟨[],0,0⟩,calls:=m.calls.dropLast }
 | _=>m
def N2(P:Dl)(bets:List Dc)(i:Af)(m:MS):MS:=B1 P bets i { m with now:=⟨m.now.steps,m.now.pc+1,m.now.base⟩ }
def J1(P:Dl)(bets:List Dc):Nat->MS->Option MS
 | 0,_=>none
 | n+1,m=>if m.code≠0 then some m else match m.now.steps[m.now.pc]? with
  | none=>some m
  | some i=>J1 P bets n (N2 P bets i m)
def mstart(P:Dl):MS:=
 MS.begin P.slots P.main 0 ⟨[],Jz P.globals,[],⟨[],0,0⟩,2000,0,[],0,0,[],List.replicate P.fns.length ⟨0,none,0,0⟩⟩
end
section
def Cf(n:Int):Prop:=-9223372036854775808<=n/\n<=9223372036854775807
theorem Aq3(n:Int):Cf (wr n):=by unfold Cf wr RowKit.wrap64;omega
theorem Sr{n:Int}(h:Cf n):wr n=n:=by unfold Cf at h;unfold wr RowKit.wrap64;omega
theorem A4d(a b:Int)(ha:Cf a):Cf (a.tmod b):=by
 unfold Cf at *;have:=Int.natAbs_tmod a b;have h3:0<=a->0<=a.tmod b:=fun h=>Int.tmod_nonneg b h;have h4:a<0->a.tmod b<=0:=fun h=>by
  have:=Int.tmod_nonneg b (show 0<=-a by omega);rw[Int.neg_tmod]at this;omega
 have h2:a.natAbs % b.natAbs<=a.natAbs:=Nat.mod_le _ _;omega
end
section
open Go.Deep (BT)
def Hy(v:PV):Prop:=v.t.length<=2000/\Cf v.n
def Mm(b:Dc):Prop:=∀n∈b.ints,Cf n
def Le(o:Nat):Prop:=o<=44
def Jq(N:Nat)(i:Af):Prop:=0<=i.arg/\i.arg<=5000/\i.v.r=none/\i.v.k≠4/\Hy i.v/\(i.op=42->i.arg.toNat<N)/\Le i.op
def Pw(N B:Nat)(fo:Form):Prop:=fo.slots<=B/\fo.bet.length<=B/\(∀i∈fo.steps,Jq N i)/\∀x∈fo.bet,x.like.r=none
def Nd(N B:Nat)(f:Fn):Prop:=f.slots<=B/\f.params<=f.slots/\∀i∈f.steps,Jq N i
def P0(N B k:Nat)(f:Fr):Prop:=-(B:Int)<=f.base/\f.base<=k/\∀i∈f.steps,Jq N i
structure O1 (B : Nat) (P : Dl) : Prop where
 slots:P.slots<=B
 main:∀i∈P.main,Jq P.fns.length i
 fns:∀f∈P.fns,Nd P.fns.length B f
structure Inv (N B k : Nat) (m : MS) : Prop where
 vals:m.vals.length<=k
 str:∀v∈m.vals,Hy v
 gls:∀v∈m.gl,Hy v
 ars:∀l∈m.arr,∀v∈l,Hy v
 now:P0 N B k m.now
 calls:∀f∈m.calls,P0 N B k f
 lots:∀l∈m.lots,∀fo,l.form=some fo->Pw N B fo
 fuel:m.fuel<=2000
 depth:m.calls.length<=40
 out:m.out.length<=100
 cells:m.cells<=500
 arl:∀l∈m.arr,l.length<=m.cells
 lotn:m.lots.length=N
 lotc:∀l∈m.lots,l.calls<=k/\l.fast<=k/\l.drops<=k
variable {N B k:Nat} {m:MS} {P:Dl} {bets:List Dc}
theorem P0.mono{k':Nat}{f:Fr}(h:P0 N B k f)(hk:k<=k'):P0 N B k' f:=⟨h.1,by have:=h.2.1;omega,h.2.2⟩
theorem Inv.mono{k':Nat}(h:Inv N B k m)(hk:k<=k'):Inv N B k' m:=
 ⟨by have:=h.vals;omega,h.str,h.gls,h.ars,h.now.mono hk,fun f hf=>(h.calls f hf).mono hk,h.lots,h.fuel,h.depth,h.out,h.cells,h.arl,h.lotn,fun l hl=>by have:=h.lotc l hl;omega⟩
theorem Pa:Cf 0:=⟨by decide,by decide⟩
theorem Qc:Hy Ab:=⟨by simp[Ab],Pa⟩
theorem Qb{n:Int}(h:Cf n):Hy (ofInt n):=⟨by simp[ofInt],h⟩
theorem Mz(n:Int):Hy (ofInt (wr n)):=Qb (Aq3 n)
theorem M7(b:Bool):Hy (ofBool b):=⟨by simp[ofBool],Pa⟩
theorem z2ma {P:Prop} (h:P:=by
  rw[List.getElem?_eq_getElem q];exact h _ (List.getElem_mem q)):P:=h
theorem Rk{l:List PV}(h:∀v∈l,Hy v)(i:Nat):Hy ((l[i]?).getD Ab):=by
 rcases Nat.lt_or_ge i l.length with q|q
 ·exact z2ma
 ·rw[List.getElem?_eq_none q];exact Qc
theorem Inv.at'(h:Inv N B k m)(i:Int):Hy (m.at' i):=by
 unfold MS.at';split
 ·exact Qc
 ·exact Rk h.str _
theorem Inv.top(h:Inv N B k m):Hy m.top:=by
 unfold MS.top;rw[List.getLastD_eq_getLast?,List.getLast?_eq_getElem?];exact Rk h.str _
theorem Inv.push(h:Inv N B k m){v:PV}(hv:Hy v):Inv N B (k+1) (m.push v):=by
 have h':=h.mono (Nat.le_succ k);refine⟨by simp only[MS.push,List.length_append,List.length_singleton];have:=h.vals;omega,?_,h'.gls,h'.ars,h'.now,h'.calls,h'.lots,h'.fuel,h'.depth,h'.out,h'.cells,h'.arl,h'.lotn,h'.lotc⟩;intro u hu;simp only[MS.push,List.mem_append,List.mem_singleton]at hu;rcases hu with hu|rfl
 ·exact h.str u hu
 ·exact hv
theorem Inv.pop(h:Inv N B k m):Inv N B k m.pop:=
 ⟨by have:=h.vals;simp only[MS.pop,List.length_dropLast];omega,fun v hv=>h.str v (List.dropLast_subset _ hv),h.gls,h.ars,h.now,h.calls,h.lots,h.fuel,h.depth,h.out,h.cells,h.arl,h.lotn,h.lotc⟩
theorem Inv.fail(h:Inv N B k m)(c:Nat)(i:Af):Inv N B k (m.fail c i):=⟨h.vals,h.str,h.gls,h.ars,h.now,h.calls,h.lots,h.fuel,h.depth,h.out,h.cells,h.arl,h.lotn,h.lotc⟩
theorem Inv.jump(h:Inv N B k m)(a:Int):Inv N B k (m.jump a):=⟨h.vals,h.str,h.gls,h.ars,⟨h.now.1,h.now.2.1,h.now.2.2⟩,h.calls,h.lots,h.fuel,h.depth,h.out,h.cells,h.arl,h.lotn,h.lotc⟩
theorem Inv.cut(h:Inv N B k m)(n:Int):Inv N B k (m.cut n):=by
 refine⟨?_,?_,h.gls,h.ars,h.now,h.calls,h.lots,h.fuel,h.depth,h.out,h.cells,h.arl,h.lotn,h.lotc⟩
 ·have:=h.vals;simp only[MS.cut];split
  ·exact this
  ·simp only[List.length_take];omega
 ·intro v hv;simp only[MS.cut]at hv;split at hv
  ·exact h.str v hv
  ·exact h.str v (List.mem_of_mem_take hv)
theorem Inv.put(h:Inv N B k m)(n:Int){v:PV}(hv:Hy v):Inv N B k (m.put n v):=by
 refine⟨?_,?_,h.gls,h.ars,h.now,h.calls,h.lots,h.fuel,h.depth,h.out,h.cells,h.arl,h.lotn,h.lotc⟩
 ·have:=h.vals;simp only[MS.put];split
  ·exact this
  ·simp only[List.length_set];exact this
 ·intro u hu;simp only[MS.put]at hu;split at hu
  ·exact h.str u hu
  ·rcases List.mem_or_eq_of_mem_set hu with q|q
   ·exact h.str u q
   ·rw[q];exact hv
theorem Inv.Km(h:Inv N B k m)(i:Af){f:MS->MS}{k':Nat}(hk:k<=k')(hf:∀m',Inv N B k m'->Inv N B k' (f m')):Inv N B k' (m.Km i f):=by
 unfold MS.Km;split
 ·exact(h.fail 8 i).mono hk
 ·exact hf _ ⟨h.vals,h.str,h.gls,h.ars,h.now,h.calls,h.lots,by have:=h.fuel;show m.fuel-1<=2000;omega,h.depth,h.out,h.cells,h.arl,h.lotn,h.lotc⟩
theorem Inv.room(h:Inv N B k m)(n:Int)(i:Af){f:MS->MS}{k':Nat}(hk:k<=k')(hf:∀m',Inv N B k m'->n.toNat<=m'.cells->(∀l∈m'.arr,l.length+n.toNat<=m'.cells)->Inv N B k' (f m')):Inv N B k' (m.room n i f):=by
 unfold MS.room;split
 ·exact(h.fail 10 i).mono hk
 ·exact hf _ ⟨h.vals,h.str,h.gls,h.ars,h.now,h.calls,h.lots,h.fuel,h.depth,h.out,by have:=h.cells;show m.cells+n.toNat<=500;omega,fun l hl=>by have:=h.arl l hl;show l.length<=m.cells+n.toNat;omega,h.lotn,h.lotc⟩ (by show n.toNat<=m.cells+n.toNat;omega) (fun l hl=>by have:=h.arl l hl;show l.length+n.toNat<=m.cells+n.toNat;omega)
theorem Inv.place(h:Inv N B k m)(of p:PV)(i:Af){f:MS->MS}{k':Nat}(hk:k<=k')(hf:∀m',Inv N B k m'->Inv N B k' (f m')):Inv N B k' (m.place of p i f):=by
 unfold MS.place;split
 ·exact(h.fail 5 i).mono hk
 ·split
  ·exact(h.fail 5 i).mono hk
  ·split
   ·exact(h.fail 7 i).mono hk
   ·exact hf _ h
theorem Inv.join(h:Inv N B k m)(i:Af):Inv N B (k+1) (m.join i):=by
 unfold MS.join MS.two;dsimp only;split
 ·exact((h.pop.pop).fail 10 i).mono (Nat.le_succ k)
 ·rename_i hn;refine h.pop.pop.push ⟨?_,Pa⟩;simp only[ofStr,List.length_append];omega
theorem Inv.ints(h:Inv N B k m)(i:Af){f:Int->Int->MS->MS}(hf:∀a b m',Cf a->Inv N B k m'->Inv N B (k+1) (f a b m')):Inv N B (k+1) (m.ints i f):=by
 unfold MS.ints MS.two;split
 ·exact hf _ _ _ h.pop.top.2 h.pop.pop
 ·exact(h.fail 5 i).mono (Nat.le_succ k)
theorem Inv.Se(h:Inv N B k m){f:Fr}(hf:P0 N B k f):Inv N B k { m with now:=f }:=⟨h.vals,h.str,h.gls,h.ars,hf,h.calls,h.lots,h.fuel,h.depth,h.out,h.cells,h.arl,h.lotn,h.lotc⟩
theorem Inv.begin(h:Inv N B k m){slots args:Nat}{steps:List Af}(hs:slots<=B)(ha:args<=B)(hi:∀i∈steps,Jq N i):Inv N B (k+B) (m.begin slots steps args):=by
 have h':=h.mono (Nat.le_add_right k B);refine⟨?_,?_,h'.gls,h'.ars,⟨?_,?_,hi⟩,h'.calls,h'.lots,h'.fuel,h'.depth,h'.out,h'.cells,h'.arl,h'.lotn,h'.lotc⟩
 ·have:=h.vals;simp only[MS.begin,Jz,List.length_append,List.length_replicate];omega
 ·intro v hv;simp only[MS.begin,Jz,List.mem_append,List.mem_replicate]at hv;rcases hv with hv|⟨_,rfl⟩
  ·exact h.str v hv
  ·exact Qc
 ·simp only[MS.begin];omega
 ·have:=h.vals;simp only[MS.begin];omega
theorem Inv.L5(h:Inv N B k m)(n:Nat){l:Ey}(hl:∀fo,l.form=some fo->Pw N B fo)(hc:l.calls<=k/\l.fast<=k/\l.drops<=k):Inv N B k (m.L5 n l):=by
 refine⟨h.vals,h.str,h.gls,h.ars,h.now,h.calls,?_,h.fuel,h.depth,h.out,h.cells,h.arl,by show(m.lots.set n l).length=N;rw[List.length_set];exact h.lotn,fun x hx=>?_⟩
 ·intro x hx;simp only[MS.L5]at hx;rcases List.mem_or_eq_of_mem_set hx with q|q
  ·exact h.lots x q
  ·rw[q];exact hl
 ·simp only[MS.L5]at hx;rcases List.mem_or_eq_of_mem_set hx with q|q
  ·exact h.lotc x q
  ·rw[q];exact hc
def Lu(x:Kn):Prop:=x.whole=true->x.like.r=none/\x.like.k≠4/\Hy x.like
theorem Rr:Lu Eo:=by intro h;cases h
theorem Aex(d:Nat):Lu (Dj d):=by intro h;cases h
theorem Aez:Lu (Js Ab):=fun _=>⟨rfl,by show(0:Nat)≠4;decide,Qc⟩
theorem Aew{n:Int}(h:Cf n):Lu (Js (ofInt n)):=fun _=>⟨rfl,by show(2:Nat)≠4;decide,Qb h⟩
theorem A8t{b:Dc}(h:Mm b)(i:Nat):Cf ((b.ints[i]?).getD 0):=by
 rcases Nat.lt_or_ge i b.ints.length with q|q
 ·exact z2ma
 ·rw[List.getElem?_eq_none q];exact Pa
theorem Aeu{b:Dc}(hb:Mm b)(i:Nat):Lu (Jk b i):=by
 unfold Jk;split
 ·exact Rr
 ·repeat' (first|exact Rr|exact Aex _|exact Aez|exact Aew (A8t hb _)|split)
theorem Aev{ks:List Kn}(h:∀x∈ks,Lu x)(i:Nat):Lu ((ks[i]?).getD Eo):=by
 rcases Nat.lt_or_ge i ks.length with q|q
 ·exact z2ma
 ·rw[List.getElem?_eq_none q];exact Rr
theorem Aey:∀(l:List Af) (ks:List Kn),(∀x∈ks,Lu x)->∀x∈Ky l ks,Lu x:=by
 intro l;induction l with
 | nil=>intro ks h;exact h
 | cons i r ih=>
  intro ks h;rw[Ky];refine ih _ ?_;split
  ·intro x hx;rcases List.mem_or_eq_of_mem_set hx with q|q
   ·exact h x q
   ·rw[q];exact Rr
  ·exact h
theorem Agd{o:Nat}(h:Gf o=42):o=42:=by
 unfold Gf at h;repeat (first|(split at h;cases h)|exact h)
theorem Aij{i:Af}{ab:List Kn}(h:(if Fg ab 2=true then Gf (if(if i.op=12/\Fg ab 3=true then 14 else i.op)=23/\(E6 ab).sure 2=true then 24 else(if i.op=12/\Fg ab 3=true then 14 else i.op)) else(if(if i.op=12/\Fg ab 3=true then 14 else i.op)=23/\(E6 ab).sure 2=true then 24 else(if i.op=12/\Fg ab 3=true then 14 else i.op)))=42):i.op=42:=by
 have h2:(if(if i.op=12/\Fg ab 3=true then 14 else i.op)=23/\(E6 ab).sure 2=true then 24 else(if i.op=12/\Fg ab 3=true then 14 else i.op))=42:=by
  split at h
  ·exact Agd h
  ·exact h
 clear h;split at h2
 ·cases h2
 ·split at h2
  ·cases h2
  ·exact h2
theorem Age{o:Nat}(h:Le o):Le (Gf o):=by
 unfold Gf;unfold Le at *;repeat (first|(split;omega)|exact h)
theorem Aik{i:Af}{ab:List Kn}(h:Le i.op):Le (if Fg ab 2=true then Gf (if(if i.op=12/\Fg ab 3=true then 14 else i.op)=23/\(E6 ab).sure 2=true then 24 else(if i.op=12/\Fg ab 3=true then 14 else i.op)) else(if(if i.op=12/\Fg ab 3=true then 14 else i.op)=23/\(E6 ab).sure 2=true then 24 else(if i.op=12/\Fg ab 3=true then 14 else i.op))):=by
 have h1:Le (if i.op=12/\Fg ab 3=true then 14 else i.op):=by
  split
  ·unfold Le;omega
  ·exact h
 generalize (if i.op=12/\Fg ab 3=true then 14 else i.op)=o1 at *;have h2:Le (if o1=23/\(E6 ab).sure 2=true then 24 else o1):=by
  split
  ·unfold Le;omega
  ·exact h1
 split
 ·exact Age h2
 ·exact h2
theorem Acq{ps ab:List Kn}{i:Af}(hp:∀x∈ps,Lu x)(hi:Jq N i):Jq N (quick ps ab i):=by
 have hl:Lu (Fq ps i):=by
  unfold Fq;split
  ·exact Aev hp _
  ·exact Rr
 unfold quick;split
 ·rename_i hw;obtain⟨h1,h2,h3⟩:=hl hw;exact⟨by simp,by simp,h1,h2,h3,fun q=>(by cases q),(by unfold Le;dsimp only;omega)⟩
 ·exact⟨hi.1,hi.2.1,hi.2.2.1,hi.2.2.2.1,hi.2.2.2.2.1,fun q=>hi.2.2.2.2.2.1 (Aij q),Aik hi.2.2.2.2.2.2⟩
theorem Acr{ps:List Kn}(hp:∀x∈ps,Lu x):∀(l:List Af) (ab:List Kn),(∀i∈l,Jq N i)->∀i∈K0 P ps ab l,Jq N i:=by
 intro l;induction l with
 | nil=>intro ab _ i hi;simp[K0]at hi
 | cons j r ih=>
  intro ab h i hi;rw[K0,List.mem_cons]at hi;rcases hi with rfl|hi
  ·exact Acq hp (h j z56a)
  ·exact ih _ (fun x hx=>h x (by simp[hx])) i hi
theorem Vs(b:Dc)(i:Nat):(Jk b i).like.r=none:=by
 unfold Jk;split
 ·rfl
 ·repeat' (first|rfl|split)
theorem Aco{f:Fn}(hf:Nd N B f){b:Dc}(hb:Mm b):Pw N B (Iv P b f):=by
 unfold Iv;dsimp only;refine⟨hf.1,by simp only[List.length_map,List.length_range];have:=hf.1;have:=hf.2.1;omega,?_⟩;refine⟨Acr (Aey _ _ ?_) _ _ hf.2.2,fun x hx=>?_⟩;rotate_left
 ·simp only[List.mem_map]at hx;obtain⟨i,_,rfl⟩:=hx;exact Vs b i
 intro x hx;simp only[List.mem_map]at hx;obtain⟨i,_,rfl⟩:=hx;exact Aeu hb i
theorem Inv.Zh(h:Inv N B k m)(n:Nat)(l:Ey)(hlc:l.calls<=k/\l.fast<=k/\l.drops<=k){f:Fn}(hf:Nd N B f)(d:Nat)(hd:d<=k+1):Inv N B (k+B+1) ((m.L5 n ⟨l.calls+1,none,l.fast,d⟩).begin f.slots f.steps f.params):=by
 have:=((h.mono (Nat.le_succ k)).L5 n (l:=⟨l.calls+1,none,l.fast,d⟩) (by intro fo q;cases q) ⟨by dsimp only;omega,by dsimp only;omega,hd⟩).begin hf.1 (by have:=hf.1;have:=hf.2.1;omega) hf.2.2 (args:=f.params);rw[show k+B+1=k+1+B by omega];exact this
theorem Inv.Ra(h:Inv N B k m)(n:Nat)(l:Ey)(hlc:l.calls<=k/\l.fast<=k/\l.drops<=k){f:Fn}(hf:Nd N B f){fo:Form}(q:Pw N B fo):Inv N B (k+B+1) (if Jm m ((m.vals.length:Nat)-(fo.bet.length:Nat)) fo.bet then(m.L5 n ⟨l.calls+1,some fo,l.fast+1,l.drops⟩).begin fo.slots fo.steps f.params else(m.L5 n ⟨l.calls+1,none,l.fast,l.drops+1⟩).begin f.slots f.steps f.params):=by
 split
 ·have:=((h.mono (Nat.le_succ k)).L5 n (l:=⟨l.calls+1,some fo,l.fast+1,l.drops⟩) (by intro fo' q';injection q' with q';rw[←q'];exact q) ⟨by dsimp only;omega,by dsimp only;omega,by dsimp only;omega⟩).begin q.1 (by have:=hf.1;have:=hf.2.1;omega) q.2.2.1 (args:=f.params);rw[show k+B+1=k+1+B by omega];exact this
 ·exact h.Zh n l hlc hf _ z51a
theorem Aod{n c:Nat}:∀{l:List Dc} {b:Dc},taken n c l=some b->b∈l:=by
 intro l;induction l with
 | nil=>intro b h;simp[taken]at h
 | cons x r ih=>
  intro b h;rw[taken]at h;cases hq:taken n c r with
  | some y=>rw[hq]at h;injection h with h;rw[←h];exact List.mem_cons_of_mem _ (ih hq)
  | none=>
   rw[hq]at h;dsimp only at h;split at h
   ·injection h with h;rw[←h];exact List.mem_cons_self
   ·cases h
theorem Inv.body(h:Inv N B k m)(hbt:∀x∈bets,Mm x)(n:Nat){f:Fn}(hf:Nd N B f):Inv N B (k+B+1) (m.body P bets n f):=by
 unfold MS.body;cases hl:m.lots[n]? with
 | none=>exact h.mono z51a
 | some l=>
  have hlc:=h.lotc l (List.mem_of_getElem? hl);dsimp only;cases ht:taken n l.calls bets with
  | none=>
   cases hx:l.form with
   | none=>exact h.Zh n l hlc hf _ z51a
   | some fo=>exact h.Ra n l hlc hf (h.lots l (List.mem_of_getElem? hl) fo hx)
  | some b=>exact h.Ra n l hlc hf (Aco hf (hbt b (Aod ht)))
theorem Inv.Md(h:Inv N B k m)(i:Af):Inv N B k (m.Md i):=by
 unfold MS.Md;split
 ·exact h.pop.fail 10 i
 ·rename_i hn;have:=h.out;exact⟨h.pop.vals,h.pop.str,h.gls,h.ars,h.now,h.calls,h.lots,h.fuel,h.depth,by simp only[List.length_append,List.length_singleton];show m.out.length+1<=100;omega,h.cells,h.arl,h.lotn,h.lotc⟩
theorem Inv.leave(h:Inv N B k m){v:PV}(hv:Hy v):Inv N B (k+1) { (m.cut m.now.base).push v with now:=m.calls.getLastD ⟨[],0,0⟩,calls:=m.calls.dropLast }:=by
 have q:=(h.cut m.now.base).push hv;have hl:P0 N B k (m.calls.getLastD ⟨[],0,0⟩):=by
  rw[List.getLastD_eq_getLast?];cases hc:m.calls.getLast? with
  | none=>exact⟨by simp,by simp,by simp⟩
  | some f=>exact h.calls f (List.mem_of_getLast? hc)
 exact⟨q.vals,q.str,q.gls,q.ars,hl.mono (Nat.le_succ k),fun f hf=>q.calls f (List.dropLast_subset _ hf),q.lots,q.fuel,by have:=h.depth;show m.calls.dropLast.length<=40;simp only[List.length_dropLast];omega,q.out,q.cells,q.arl,q.lotn,q.lotc⟩
theorem Inv.Vq(h:Inv N B k m){arr:List (List PV)}(ha:∀l∈arr,∀v∈l,Hy v)(hl:∀l∈arr,l.length<=m.cells):Inv N B k { m with arr:=arr }:=⟨h.vals,h.str,h.gls,ha,h.now,h.calls,h.lots,h.fuel,h.depth,h.out,h.cells,hl,h.lotn,h.lotc⟩
theorem A17{arr:List (List PV)}{c d:Nat}(ha:∀l∈arr,l.length+d<=c)(f:List PV->List PV)(hf:∀l,(f l).length=l.length+d)(i:Nat):∀l∈arr.modify i f,l.length<=c:=by
 intro l hl;rw[List.mem_iff_getElem?]at hl;obtain⟨j,hj⟩:=hl;rw[List.getElem?_modify]at hj;cases hq:arr[j]? with
 | none=>rw[hq]at hj;simp at hj
 | some x=>
  rw[hq]at hj;simp only[Option.map_eq_map,Option.map_some,Option.some.injEq]at hj;rw[←hj];have hx:=ha x (List.mem_of_getElem? hq);split
  ·rw[hf];exact hx
  ·omega
theorem A0g{arr:List (List PV)}(ha:∀l∈arr,∀v∈l,Hy v)(f:List PV->List PV)(hf:∀l,(∀v∈l,Hy v)->∀v∈f l,Hy v)(i:Nat):∀l∈arr.modify i f,∀v∈l,Hy v:=by
 intro l hl;rw[List.mem_iff_getElem?]at hl;obtain⟨j,hj⟩:=hl;rw[List.getElem?_modify]at hj;cases hq:arr[j]? with
 | none=>rw[hq]at hj;simp at hj
 | some x=>
  rw[hq]at hj;simp only[Option.map_eq_map,Option.map_some,Option.some.injEq]at hj;rw[←hj];have hx:=ha x (List.mem_of_getElem? hq);split
  ·exact hf x hx
  ·exact hx
theorem Alx(h:Inv N B k m){n:Nat}(hn:sizeOf' m m.top=some n):Cf ((n:Nat):Int):=by
 unfold sizeOf' at hn;have h1:=h.top.1;have h2:=h.cells;split at hn
 ·injection hn with hn;unfold Cf;omega
 ·split at hn
  ·injection hn with hn;cases hq:m.arr[m.top.r.getD 0]? with
   | none=>rw[hq]at hn;simp at hn;unfold Cf;omega
   | some l=>rw[hq]at hn;simp at hn;have:=h.arl l (List.mem_of_getElem? hq);unfold Cf;omega
  ·cases hn
theorem z2ca {P:Prop} (h:P:=by
  exact k1 (h.pop.pop.push (M7 _))):P:=h
theorem z3ya {P:Prop} (h:P:=by
  exact k1 (h.ints i (fun a b m' _ h'=>h'.push (Mz _)))):P:=h
theorem z3ua {P:Prop} (h:P:=by
  split
  ·exact z2ca
  ·exact k0 (h.fail 5 i)):P:=h
theorem Inv.act(h:Inv N B k m)(hN:P.fns.length=N)(hP:O1 B P)(hbt:∀x∈bets,Mm x)(i:Af)(hi:Jq N i):Inv N B (k+B+1) (B1 P bets i m):=by
 have k1:∀{m'},Inv N B (k+1) m'->Inv N B (k+B+1) m':=fun q=>q.mono z51a;have k0:∀{m'},Inv N B k m'->Inv N B (k+B+1) m':=fun q=>q.mono z51a;have k2:∀{m'},Inv N B k m'->Inv N B (k+1) m':=fun q=>q.mono z51a;unfold B1;split
 ·exact k1 (h.push hi.2.2.2.2.1)
 ·exact k1 (h.push (h.at' _))
 ·exact k1 (h.push (Rk h.gls _))
 ·exact k0 (h.pop.put _ h.top)
 ·refine k0 ⟨h.pop.vals,h.pop.str,?_,h.ars,h.now,h.calls,h.lots,h.fuel,h.depth,h.out,h.cells,h.arl,h.lotn,h.lotc⟩;intro v hv;rcases List.mem_or_eq_of_mem_set hv with q|q
  ·exact h.gls v q
  ·rw[q];exact h.top
 ·exact k0 h.pop
 ·exact k0 (h.jump _)
 ·split
  ·refine k0 (h.pop.Km i (Nat.le_refl _) (fun m' h'=>?_));split
   ·exact h'
   ·exact h'.fail 5 i
  ·split
   ·exact k0 (h.pop.jump _)
   ·exact k0 (h.pop.fail 5 i)
 ·split
  ·split
   ·exact k0 h.pop
   ·exact k0 (h.pop.jump _)
  ·exact k0 (h.pop.fail 5 i)
 ·split
  ·split
   ·exact k0 h.pop
   ·exact k0 (h.jump _)
  ·exact k0 (h.fail 5 i)
 ·split
  ·split
   ·exact k0 (h.jump _)
   ·exact k0 h.pop
  ·exact k0 (h.fail 5 i)
 ·split
  ·exact k0 h
  ·exact k0 (h.fail 5 i)
 ·split
  ·exact k1 (h.join i)
  ·exact z3ya
 ·exact k1 (h.pop.pop.push (Mz _))
 ·exact k1 (h.join i)
 ·exact z3ya
 ·exact k1 (h.pop.pop.push (Mz _))
 ·exact z3ya
 ·exact k1 (h.pop.pop.push (Mz _))
 ·exact k1 (h.ints i (fun a b m' _ h'=>by split;exact k2 (h'.fail 6 i);exact h'.push (Mz _)))
 ·unfold MS.two;dsimp only;split
  ·exact k0 (h.pop.pop.fail 6 i)
  ·exact k1 (h.pop.pop.push (Mz _))
 ·exact k1 (h.ints i (fun a b m' ha h'=>by split;exact k2 (h'.fail 6 i);exact h'.push (Qb (A4d a b ha))))
 ·unfold MS.two;dsimp only;split
  ·exact k0 (h.pop.pop.fail 6 i)
  ·exact k1 (h.pop.pop.push (Qb (A4d _ _ h.pop.top.2)))
 ·split
  ·exact k1 (h.pop.push (Mz _))
  ·exact k0 (h.fail 5 i)
 ·exact k1 (h.pop.push (Mz _))
 ·exact z2ca
 ·exact z2ca
 ·split
  ·exact k1 (h.pop.push (M7 _))
  ·exact k0 (h.pop.fail 5 i)
 ·exact z3ua
 ·exact z3ua
 ·exact z3ua
 ·exact z3ua
 ·exact z2ca
 ·exact z2ca
 ·exact z2ca
 ·exact z2ca
 ·refine k1 (h.room i.arg i (Nat.le_succ k) (fun m' h' hc hl=>?_));refine Inv.push (Inv.Vq (h'.cut _) (fun l hl' v hv=>?_) (fun l hl'=>?_)) ⟨by simp[Ae],Pa⟩
  ·rcases List.mem_append.1 hl' with q|q
   ·exact h'.ars l q v hv
   ·rw[List.mem_singleton.1 q]at hv;obtain⟨j,_,rfl⟩:=List.mem_map.1 hv;exact h'.at' _
  ·rcases List.mem_append.1 hl' with q|q
   ·have:=hl l q;show l.length<=m'.cells;omega
   ·rw[List.mem_singleton.1 q];simp only[List.length_map,List.length_range];exact hc
 ·cases hq:sizeOf' m m.top with
  | some n=>exact k1 (h.pop.push (Qb (Alx h hq)))
  | none=>exact k0 (h.pop.fail 5 i)
 ·unfold MS.two;dsimp only;split
  ·refine k1 (h.pop.pop.room 1 i (Nat.le_succ k) (fun m' h' hc hl=>?_));refine Inv.push (Inv.Vq h' (A0g h'.ars _ (fun l hl' v hv=>?_) _) (A17 (d:=1) hl _ (fun l=>by simp) _)) h.top;rcases List.mem_append.1 hv with q|q
   ·exact hl' v q
   ·rw[List.mem_singleton.1 q];exact h.top
  ·exact k0 (h.pop.pop.fail 5 i)
 ·unfold MS.two;dsimp only;refine k1 (h.pop.pop.place _ _ i (Nat.le_succ k) (fun m' h'=>?_));refine h'.push ?_;split
  ·exact⟨by simp only[ofStr,List.length_take,List.length_drop];omega,Pa⟩
  ·refine Rk (fun v hv=>?_) _;cases hq:m'.arr[m.pop.top.r.getD 0]? with
   | none=>rw[hq]at hv;simp at hv
   | some l=>rw[hq]at hv;exact h'.ars l (List.mem_of_getElem? hq) v hv
 ·unfold MS.two;dsimp only;split
  ·refine k0 (h.pop.pop.pop.place _ _ i (Nat.le_refl k) (fun m' h'=>?_));refine Inv.Vq h' (A0g h'.ars _ (fun l hl' v hv=>?_) _) (A17 (d:=0) h'.arl _ (fun l=>by simp) _);rcases List.mem_or_eq_of_mem_set hv with q|q
   ·exact hl' v q
   ·rw[q];exact h.top
  ·exact k0 (h.pop.pop.pop.fail 5 i)
 ·exact k0 (h.Md i)
 ·refine h.Km i z51a (fun m' h'=>?_);split
  ·exact(h'.fail 9 i).mono z51a
  ·rename_i hd;split
   ·rename_i f hf;have hff:=hP.fns f (List.mem_of_getElem? hf);rw[hN]at hff;refine Inv.body ?_ hbt _ hff;refine⟨h'.vals,h'.str,h'.gls,h'.ars,h'.now,?_,h'.lots,h'.fuel,by have:=h'.depth;simp only[List.length_append,List.length_singleton];omega,h'.out,h'.cells,h'.arl,h'.lotn,h'.lotc⟩;intro x hx;simp only[List.mem_append,List.mem_singleton]at hx;rcases hx with hx|rfl
    ·exact h'.calls x hx
    ·exact h'.now
   ·exact h'.mono z51a
 ·exact k1 (h.leave Qc)
 ·exact k1 (Inv.leave h.pop h.top)
 ·exact k0 h
theorem Inv.step(h:Inv N B k m)(hN:P.fns.length=N)(hP:O1 B P)(hbt:∀x∈bets,Mm x)(i:Af)(hi:i∈m.now.steps):Inv N B (k+B+1) (N2 P bets i m):=by
 have q:Inv N B k { m with now:=⟨m.now.steps,m.now.pc+1,m.now.base⟩ }:=h.Se ⟨h.now.1,h.now.2.1,h.now.2.2⟩;exact q.act hN hP hbt i (h.now.2.2 i hi)
def U4(i:Af)(m:MS):Prop:=(i.op=41->m.top.k≠4)/\(i.op=39->m.pop.top.k≠3)/\(i.op=2\/i.op=4->i.arg.toNat<m.gl.length)/\(i.op=36->i.arg.toNat<=m.vals.length)
structure Dx (P : Dl) (i : Af) (m : MS) : Prop where
 nice:U4 i m
 ars:∀l∈m.arr,l.length<=500
 cells:m.cells<=500
 ins:Jq P.fns.length i
 vals:m.vals.length<=80000
 base:-1000<=m.now.base/\m.now.base<=80000
 fuel:m.fuel<=2000
 depth:m.calls.length<=40
 out:m.out.length<=100
 str:∀v∈m.vals,Hy v
 lotn:m.lots.length=P.fns.length
 lots:∀l∈m.lots,∀fo,l.form=some fo->Pw P.fns.length 1000 fo
 lotc:∀l∈m.lots,l.calls<=80000/\l.fast<=80000/\l.drops<=80000
 fns:∀f∈P.fns,Nd P.fns.length 1000 f
def Pg(P:Dl)(bets:List Dc):Nat->MS->Prop
 | 0,_=>True
 | n+1,m=>m.code=0->∀i,m.now.steps[m.now.pc]?=some i->Dx P i m/\Pg P bets n (N2 P bets i m)
def nice(P:Dl)(bets:List Dc):Nat->MS->Prop
 | 0,_=>True
 | n+1,m=>m.code=0->∀i,m.now.steps[m.now.pc]?=some i->U4 i m/\nice P bets n (N2 P bets i m)
theorem A1x(hP:O1 B P)(hbt:∀x∈bets,Mm x)(hB:B<=1000):∀(n k:Nat) (m:MS),Inv P.fns.length B k m->nice P bets n m->k+n*(B+1)<=80000->Pg P bets n m:=by
 intro n;induction n with
 | zero=>intro k m _ _ _;trivial
 | succ n ih=>
  intro k m h hni hk hc i hi;obtain⟨Bk,Dm⟩:=hni hc i hi;have hm:=List.mem_of_getElem? hi;have e:(n+1)*(B+1)=n*(B+1)+B+1:=by rw[Nat.add_mul];omega
  refine⟨⟨Bk,fun l hl=>Nat.le_trans (h.arl l hl) h.cells,h.cells,h.now.2.2 i hm,by have:=h.vals;omega,⟨by have:=h.now.1;omega,by have:=h.now.2.1;omega⟩,h.fuel,h.depth,h.out,h.str,h.lotn,fun l hl fo hfo=>?_,fun l hl=>by have:=h.lotc l hl;omega,fun f hf=>?_⟩,ih (k+B+1) _ (h.step rfl hP hbt i hm) Dm z51a⟩
  ·obtain⟨q1,q2,q3⟩:=h.lots l hl fo hfo;exact⟨by omega,by omega,q3⟩
  ·obtain⟨q1,q2,q3⟩:=hP.fns f hf;exact⟨by omega,q2,q3⟩
theorem X0(hP:O1 B P):Inv P.fns.length B B (mstart P):=by
 have h0:Inv P.fns.length B 0 ⟨[],Jz P.globals,[],⟨[],0,0⟩,2000,0,[],0,0,[],List.replicate P.fns.length ⟨0,none,0,0⟩⟩:=by
  refine⟨by simp,by simp,?_,by simp,⟨by simp,by simp,by simp⟩,by simp,?_,by simp,by simp,by simp,by simp,by simp,by simp,fun l hl=>by simp only[List.mem_replicate]at hl;rw[hl.2];simp⟩
  ·intro v hv;simp only[Jz,List.mem_replicate]at hv;rw[hv.2];exact Qc
  ·intro l hl fo hfo;simp only[List.mem_replicate]at hl;rw[hl.2]at hfo;cases hfo
 have:=h0.begin hP.slots (Nat.zero_le _) hP.main (args:=0);rw[Nat.zero_add]at this;exact this
end
section
open Go.Deep (BT)
def Dw(n:Int):List UInt8:=if n<0 then 40::45::(Lib.decDigits (-(n+1)).toNat++[45,49,41]) else Lib.decDigits n.toNat
def J2(n:Int):List Tk:=if n<0 then [⟨18,1,[],0⟩,⟨35,1,[],0⟩,⟨2,1,[],-(n+1)⟩,⟨35,1,[],0⟩,⟨2,1,[],1⟩,⟨19,1,[],0⟩] else [⟨2,1,[],n⟩]
def Jh:List Tk->Nat ⊕ List Tk->Nat ⊕ List Tk
 | [],x=>x
 | t::r,x=>match Jh r x with
  | .inl l=>.inl l
  | .inr ts=>.inr (t::ts)
theorem Aos(ys:List Tk):∀ts,Jh ts (.inr ys)=.inr (ts++ys):=by
 intro ts;induction ts with
 | nil=>rfl
 | cons t r ih=>rw[Jh,ih];rfl
theorem Sn(b:List Tk)(x:Nat ⊕ List Tk):∀a,Jh (a++b) x=Jh a (Jh b x):=by
 intro a;induction a with
 | nil=>rfl
 | cons t r ih=>rw[List.cons_append,Jh,Jh,ih]
theorem Xb:∀(f g:Nat) (l:List UInt8) (line:Nat) (said:Bool),l.length<f->l.length<g->lex f l line said=lex g l line said:=by
 intro f;induction f with
 | zero=>intro g l line said h;omega
 | succ f ih=>
  intro g l line said h1 h2;obtain⟨g,rfl⟩:∃k,g=k+1:=⟨g-1,by omega⟩;cases l with
  | nil=>rfl
  | cons c r=>
   simp only[List.length_cons]at h1 h2;have e1:∀line said,lex f r line said=lex g r line said:=fun line said=>ih g r line said z51a z51a;rw[lex,lex,e1,e1];cases ht:F7 (c::r) with
   | none=>rfl
   | some x=>
    obtain⟨t,n⟩:=x;have hn:=(V1 c r t n ht).2.2;have e2:=ih g ((c::r).drop n) line false z54a z54a;simp only[e2]
theorem Zz(u:Nat):∀c∈Lib.decDigits u,Df c=true:=by
 induction u using Nat.strongRecOn with
 | _ u ih=>
  have hd:∀k,k<10->Df (UInt8.ofNat (48+k))=true:=by
   intro k hk;have:(UInt8.ofNat (48+k)).toNat=48+k:=by simp;omega
   simp only[Df,this,Bool.and_eq_true,decide_eq_true_eq];omega
  rw[Lib.decDigits];split
  ·intro c hc;simp only[List.mem_singleton]at hc;rw[hc];exact hd u (by assumption)
  ·intro c hc;simp only[List.mem_append,List.mem_singleton]at hc;rcases hc with hc|hc
   ·exact ih (u / 10) z51a c hc
   ·rw[hc];exact hd _ (Nat.mod_lt _ z51a)
theorem Ab7(c:UInt8):∀(l:List UInt8) (a:Int),Hp a (l++[c])=10*Hp a l+((c.toNat:Int)-48):=by
 intro l;induction l with
 | nil=>intro a;rfl
 | cons d r ih=>intro a;rw[List.cons_append,Hp,Hp,ih]
theorem Ab6(u:Nat):Hp 0 (Lib.decDigits u)=(u:Int):=by
 induction u using Nat.strongRecOn with
 | _ u ih=>
  rw[Lib.decDigits];split
  ·have:(UInt8.ofNat (48+u)).toNat=48+u:=by simp;omega
   simp only[Hp,this];omega
  ·have:(UInt8.ofNat (48+u % 10)).toNat=48+u % 10:=by simp;omega
   rw[Ab7,ih (u / 10) z51a,this];omega
theorem W4(u:Nat):∃d r,Lib.decDigits u=d::r/\Df d=true:=by
 have h:=Zz u;have hl:1<=(Lib.decDigits u).length:=by rw[Lib.decDigits_length];exact Lib.nDigits_pos u
 cases hd:Lib.decDigits u with
 | nil=>rw[hd]at hl;simp at hl
 | cons d r=>rw[hd]at h;exact⟨d,r,rfl,h d z56a⟩
theorem Ao7{α:Type}(p:α->Bool)(c:α)(r:List α)(hc:p c=false):∀l:List α,(∀x∈l,p x=true)->(l++c::r).takeWhile p=l:=by
 intro l;induction l with
 | nil=>intro _;rw[List.nil_append,List.takeWhile_cons,hc];rfl
 | cons d s ih=>intro h;rw[List.cons_append,List.takeWhile_cons,h d z56a];simp only[if_true];rw[ih (fun x hx=>h x (by simp[hx]))]
theorem A1a(u:Nat)(hu:(u:Int)<=Rx)(c:UInt8)(r:List UInt8)(hc:Df c=false)(f line:Nat):lex (f+1) (Lib.decDigits u++c::r) line false=Jh [⟨2,line,[],(u:Nat)⟩] (lex f (c::r) line false):=by
 obtain⟨d,s,hd,hdig⟩:=W4 u;have htw:=Ao7 Df c r hc (Lib.decDigits u) (Zz u);have hval:=Ab6 u;have hlen:((Lib.decDigits u)++c::r).drop (Lib.decDigits u).length=c::r:=List.drop_left;have hdr:48<=d.toNat/\d.toNat<=57:=by simpa [Df]using hdig
 have h10:(d==10)=false:=by rw[beq_eq_false_iff_ne];intro e;rw[e]at hdr;exact absurd hdr.1 z52a
 have h9:(d==9)=false:=by rw[beq_eq_false_iff_ne];intro e;rw[e]at hdr;exact absurd hdr.1 z52a
 have h32:(d==32)=false:=by rw[beq_eq_false_iff_ne];intro e;rw[e]at hdr;exact absurd hdr.1 z52a
 have h47:(d==47)=false:=by rw[beq_eq_false_iff_ne];intro e;rw[e]at hdr;exact absurd hdr.1 z52a
 have hp:Gu d=true:=by simp only[Gu,Bool.and_eq_true,decide_eq_true_eq];omega
 rw[hd,List.cons_append]at htw hlen;rw[hd]at hval;rw[hd,List.cons_append,lex];have htok:F7 (d::(s++c::r))=some (⟨2,0,[],(u:Nat)⟩,(d::s).length):=by
  rw[F7,if_pos hdig,htw,numOf,hval,if_pos hu]
 simp only[h10,hp,h47,h9,h32,htok,hlen,Bool.not_true,Bool.and_false,Bool.or_false,Bool.false_and,if_false,Bool.false_eq_true];rfl
theorem U1(n:Int)(h1:-9223372036854775808<=n)(h2:n<=9223372036854775807)(c:UInt8)(r:List UInt8)(hc:Df c=false):∃k,∀f,lex (f+k) (Dw n++c::r) 1 false=Jh (J2 n) (lex f (c::r) 1 false):=by
 unfold Dw J2;by_cases h:n<0
 ·refine⟨6,fun f=>?_⟩;rw[if_pos h,if_pos h];obtain⟨d,s,hd,hdig⟩:=W4 (-(n+1)).toNat;have e1:lex (f+6) (40::45::(Lib.decDigits (-(n+1)).toNat++[45,49,41])++c::r) 1 false=Jh [⟨18,1,[],0⟩,⟨35,1,[],0⟩] (lex (f+4) (Lib.decDigits (-(n+1)).toNat++45::49::41::c::r) 1 false):=by
   rw[List.cons_append,List.cons_append,List.append_assoc,List.cons_append,List.cons_append,List.cons_append,List.nil_append,hd,List.cons_append];rfl
  have e2:lex (f+3) (45::49::41::c::r) 1 false=Jh [⟨35,1,[],0⟩,⟨2,1,[],1⟩,⟨19,1,[],0⟩] (lex f (c::r) 1 false):=rfl;rw[e1,A1a _ (by unfold Rx;omega) 45 _ z52a,e2,show(((-(n+1)).toNat:Nat):Int)=-(n+1) by omega,←Sn,←Sn];rfl
 ·refine⟨1,fun f=>?_⟩;rw[if_neg h,if_neg h,A1a _ (by unfold Rx;omega) c r hc,show((n.toNat:Nat):Int)=n by omega]
theorem Tm(u:Nat)(h:u<10000000000000000000):(Lib.decDigits u).length<=19:=by
 rw[Lib.decDigits_length];rcases Nat.lt_or_ge 19 (Lib.nDigits u) with hk|hk
 ·exfalso;have:∀(k v:Nat),k+1<=Lib.nDigits v->10 ^ k<=v\/k=0:=by
   intro k;induction k with
   | zero=>intro v _;right;rfl
   | succ k ih=>
    intro v hv;left;by_cases h10:v<10
    ·rw[Lib.nDigits_small h10]at hv;omega
    ·rw[Lib.nDigits_big h10]at hv;rcases ih (v / 10) z51a with q|q
     ·rw[Nat.pow_succ];omega
     ·rw[q];omega
  rcases this 19 u z51a with q|q
  ·omega
  ·omega
 ·exact hk
theorem Ob(n:Int)(h1:-9223372036854775808<=n)(h2:n<=9223372036854775807):(Dw n).length<=24:=by
 unfold Dw;split
 ·have:=Tm (-(n+1)).toNat z51a;simp only[List.length_cons,List.length_append,List.length_nil];omega
 ·have:=Tm n.toNat z51a;omega
theorem A11(n:Int)(h1:-9223372036854775808<=n)(h2:n<=9223372036854775807):(Lib.itoa n).length<=20:=by
 unfold Lib.itoa;split
 ·have:=Tm n.natAbs z51a;simp only[List.length_cons];omega
 ·have:=Tm n.toNat z51a;omega
theorem Afi(d:UInt8)(s:List UInt8)(f:Nat):lex (f+2) (44::32::d::s) 1 false=Jh [⟨24,1,[],0⟩] (lex f (d::s) 1 false):=by kernel_rfl
theorem W5(n:Int):∃d s,Dw n=d::s:=by
 unfold Dw;split
 ·exact⟨_,_,rfl⟩
 ·obtain⟨d,s,h,_⟩:=W4 n.toNat;exact⟨d,s,h⟩
def Jx(n:Int):List Af:=if n<0 then [⟨0,0,0,ofInt (-(n+1))⟩,⟨23,0,1,Ab⟩,⟨0,0,0,ofInt 1⟩,⟨15,0,1,Ab⟩] else [⟨0,0,0,ofInt n⟩]
def N9(ts:List Tk):BT A6:=match Ai 100000 10 0 .nil ⟨ts,0⟩ with
 | some r=>r.1
 | none=>.nil
theorem Ap4(l:List UInt8)(ts:List Tk)(hl:l.length<=2000)(h:∀f,l.length<f->lex f l 1 false=.inr ts)(h1:Ai 100000 10 0 .nil ⟨ts,0⟩=some (N9 ts,⟨[⟨0,1,[],0⟩],0⟩))(h2:nest ts 0=0)(h3:Et (Cu (N9 ts)) (N9 ts) [] [] (0,0)=(0,0)):Hh l=((0,0),some (N9 ts)):=by
 unfold Hh;rw[if_neg z51a,h _ (Nat.lt_succ_self _)];simp only[h1,h2,h3,ne_eq,not_true_eq_false,if_false]
theorem Ah4(l:List UInt8)(ts:List Tk)(h:∀f,l.length<f->lex f l 1 false=.inr ts)(h1:Ai 100000 10 0 .nil ⟨ts,0⟩=some (N9 ts,⟨[⟨0,1,[],0⟩],0⟩))(hb:bsize (N9 ts)<=4002):Px l:=fun ts' h'=>by
 have:=(h _ (Nat.lt_succ_self _)).symm.trans h';cases this;exact⟨_,h1,fun _=>hb⟩
def K3(P:Dl)(bets:List Dc)(k:Nat)(m m':MS):Prop:=∀n,J1 P bets (n+k) m=J1 P bets n m'
variable {P:Dl} {bets:List Dc} {m0:MS} {a b:Int} {S:List Af}
theorem K3.trans{k j:Nat}{x y z:MS}(h1:K3 P bets k x y)(h2:K3 P bets j y z):K3 P bets (j+k) x z:=by
 intro n;rw[←Nat.add_assoc,h1,h2]
theorem K3.one{m:MS}{i:Af}(hc:m.code=0)(hi:m.now.steps[m.now.pc]?=some i):K3 P bets 1 m (N2 P bets i m):=by
 intro n;rw[J1,if_neg (by rw[hc];simp),hi]
def Io(m0:MS)(S:List Af)(V:List PV)(o:List (List UInt8))(pc:Nat):MS:={ m0 with vals:=V,now:=⟨S,pc,0⟩,out:=o }
theorem goS{V:List PV}{o:List (List UInt8)}{pc:Nat}{x y:Af}{m':MS}(hc:m0.code=0)(hi:S[pc]?=some x\/S[pc]?=some y)(hx:B1 P bets x (Io m0 S V o (pc+1))=m')(hy:B1 P bets y (Io m0 S V o (pc+1))=m'):K3 P bets 1 (Io m0 S V o pc) m':=by
 rcases hi with h|h
 ·rw[←hx];exact K3.one hc h
 ·rw[←hy];exact K3.one hc h
theorem Ye(arr:List (List PV))(n:Int):Fs arr 4 [] (ofInt n)=Lib.itoa n:=by simp[Fs,ofInt]
def Av(c:Bool):List UInt8:=if c then [116,114,117,101] else [102,97,108,115,101]
theorem Aop(arr:List (List PV))(c:Bool):Fs arr 4 [] (ofBool c)=Av c:=by cases c <;> simp[Fs,ofBool,Av]
theorem Zg(c:Bool):(Av c).length<=500:=by cases c <;> decide
theorem Y1{V:List PV}{v:PV}{o:List (List UInt8)}{pc:Nat}{l:List UInt8}(ht:Fs m0.arr 4 [] v=l)(hl:l.length<=500)(ho:o.length<100):B1 P bets ⟨41,0,1,Ab⟩ (Io m0 S (V++[v]) o pc)=Io m0 S V (o++[l]) pc:=by
 show MS.Md _ _=_;have e:(Io m0 S (V++[v]) o pc).top=v:=by simp[MS.top,Io]
 unfold MS.Md;rw[e];have e2:(Io m0 S (V++[v]) o pc).arr=m0.arr:=rfl;have e3:(Io m0 S (V++[v]) o pc).out=o:=rfl;rw[e2,e3,ht,if_neg z51a];simp[MS.pop,Io]
theorem Ajq(a b:Int):(ofInt a).same (ofInt b)=decide (a=b):=by
 simp only[PV.same,ofInt,beq_self_eq_true,Bool.true_and,Bool.and_true];by_cases h:a=b
 ·simp[h]
 ·simp[h]
theorem i20{n:Int}(h:Cf n):(Lib.itoa n).length<=500:=by have:=A11 n h.1 h.2;omega
end
end Go.Proofs.YtjdlndhfaaolaaaGreatDoor
