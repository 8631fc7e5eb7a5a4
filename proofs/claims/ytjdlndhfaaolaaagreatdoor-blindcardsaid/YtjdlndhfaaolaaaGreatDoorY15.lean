import Derived.Lib.ItoaNum
import Derived.Test.YtjdlndhfaaolaaaGreatDoorY09
set_option maxHeartbeats 20000000
set_option linter.defProp false
namespace Go.Proofs.YtjdlndhfaaolaaaGreatDoor
section
open Go.Deep (BT)
def PV.same(a b:PV):Bool:=a.k==b.k&&a.y==b.y&&a.n==b.n&&a.t==b.t&&a.r==b.r
def ofBool(b:Bool):PV:=⟨1,b,0,[],none⟩
def ofInt(n:Int):PV:=⟨2,false,n,[],none⟩
def ofStr(t:List UInt8):PV:=⟨3,false,0,t,none⟩
def Pp(i:Nat):PV:=⟨4,false,0,[],some i⟩
structure Kn where
 kind:Bool
 whole:Bool
 like:PV
structure Form where
 slots:Nat
 steps:List Aa
 bet:List Kn
structure En where
 calls:Nat
 form:Option Form
 fast:Nat
 drops:Nat
structure Cl where
 fn:Int
 after:Int
 kinds:List Int
 ints:List Int
structure Fr where
 steps:List Aa
 pc:Nat
 base:Int
structure MS where
 vals:List PV
 gl:List PV
 calls:List Fr
 now:Fr
 fuel:Nat
 cells:Nat
 out:List (List UInt8)
 code:Nat
 line:Nat
 arr:List (List PV)
 lots:List En
def MS.push(v:PV)(m:MS):MS:={ m with vals:=m.vals++[v] }
def MS.top(m:MS):PV:=m.vals.getLastD Bb
def MS.at'(m:MS)(i:Int):PV:=if i<0 then Bb else(m.vals[i.toNat]?).getD Bb
def MS.pop(m:MS):MS:={ m with vals:=m.vals.dropLast }
def MS.put(i:Int)(v:PV)(m:MS):MS:={ m with vals:=if i<0 then m.vals else m.vals.set i.toNat v }
def MS.cut(n:Int)(m:MS):MS:={ m with vals:=if n<0 then m.vals else m.vals.take n.toNat }
def MS.fail(c:Nat)(i:Aa)(m:MS):MS:={ m with code:=c,line:=i.line }
def MS.jump(a:Int)(m:MS):MS:={ m with now:=⟨m.now.steps,a.toNat,m.now.base⟩ }
def Lu(f:List UInt8->PV->List UInt8):Bool->List UInt8->List PV->List UInt8
 | _,l,[]=>l++[93]
 | b,l,v::r=>if 500<l.length then l else Lu f true (f (if b then l++[44] else l) v) r
def Eg(arr:List (List PV)):Nat->List UInt8->PV->List UInt8
 | n,l,v=>
  if v.k=1 then l++(if v.y then [116,114,117,101] else [102,97,108,115,101])
  else if v.k=2 then l++Lib.itoa v.n
  else if v.k=3 then l++v.t
  else if v.k=4 then
   match n with
   | 0=>l++[91,46,46,93]
   | n+1=>Lu (fun l' v'=>Eg arr n l' v') false (l++[91]) ((arr[v.r.getD 0]?).getD [])
  else l++[110,117,108,108]
def E2:Kn:=⟨false,false,Bb⟩
def Dh(k:Nat):Kn:=⟨true,false,⟨k,false,0,[],none⟩⟩
def Lf(v:PV):Kn:=⟨true,true,v⟩
def Kn.is(k:Kn)(v:PV):Bool:=if k.whole then v.same k.like else !k.kind||v.k==k.like.k
def Kn.sure(k:Kn)(kd:Nat):Bool:=k.kind&&k.like.k==kd
def Ku(b:Cl)(i:Nat):Kn:=
 match b.kinds[i]? with
 | none=>E2
 | some k=>if k=1 then Dh 2 else if k=2 then Dh 3 else if k=3 then Dh 1 else if k=4 then Lf Bb else if k=5 then Dh 4
  else if k=6 then Lf (ofInt ((b.ints[i]?).getD 0)) else E2
def Km:List Aa->List Kn->List Kn
 | [],ks=>ks
 | i::r,ks=>Km r (if i.op=3/\i.arg<ks.length then ks.set i.arg.toNat E2 else ks)
def Mi(params:List Kn)(i:Aa):Kn:=if i.op=1 then(params[i.arg.toNat]?).getD E2 else E2
def El(ab:List Kn):Kn:=ab.getLastD E2
def M8(ab:List Kn):Kn:=ab.dropLast.getLastD E2
def Gb(ab:List Kn)(kd:Nat):Bool:=(El ab).sure kd&&(M8 ab).sure kd
def Ik(o:Nat):Nat:=
 if o=12 then 13 else if o=15 then 16 else if o=17 then 18 else if o=19 then 20 else if o=21 then 22 else if o=28 then 32 else if o=29 then 33 else if o=30 then 34 else if o=31 then 35 else o
def quick(params ab:List Kn)(i:Aa):Aa:=
 if(Mi params i).whole then⟨0,0,0,(Mi params i).like⟩
 else
  let o1:=if i.op=12/\Gb ab 3=true then 14 else i.op
  let o2:=if o1=23/\(El ab).sure 2=true then 24 else o1
  ⟨if Gb ab 2 then Ik o2 else o2,i.arg,i.line,i.v⟩
def Ny(ab:List Kn):Kn:=if(El ab).sure 2||(M8 ab).sure 2 then Dh 2 else if(El ab).sure 3||(M8 ab).sure 3 then Dh 3 else E2
def Hu(params ab:List Kn)(i:Aa):Option Kn:=
 if i.op=0 then some (Lf i.v)
 else if i.op=1\/i.op=2\/i.op=42\/i.op=39 then some (Mi params i)
 else if i.op=12 then some (Ny ab)
 else if i.op=15\/i.op=17\/i.op=19\/i.op=21\/i.op=23\/i.op=37 then some (Dh 2)
 else if i.op=25\/i.op=26\/i.op=27\/i.op=28\/i.op=29\/i.op=30\/i.op=31\/i.op=11 then some (Dh 1)
 else if i.op=36 then some (Dh 4)
 else if i.op=38 then some (El ab)
 else none
def Dv(P:C5)(i:Aa):Int:=
 if i.op=0\/i.op=1\/i.op=2\/i.op=6\/i.op=43 then 0
 else if i.op=36 then i.arg
 else if i.op=42 then(match P.fns[i.arg.toNat]? with|some f=>(f.params:Nat)|none=>0)
 else if i.op=40 then 3
 else if i.op=12\/i.op=15\/i.op=17\/i.op=19\/i.op=21\/i.op=38\/i.op=39\/i.op=25\/i.op=26\/i.op=28\/i.op=29\/i.op=30\/i.op=31 then 2
 else 1
def Of(n:Int)(ab:List Kn):List Kn:=if n<0 then ab else ab.take n.toNat
def follow(P:C5)(params ab:List Kn)(i:Aa):List Kn:=
 let c:=Of ((ab.length:Nat)-Dv P i) ab
 match Hu params ab i with
 | some k=>c++[k]
 | none=>c
def Ix(P:C5)(params:List Kn):List Kn->List Aa->List Aa
 | _,[]=>[]
 | ab,i::r=>quick params ab i::Ix P params (follow P params ab i) r
def G8(P:C5)(b:Cl)(f:Fn):Form:=
 let ks:=(List.range f.params).map (Ku b)
 ⟨f.slots,Ix P (Km f.steps ks) [] f.steps,ks⟩
def MS.Jd(i:Aa)(m:MS)(k:MS->MS):MS:=if m.fuel=0 then m.fail 8 i else k { m with fuel:=m.fuel-1 }
def taken(n:Nat)(calls:Nat):List Cl->Option Cl
 | []=>none
 | b::r=>match taken n calls r with
  | some x=>some x
  | none=>if b.fn=(n:Nat)/\b.after=(calls:Nat) then some b else none
def Ju(m:MS):Int->List Kn->Bool
 | _,[]=>true
 | i,k::r=>k.is (m.at' i)&&Ju m (i+1) r
def Jc(n:Nat):List PV:=List.replicate n Bb
def MS.begin(slots:Nat)(steps:List Aa)(args:Nat)(m:MS):MS:=
 { m with now:=⟨steps,0,(m.vals.length:Nat)-(args:Nat)⟩,vals:=m.vals++Jc (slots-args) }
def MS.Ls(n:Nat)(l:En)(m:MS):MS:={ m with lots:=m.lots.set n l }
def MS.body(P:C5)(bets:List Cl)(n:Nat)(f:Fn)(m:MS):MS:=
 match m.lots[n]? with
 | none=>m
 | some l=>
  let fm:=match taken n l.calls bets with
   | some b=>some (G8 P b f)
   | none=>l.form
  match fm with
  | none=>(m.Ls n ⟨l.calls+1,none,l.fast,l.drops⟩).begin f.slots f.steps f.params
  | some fo=>
   if Ju m ((m.vals.length:Nat)-(fo.bet.length:Nat)) fo.bet then(m.Ls n ⟨l.calls+1,some fo,l.fast+1,l.drops⟩).begin fo.slots fo.steps f.params
   else(m.Ls n ⟨l.calls+1,none,l.fast,l.drops+1⟩).begin f.slots f.steps f.params
def wr(n:Int):Int:=RowKit.wrap64 n
def MS.two(m:MS)(k:PV->PV->MS->MS):MS:=k m.pop.top m.top m.pop.pop
def MS.both(m:MS)(kd:Nat):Bool:=m.top.k==kd&&(m.at' ((m.vals.length:Nat)-2)).k==kd
def MS.ints(i:Aa)(m:MS)(k:Int->Int->MS->MS):MS:=if m.both 2 then m.two (fun a b m'=>k a.n b.n m') else m.fail 5 i
def before(a b:PV):Bool:=decide (a.n<b.n)||Op.bytesLess a.t b.t
def sizeOf'(m:MS)(v:PV):Option Nat:=if v.k=3 then some v.t.length else if v.k=4 then some ((m.arr[v.r.getD 0]?).getD []).length else none
def MS.room(n:Int)(i:Aa)(m:MS)(k:MS->MS):MS:=if(500:Int)-m.cells<n then m.fail 10 i else k { m with cells:=m.cells+n.toNat }
def MS.place(of p:PV)(i:Aa)(m:MS)(k:MS->MS):MS:=
 match sizeOf' m of with
 | none=>m.fail 5 i
 | some n=>if p.k≠2 then m.fail 5 i else if p.n<0\/(n:Int)<=p.n then m.fail 7 i else k m
def MS.Nn(i:Aa)(m:MS):MS:=
 if 500<(Eg m.arr 4 [] m.top).length\/m.out.length=100 then m.pop.fail 10 i else { m.pop with out:=m.out++[Eg m.arr 4 [] m.top] }
def MS.join(i:Aa)(m:MS):MS:=m.two fun a b m'=>if 100<a.t.length+b.t.length then m'.fail 10 i else m'.push (ofStr (a.t++b.t))
def Ap(P:C5)(bets:List Cl)(i:Aa)(m:MS):MS:=
 match i.op with
 | 0=>m.push i.v
 | 1=>m.push (m.at' (m.now.base+i.arg))
 | 2=>m.push ((m.gl[i.arg.toNat]?).getD Bb)
 | 3=>m.pop.put (m.now.base+i.arg) m.top
 | 4=>{ m.pop with gl:=m.gl.set i.arg.toNat m.top }
 | 5=>m.pop
 | 6=>m.jump i.arg
 | 7=>if m.top.y then m.pop.Jd i (fun m'=>if m.top.k=1 then m' else m'.fail 5 i) else if m.top.k=1 then m.pop.jump i.arg else m.pop.fail 5 i
 | 8=>if m.top.k=1 then(if m.top.y then m.pop else m.pop.jump i.arg) else m.pop.fail 5 i
 | 9=>if m.top.k=1 then(if m.top.y then m.pop else m.jump i.arg) else m.fail 5 i
 | 10=>if m.top.k=1 then(if m.top.y then m.jump i.arg else m.pop) else m.fail 5 i
 | 11=>if m.top.k=1 then m else m.fail 5 i
 | 12=>if m.both 3 then m.join i else m.ints i (fun a b m'=>m'.push (ofInt (wr (a+b))))
 | 13=>m.two fun a b m'=>m'.push (ofInt (wr (a.n+b.n)))
 | 14=>m.join i
 | 15=>m.ints i (fun a b m'=>m'.push (ofInt (wr (a-b))))
 | 16=>m.two fun a b m'=>m'.push (ofInt (wr (a.n-b.n)))
 | 17=>m.ints i (fun a b m'=>m'.push (ofInt (wr (a*b))))
 | 18=>m.two fun a b m'=>m'.push (ofInt (wr (a.n*b.n)))
 | 19=>m.ints i (fun a b m'=>if b=0 then m'.fail 6 i else m'.push (ofInt (wr (a.tdiv b))))
 | 20=>m.two fun a b m'=>if b.n=0 then m'.fail 6 i else m'.push (ofInt (wr (a.n.tdiv b.n)))
 | 21=>m.ints i (fun a b m'=>if b=0 then m'.fail 6 i else m'.push (ofInt (a.tmod b)))
 | 22=>m.two fun a b m'=>if b.n=0 then m'.fail 6 i else m'.push (ofInt (a.n.tmod b.n))
 | 23=>if m.top.k=2 then m.pop.push (ofInt (wr (-m.top.n))) else m.fail 5 i
 | 24=>m.pop.push (ofInt (wr (-m.top.n)))
 | 25=>m.two fun a b m'=>m'.push (ofBool (a.same b))
 | 26=>m.two fun a b m'=>m'.push (ofBool (!a.same b))
 | 27=>if m.top.k=1 then m.pop.push (ofBool (!m.top.y)) else m.pop.fail 5 i
 | 28=>if m.both 2||m.both 3 then m.two fun a b m'=>m'.push (ofBool (before b a)) else m.fail 5 i
 | 29=>if m.both 2||m.both 3 then m.two fun a b m'=>m'.push (ofBool (before a b)) else m.fail 5 i
 | 30=>if m.both 2||m.both 3 then m.two fun a b m'=>m'.push (ofBool (!before a b)) else m.fail 5 i
 | 31=>if m.both 2||m.both 3 then m.two fun a b m'=>m'.push (ofBool (!before b a)) else m.fail 5 i
 | 32=>m.two fun a b m'=>m'.push (ofBool (decide (b.n<a.n)))
 | 33=>m.two fun a b m'=>m'.push (ofBool (decide (a.n<b.n)))
 | 34=>m.two fun a b m'=>m'.push (ofBool (decide (b.n<=a.n)))
 | 35=>m.two fun a b m'=>m'.push (ofBool (decide (a.n<=b.n)))
 | 36=>m.room i.arg i fun m'=>
   let f:=(m'.vals.length:Int)-i.arg
   let m2:=m'.cut f
   { m2 with arr:=m'.arr++[(List.range i.arg.toNat).map (fun(j:Nat)=>m'.at' (f+j))] }.push (Pp m'.arr.length)
 | 37=>match sizeOf' m m.top with
  | some n=>m.pop.push (ofInt (n:Nat))
  | none=>m.pop.fail 5 i
 | 38=>m.two fun a b m'=>if a.k=4 then m'.room 1 i fun m2=>{ m2 with arr:=m2.arr.modify (a.r.getD 0) (·++[b]) }.push b else m'.fail 5 i
 | 39=>m.two fun a b m'=>m'.place a b i fun m2=>m2.push (if a.k=3 then ofStr ((a.t.drop b.n.toNat).take 1) else(((m2.arr[a.r.getD 0]?).getD [])[b.n.toNat]?).getD Bb)
 | 40=>m.pop.two fun a b m'=>if a.k=4 then m'.place a b i fun m2=>{ m2 with arr:=m2.arr.modify (a.r.getD 0) (·.set b.n.toNat m.top) } else m'.fail 5 i
 | 41=>m.Nn i
 | 42=>m.Jd i fun m'=>if m'.calls.length=40 then m'.fail 9 i else
   match P.fns[i.arg.toNat]? with
   | some f=>{ m' with calls:=m'.calls++[m'.now] }.body P bets i.arg.toNat f
   | none=>m'
 | 43=>{ (m.cut m.now.base).push Bb with now:=m.calls.getLastD ⟨[],0,0⟩,calls:=m.calls.dropLast }
 | 44=>{ (m.pop.cut m.now.base).push m.top with now:=m.calls.getLastD ⟨[],0,0⟩,calls:=m.calls.dropLast }
 | _=>m
def Ii(P:C5)(bets:List Cl)(i:Aa)(m:MS):MS:=Ap P bets i { m with now:=⟨m.now.steps,m.now.pc+1,m.now.base⟩ }
def Hi(P:C5)(bets:List Cl):Nat->MS->Option MS
 | 0,_=>none
 | n+1,m=>if m.code≠0 then some m else match m.now.steps[m.now.pc]? with
  | none=>some m
  | some i=>Hi P bets n (Ii P bets i m)
def mstart(P:C5):MS:=
 MS.begin P.slots P.main 0 ⟨[],Jc P.globals,[],⟨[],0,0⟩,2000,0,[],0,0,[],List.replicate P.fns.length ⟨0,none,0,0⟩⟩
end
section
def Fk(n:Int):Prop:=-9223372036854775808<=n/\n<=9223372036854775807
def Awg(n:Int):Fk (wr n):=by unfold Fk wr RowKit.wrap64;omega
def Aah{n:Int}(h:Fk n):wr n=n:=by unfold Fk at h;unfold wr RowKit.wrap64;omega
def A9x(a b:Int)(ha:Fk a):Fk (a.tmod b):=by
 unfold Fk at *;have:=Int.natAbs_tmod a b;have h3:0<=a->0<=a.tmod b:=fun h=>Int.tmod_nonneg b h;have h4:a<0->a.tmod b<=0:=fun h=>by
  have:=Int.tmod_nonneg b (show 0<=-a by omega);rw[Int.neg_tmod]at this;omega
 have h2:a.natAbs % b.natAbs<=a.natAbs:=Nat.mod_le _ _;omega
end
section
open Go.Deep (BT)
def F4(v:PV):Prop:=v.t.length<=2000/\Fk v.n/\(v.k=2->v.t=[])
def Ly(b:Cl):Prop:=∀n∈b.ints,Fk n
def Oj(o:Nat):Prop:=o<=44
def Mo(N:Nat)(i:Aa):Prop:=0<=i.arg/\i.arg<=20000/\i.v.r=none/\i.v.k≠4/\F4 i.v/\(i.op=42->i.arg.toNat<N)/\Oj i.op
def Va(N B:Nat)(fo:Form):Prop:=fo.slots<=B/\fo.bet.length<=B/\(∀i∈fo.steps,Mo N i)/\∀x∈fo.bet,x.like.r=none
def Q4(N B:Nat)(f:Fn):Prop:=f.slots<=B/\f.params<=f.slots/\∀i∈f.steps,Mo N i
def Si(N B k:Nat)(f:Fr):Prop:=-(B:Int)<=f.base/\f.base<=k/\∀i∈f.steps,Mo N i
structure Tn (B : Nat) (P : C5) : Prop where
 slots:P.slots<=B
 main:∀i∈P.main,Mo P.fns.length i
 fns:∀f∈P.fns,Q4 P.fns.length B f
structure Inv (N B k : Nat) (m : MS) : Prop where
 vals:m.vals.length<=k
 str:∀v∈m.vals,F4 v
 gls:∀v∈m.gl,F4 v
 ars:∀l∈m.arr,∀v∈l,F4 v
 now:Si N B k m.now
 calls:∀f∈m.calls,Si N B k f
 lots:∀l∈m.lots,∀fo,l.form=some fo->Va N B fo
 fuel:m.fuel<=2000
 depth:m.calls.length<=40
 out:m.out.length<=100
 cells:m.cells<=500
 arl:∀l∈m.arr,l.length<=m.cells
 lotn:m.lots.length=N
 lotc:∀l∈m.lots,l.calls<=k/\l.fast<=k/\l.drops<=k
variable {N B k:Nat} {m:MS} {P:C5} {bets:List Cl}
def Si.mono{k':Nat}{f:Fr}(h:Si N B k f)(hk:k<=k'):Si N B k' f:=⟨h.1,by have:=h.2.1;omega,h.2.2⟩
def Inv.mono{k':Nat}(h:Inv N B k m)(hk:k<=k'):Inv N B k' m:=
 ⟨by have:=h.vals;omega,h.str,h.gls,h.ars,h.now.mono hk,fun f hf=>(h.calls f hf).mono hk,h.lots,h.fuel,h.depth,h.out,h.cells,h.arl,h.lotn,fun l hl=>by have:=h.lotc l hl;omega⟩
def Rd:Fk 0:=⟨by decide,by decide⟩
def Sr:F4 Bb:=⟨by simp[Bb],Rd,fun _=>rfl⟩
def Vt{n:Int}(h:Fk n):F4 (ofInt n):=⟨by simp[ofInt],h,fun _=>rfl⟩
def Pj(n:Int):F4 (ofInt (wr n)):=Vt (Awg n)
def Oy(b:Bool):F4 (ofBool b):=⟨by simp[ofBool],Rd,fun _=>rfl⟩
def Vs{l:List PV}(h:∀v∈l,F4 v)(i:Nat):F4 ((l[i]?).getD Bb):=by
 rcases N2 i l.length with q|q
 ·rw[Eh q];exact h _ (Ho q)
 ·rw[N6 q];exact Sr
def Inv.at'(h:Inv N B k m)(i:Int):F4 (m.at' i):=by
 unfold MS.at';split
 ·exact Sr
 ·exact Vs h.str _
def Inv.top(h:Inv N B k m):F4 m.top:=by
 unfold MS.top;rw[Sf,Zi];exact Vs h.str _
def Inv.push(h:Inv N B k m){v:PV}(hv:F4 v):Inv N B (k+1) (m.push v):=by
 have h':=h.mono (Lj k);refine⟨by simp only[MS.push,Ds,Lw];have:=h.vals;omega,?_,h'.gls,h'.ars,h'.now,h'.calls,h'.lots,h'.fuel,h'.depth,h'.out,h'.cells,h'.arl,h'.lotn,h'.lotc⟩;intro u hu;simp only[MS.push,Jp,Lb]at hu;rcases hu with hu|rfl
 ·exact h.str u hu
 ·exact hv
def Inv.pop(h:Inv N B k m):Inv N B k m.pop:=
 ⟨by have:=h.vals;simp only[MS.pop,Sg];omega,fun v hv=>h.str v (Q3 _ hv),h.gls,h.ars,h.now,h.calls,h.lots,h.fuel,h.depth,h.out,h.cells,h.arl,h.lotn,h.lotc⟩
def Inv.fail(h:Inv N B k m)(c:Nat)(i:Aa):Inv N B k (m.fail c i):=⟨h.vals,h.str,h.gls,h.ars,h.now,h.calls,h.lots,h.fuel,h.depth,h.out,h.cells,h.arl,h.lotn,h.lotc⟩
def Inv.jump(h:Inv N B k m)(a:Int):Inv N B k (m.jump a):=⟨h.vals,h.str,h.gls,h.ars,⟨h.now.1,h.now.2.1,h.now.2.2⟩,h.calls,h.lots,h.fuel,h.depth,h.out,h.cells,h.arl,h.lotn,h.lotc⟩
def Inv.cut(h:Inv N B k m)(n:Int):Inv N B k (m.cut n):=by
 refine⟨?_,?_,h.gls,h.ars,h.now,h.calls,h.lots,h.fuel,h.depth,h.out,h.cells,h.arl,h.lotn,h.lotc⟩
 ·have:=h.vals;simp only[MS.cut];split
  ·exact this
  ·simp only[G3];omega
 ·intro v hv;simp only[MS.cut]at hv;split at hv
  ·exact h.str v hv
  ·exact h.str v (Zj hv)
def Inv.put(h:Inv N B k m)(n:Int){v:PV}(hv:F4 v):Inv N B k (m.put n v):=by
 refine⟨?_,?_,h.gls,h.ars,h.now,h.calls,h.lots,h.fuel,h.depth,h.out,h.cells,h.arl,h.lotn,h.lotc⟩
 ·have:=h.vals;simp only[MS.put];split
  ·exact this
  ·simp only[Lc];exact this
 ·intro u hu;simp only[MS.put]at hu;split at hu
  ·exact h.str u hu
  ·rcases O6 hu with q|q
   ·exact h.str u q
   ·rw[q];exact hv
def Inv.Jd(h:Inv N B k m)(i:Aa){f:MS->MS}{k':Nat}(hk:k<=k')(hf:∀m',Inv N B k m'->Inv N B k' (f m')):Inv N B k' (m.Jd i f):=by
 unfold MS.Jd;split
 ·exact(h.fail 8 i).mono hk
 ·exact hf _ ⟨h.vals,h.str,h.gls,h.ars,h.now,h.calls,h.lots,by have:=h.fuel;show m.fuel-1<=2000;omega,h.depth,h.out,h.cells,h.arl,h.lotn,h.lotc⟩
def Inv.room(h:Inv N B k m)(n:Int)(i:Aa){f:MS->MS}{k':Nat}(hk:k<=k')(hf:∀m',Inv N B k m'->n.toNat<=m'.cells->(∀l∈m'.arr,l.length+n.toNat<=m'.cells)->Inv N B k' (f m')):Inv N B k' (m.room n i f):=by
 unfold MS.room;split
 ·exact(h.fail 10 i).mono hk
 ·exact hf _ ⟨h.vals,h.str,h.gls,h.ars,h.now,h.calls,h.lots,h.fuel,h.depth,h.out,by have:=h.cells;show m.cells+n.toNat<=500;omega,fun l hl=>by have:=h.arl l hl;show l.length<=m.cells+n.toNat;omega,h.lotn,h.lotc⟩ (by show n.toNat<=m.cells+n.toNat;omega) (fun l hl=>by have:=h.arl l hl;show l.length+n.toNat<=m.cells+n.toNat;omega)
def Inv.place(h:Inv N B k m)(of p:PV)(i:Aa){f:MS->MS}{k':Nat}(hk:k<=k')(hf:∀m',Inv N B k m'->Inv N B k' (f m')):Inv N B k' (m.place of p i f):=by
 unfold MS.place;split
 ·exact(h.fail 5 i).mono hk
 ·split
  ·exact(h.fail 5 i).mono hk
  ·split
   ·exact(h.fail 7 i).mono hk
   ·exact hf _ h
def Inv.join(h:Inv N B k m)(i:Aa):Inv N B (k+1) (m.join i):=by
 unfold MS.join MS.two;dsimp only;split
 ·exact((h.pop.pop).fail 10 i).mono (Lj k)
 ·rename_i hn;refine h.pop.pop.push ⟨?_,Rd,fun q=>absurd q (by show(3:Nat)≠2;decide)⟩;simp only[ofStr,Ds];omega
def Inv.ints(h:Inv N B k m)(i:Aa){f:Int->Int->MS->MS}(hf:∀a b m',Fk a->Inv N B k m'->Inv N B (k+1) (f a b m')):Inv N B (k+1) (m.ints i f):=by
 unfold MS.ints MS.two;split
 ·exact hf _ _ _ h.pop.top.2.1 h.pop.pop
 ·exact(h.fail 5 i).mono (Lj k)
def Inv.Wi(h:Inv N B k m){f:Fr}(hf:Si N B k f):Inv N B k { m with now:=f }:=⟨h.vals,h.str,h.gls,h.ars,hf,h.calls,h.lots,h.fuel,h.depth,h.out,h.cells,h.arl,h.lotn,h.lotc⟩
def Inv.begin(h:Inv N B k m){slots args:Nat}{steps:List Aa}(hs:slots<=B)(ha:args<=B)(hi:∀i∈steps,Mo N i):Inv N B (k+B) (m.begin slots steps args):=by
 have h':=h.mono (A3h k B);refine⟨?_,?_,h'.gls,h'.ars,⟨?_,?_,hi⟩,h'.calls,h'.lots,h'.fuel,h'.depth,h'.out,h'.cells,h'.arl,h'.lotn,h'.lotc⟩
 ·have:=h.vals;simp only[MS.begin,Jc,Ds,Tl];omega
 ·intro v hv;simp only[MS.begin,Jc,Jp,Qv]at hv;rcases hv with hv|⟨_,rfl⟩
  ·exact h.str v hv
  ·exact Sr
 ·simp only[MS.begin];omega
 ·have:=h.vals;simp only[MS.begin];omega
def Inv.Ls(h:Inv N B k m)(n:Nat){l:En}(hl:∀fo,l.form=some fo->Va N B fo)(hc:l.calls<=k/\l.fast<=k/\l.drops<=k):Inv N B k (m.Ls n l):=by
 refine⟨h.vals,h.str,h.gls,h.ars,h.now,h.calls,?_,h.fuel,h.depth,h.out,h.cells,h.arl,by show(m.lots.set n l).length=N;rw[Lc];exact h.lotn,fun x hx=>?_⟩
 ·intro x hx;simp only[MS.Ls]at hx;rcases O6 hx with q|q
  ·exact h.lots x q
  ·rw[q];exact hl
 ·simp only[MS.Ls]at hx;rcases O6 hx with q|q
  ·exact h.lotc x q
  ·rw[q];exact hc
def Oc(x:Kn):Prop:=x.whole=true->x.like.r=none/\x.like.k≠4/\F4 x.like
def Vz:Oc E2:=by intro h;cases h
def Alg(d:Nat):Oc (Dh d):=by intro h;cases h
def Ali:Oc (Lf Bb):=fun _=>⟨rfl,by show(0:Nat)≠4;decide,Sr⟩
def Alf{n:Int}(h:Fk n):Oc (Lf (ofInt n)):=fun _=>⟨rfl,by show(2:Nat)≠4;decide,Vt h⟩
def Aeu{b:Cl}(h:Ly b)(i:Nat):Fk ((b.ints[i]?).getD 0):=by
 rcases N2 i b.ints.length with q|q
 ·rw[Eh q];exact h _ (Ho q)
 ·rw[N6 q];exact Rd
def Ald{b:Cl}(hb:Ly b)(i:Nat):Oc (Ku b i):=by
 unfold Ku;split
 ·exact Vz
 ·repeat' (first|exact Vz|exact Alg _|exact Ali|exact Alf (Aeu hb _)|split)
def Ale{ks:List Kn}(h:∀x∈ks,Oc x)(i:Nat):Oc ((ks[i]?).getD E2):=by
 rcases N2 i ks.length with q|q
 ·rw[Eh q];exact h _ (Ho q)
 ·rw[N6 q];exact Vz
def Alh:∀(l:List Aa) (ks:List Kn),(∀x∈ks,Oc x)->∀x∈Km l ks,Oc x:=by
 intro l;induction l with
 | nil=>intro ks h;exact h
 | cons i r ih=>
  intro ks h;rw[Km];refine ih _ ?_;split
  ·intro x hx;rcases O6 hx with q|q
   ·exact h x q
   ·rw[q];exact Vz
  ·exact h
def Amt{o:Nat}(h:Ik o=42):o=42:=by
 unfold Ik at h;repeat (first|(split at h;cases h)|exact h)
def Apk{i:Aa}{ab:List Kn}(h:(if Gb ab 2=true then Ik (if(if i.op=12/\Gb ab 3=true then 14 else i.op)=23/\(El ab).sure 2=true then 24 else(if i.op=12/\Gb ab 3=true then 14 else i.op)) else(if(if i.op=12/\Gb ab 3=true then 14 else i.op)=23/\(El ab).sure 2=true then 24 else(if i.op=12/\Gb ab 3=true then 14 else i.op)))=42):i.op=42:=by
 have h2:(if(if i.op=12/\Gb ab 3=true then 14 else i.op)=23/\(El ab).sure 2=true then 24 else(if i.op=12/\Gb ab 3=true then 14 else i.op))=42:=by
  split at h
  ·exact Amt h
  ·exact h
 split at h2
 ·cases h2
 ·split at h2
  ·cases h2
  ·exact h2
def Amu{o:Nat}(h:Oj o):Oj (Ik o):=by
 unfold Ik;unfold Oj at *;repeat (first|(split;omega)|exact h)
def Apm{i:Aa}{ab:List Kn}(h:Oj i.op):Oj (if Gb ab 2=true then Ik (if(if i.op=12/\Gb ab 3=true then 14 else i.op)=23/\(El ab).sure 2=true then 24 else(if i.op=12/\Gb ab 3=true then 14 else i.op)) else(if(if i.op=12/\Gb ab 3=true then 14 else i.op)=23/\(El ab).sure 2=true then 24 else(if i.op=12/\Gb ab 3=true then 14 else i.op))):=by
 have h1:Oj (if i.op=12/\Gb ab 3=true then 14 else i.op):=by
  split
  ·unfold Oj;omega
  ·exact h
 generalize (if i.op=12/\Gb ab 3=true then 14 else i.op)=o1 at *;have h2:Oj (if o1=23/\(El ab).sure 2=true then 24 else o1):=by
  split
  ·unfold Oj;omega
  ·exact h1
 split
 ·exact Amu h2
 ·exact h2
def Aj7{ps ab:List Kn}{i:Aa}(hp:∀x∈ps,Oc x)(hi:Mo N i):Mo N (quick ps ab i):=by
 have hl:Oc (Mi ps i):=by
  unfold Mi;split
  ·exact Ale hp _
  ·exact Vz
 unfold quick;split
 ·rename_i hw;obtain⟨h1,h2,h3⟩:=hl hw;exact⟨by simp,by simp,h1,h2,h3,fun q=>(by cases q),(by unfold Oj;dsimp only;omega)⟩
 ·exact⟨hi.1,hi.2.1,hi.2.2.1,hi.2.2.2.1,hi.2.2.2.2.1,fun q=>hi.2.2.2.2.2.1 (Apk q),Apm hi.2.2.2.2.2.2⟩
def Aj8{ps:List Kn}(hp:∀x∈ps,Oc x):∀(l:List Aa) (ab:List Kn),(∀i∈l,Mo N i)->∀i∈Ix P ps ab l,Mo N i:=by
 intro l;induction l with
 | nil=>intro ab _ i hi;simp[Ix]at hi
 | cons j r ih=>
  intro ab h i hi;rw[Ix,L9]at hi;rcases hi with rfl|hi
  ·exact Aj7 hp (h j z4ra)
  ·exact ih _ (fun x hx=>h x (by simp[hx])) i hi
def p8(b:Cl)(i:Nat):(Ku b i).like.r=none:=by
 unfold Ku;split
 ·rfl
 ·repeat' (first|rfl|split)
def Aj6{f:Fn}(hf:Q4 N B f){b:Cl}(hb:Ly b):Va N B (G8 P b f):=by
 unfold G8;dsimp only;refine⟨hf.1,by simp only[Mb,A3i];have:=hf.1;have:=hf.2.1;omega,?_⟩;refine⟨Aj8 (Alh _ _ ?_) _ _ hf.2.2,fun x hx=>?_⟩;rotate_left
 ·simp only[Qu]at hx;obtain⟨i,_,rfl⟩:=hx;exact p8 b i
 intro x hx;simp only[Qu]at hx;obtain⟨i,_,rfl⟩:=hx;exact Ald hb i
def Inv.A4r(h:Inv N B k m)(n:Nat)(l:En)(hlc:l.calls<=k/\l.fast<=k/\l.drops<=k){f:Fn}(hf:Q4 N B f)(d:Nat)(hd:d<=k+1):Inv N B (k+B+1) ((m.Ls n ⟨l.calls+1,none,l.fast,d⟩).begin f.slots f.steps f.params):=by
 have:=((h.mono (Lj k)).Ls n (l:=⟨l.calls+1,none,l.fast,d⟩) (by intro fo q;cases q) ⟨by dsimp only;omega,by dsimp only;omega,hd⟩).begin hf.1 (by have:=hf.1;have:=hf.2.1;omega) hf.2.2 (args:=f.params);rw[show k+B+1=k+1+B by omega];exact this
def Inv.A4s(h:Inv N B k m)(n:Nat)(l:En)(hlc:l.calls<=k/\l.fast<=k/\l.drops<=k){f:Fn}(hf:Q4 N B f){fo:Form}(q:Va N B fo):Inv N B (k+B+1) (if Ju m ((m.vals.length:Nat)-(fo.bet.length:Nat)) fo.bet then(m.Ls n ⟨l.calls+1,some fo,l.fast+1,l.drops⟩).begin fo.slots fo.steps f.params else(m.Ls n ⟨l.calls+1,none,l.fast,l.drops+1⟩).begin f.slots f.steps f.params):=by
 split
 ·have:=((h.mono (Lj k)).Ls n (l:=⟨l.calls+1,some fo,l.fast+1,l.drops⟩) (by intro fo' q';injection q' with q';rw[←q'];exact q) ⟨by dsimp only;omega,by dsimp only;omega,by dsimp only;omega⟩).begin q.1 (by have:=hf.1;have:=hf.2.1;omega) q.2.2.1 (args:=f.params);rw[show k+B+1=k+1+B by omega];exact this
 ·exact h.A4r n l hlc hf _ z4ma
def Auv{n c:Nat}:∀{l:List Cl} {b:Cl},taken n c l=some b->b∈l:=by
 intro l;induction l with
 | nil=>intro b h;simp[taken]at h
 | cons x r ih=>
  intro b h;rw[taken]at h;cases hq:taken n c r with
  | some y=>rw[hq]at h;injection h with h;rw[←h];exact Sb _ (ih hq)
  | none=>
   rw[hq]at h;dsimp only at h;split at h
   ·injection h with h;rw[←h];exact Q0
   ·cases h
def Inv.body(h:Inv N B k m)(hbt:∀x∈bets,Ly x)(n:Nat){f:Fn}(hf:Q4 N B f):Inv N B (k+B+1) (m.body P bets n f):=by
 unfold MS.body;cases hl:m.lots[n]? with
 | none=>exact h.mono z4ma
 | some l=>
  have hlc:=h.lotc l (Gl hl);dsimp only;cases ht:taken n l.calls bets with
  | none=>
   cases hx:l.form with
   | none=>exact h.A4r n l hlc hf _ z4ma
   | some fo=>exact h.A4s n l hlc hf (h.lots l (Gl hl) fo hx)
  | some b=>exact h.A4s n l hlc hf (Aj6 hf (hbt b (Auv ht)))
def Inv.Nn(h:Inv N B k m)(i:Aa):Inv N B k (m.Nn i):=by
 unfold MS.Nn;split
 ·exact h.pop.fail 10 i
 ·rename_i hn;have:=h.out;exact⟨h.pop.vals,h.pop.str,h.gls,h.ars,h.now,h.calls,h.lots,h.fuel,h.depth,by simp only[Ds,Lw];show m.out.length+1<=100;omega,h.cells,h.arl,h.lotn,h.lotc⟩
def Inv.leave(h:Inv N B k m){v:PV}(hv:F4 v):Inv N B (k+1) { (m.cut m.now.base).push v with now:=m.calls.getLastD ⟨[],0,0⟩,calls:=m.calls.dropLast }:=by
 have q:=(h.cut m.now.base).push hv;have hl:Si N B k (m.calls.getLastD ⟨[],0,0⟩):=by
  rw[Sf];cases hc:m.calls.getLast? with
  | none=>exact⟨by simp,by simp,by simp⟩
  | some f=>exact h.calls f (A3j hc)
 exact⟨q.vals,q.str,q.gls,q.ars,hl.mono (Lj k),fun f hf=>q.calls f (Q3 _ hf),q.lots,q.fuel,by have:=h.depth;show m.calls.dropLast.length<=40;simp only[Sg];omega,q.out,q.cells,q.arl,q.lotn,q.lotc⟩
def Inv.o7(h:Inv N B k m){arr:List (List PV)}(ha:∀l∈arr,∀v∈l,F4 v)(hl:∀l∈arr,l.length<=m.cells):Inv N B k { m with arr:=arr }:=⟨h.vals,h.str,h.gls,ha,h.now,h.calls,h.lots,h.fuel,h.depth,h.out,h.cells,hl,h.lotn,h.lotc⟩
def A75{arr:List (List PV)}{c d:Nat}(ha:∀l∈arr,l.length+d<=c)(f:List PV->List PV)(hf:∀l,(f l).length=l.length+d)(i:Nat):∀l∈arr.modify i f,l.length<=c:=by
 intro l hl;rw[Zl]at hl;obtain⟨j,hj⟩:=hl;rw[A3k]at hj;cases hq:arr[j]? with
 | none=>rw[hq]at hj;simp at hj
 | some x=>
  rw[hq]at hj;simp only[Option.map_eq_map,X6,Cg]at hj;rw[←hj];have hx:=ha x (Gl hq);split
  ·rw[hf];exact hx
  ·omega
def A66{arr:List (List PV)}(ha:∀l∈arr,∀v∈l,F4 v)(f:List PV->List PV)(hf:∀l,(∀v∈l,F4 v)->∀v∈f l,F4 v)(i:Nat):∀l∈arr.modify i f,∀v∈l,F4 v:=by
 intro l hl;rw[Zl]at hl;obtain⟨j,hj⟩:=hl;rw[A3k]at hj;cases hq:arr[j]? with
 | none=>rw[hq]at hj;simp at hj
 | some x=>
  rw[hq]at hj;simp only[Option.map_eq_map,X6,Cg]at hj;rw[←hj];have hx:=ha x (Gl hq);split
  ·exact hf x hx
  ·exact hx
def Asi(h:Inv N B k m){n:Nat}(hn:sizeOf' m m.top=some n):Fk ((n:Nat):Int):=by
 unfold sizeOf' at hn;have h1:=h.top.1;have h2:=h.cells;split at hn
 ·injection hn with hn;unfold Fk;omega
 ·split at hn
  ·injection hn with hn;cases hq:m.arr[m.top.r.getD 0]? with
   | none=>rw[hq]at hn;simp at hn;unfold Fk;omega
   | some l=>rw[hq]at hn;simp at hn;have:=h.arl l (Gl hq);unfold Fk;omega
  ·cases hn
def z42a {P:Prop} (h:P:=by
  exact k0 (h.fail 5 i)):P:=h
def z3ga {P:Prop} (h:P:=by
  exact k1 (h.ints i (fun a b m' _ h'=>h'.push (Pj _)))):P:=h
def z1ta {P:Prop} (h:P:=by
  exact k1 (h.pop.pop.push (Oy _))):P:=h
def Inv.act(h:Inv N B k m)(hN:P.fns.length=N)(hP:Tn B P)(hbt:∀x∈bets,Ly x)(i:Aa)(hi:Mo N i):Inv N B (k+B+1) (Ap P bets i m):=by
 have k1:∀{m'},Inv N B (k+1) m'->Inv N B (k+B+1) m':=fun q=>q.mono z4ma;have k0:∀{m'},Inv N B k m'->Inv N B (k+B+1) m':=fun q=>q.mono z4ma;have k2:∀{m'},Inv N B k m'->Inv N B (k+1) m':=fun q=>q.mono z4ma;unfold Ap;split
 ·exact k1 (h.push hi.2.2.2.2.1)
 ·exact k1 (h.push (h.at' _))
 ·exact k1 (h.push (Vs h.gls _))
 ·exact k0 (h.pop.put _ h.top)
 ·refine k0 ⟨h.pop.vals,h.pop.str,?_,h.ars,h.now,h.calls,h.lots,h.fuel,h.depth,h.out,h.cells,h.arl,h.lotn,h.lotc⟩;intro v hv;rcases O6 hv with q|q
  ·exact h.gls v q
  ·rw[q];exact h.top
 ·exact k0 h.pop
 ·exact k0 (h.jump _)
 ·split
  ·refine k0 (h.pop.Jd i (Af _) (fun m' h'=>?_));split
   ·exact h'
   ·exact h'.fail 5 i
  ·split
   ·exact k0 (h.pop.jump _)
   ·exact k0 (h.pop.fail 5 i)
 ·split
  ·split
   ·exact k0 h.pop
   ·exact k0 (h.pop.jump _)
  ·exact k0 (h.pop.fail 5 i)
 ·split
  ·split
   ·exact k0 h.pop
   ·exact k0 (h.jump _)
  ·exact z42a
 ·split
  ·split
   ·exact k0 (h.jump _)
   ·exact k0 h.pop
  ·exact z42a
 ·split
  ·exact k0 h
  ·exact z42a
 ·split
  ·exact k1 (h.join i)
  ·exact z3ga
 ·exact k1 (h.pop.pop.push (Pj _))
 ·exact k1 (h.join i)
 ·exact z3ga
 ·exact k1 (h.pop.pop.push (Pj _))
 ·exact z3ga
 ·exact k1 (h.pop.pop.push (Pj _))
 ·exact k1 (h.ints i (fun a b m' _ h'=>by split;exact k2 (h'.fail 6 i);exact h'.push (Pj _)))
 ·unfold MS.two;dsimp only;split
  ·exact k0 (h.pop.pop.fail 6 i)
  ·exact k1 (h.pop.pop.push (Pj _))
 ·exact k1 (h.ints i (fun a b m' ha h'=>by split;exact k2 (h'.fail 6 i);exact h'.push (Vt (A9x a b ha))))
 ·unfold MS.two;dsimp only;split
  ·exact k0 (h.pop.pop.fail 6 i)
  ·exact k1 (h.pop.pop.push (Vt (A9x _ _ h.pop.top.2.1)))
 ·split
  ·exact k1 (h.pop.push (Pj _))
  ·exact z42a
 ·exact k1 (h.pop.push (Pj _))
 ·exact z1ta
 ·exact z1ta
 ·split
  ·exact k1 (h.pop.push (Oy _))
  ·exact k0 (h.pop.fail 5 i)
 ·split
  ·exact z1ta
  ·exact z42a
 ·split
  ·exact z1ta
  ·exact z42a
 ·split
  ·exact z1ta
  ·exact z42a
 ·split
  ·exact z1ta
  ·exact z42a
 ·exact z1ta
 ·exact z1ta
 ·exact z1ta
 ·exact z1ta
 ·refine k1 (h.room i.arg i (Lj k) (fun m' h' hc hl=>?_));refine Inv.push (Inv.o7 (h'.cut _) (fun l hl' v hv=>?_) (fun l hl'=>?_)) ⟨by simp[Pp],Rd,fun q=>absurd q (by show(4:Nat)≠2;decide)⟩
  ·rcases Jp.1 hl' with q|q
   ·exact h'.ars l q v hv
   ·rw[Lb.1 q]at hv;obtain⟨j,_,rfl⟩:=Qu.1 hv;exact h'.at' _
  ·rcases Jp.1 hl' with q|q
   ·have:=hl l q;show l.length<=m'.cells;omega
   ·rw[Lb.1 q];simp only[Mb,A3i];exact hc
 ·cases hq:sizeOf' m m.top with
  | some n=>exact k1 (h.pop.push (Vt (Asi h hq)))
  | none=>exact k0 (h.pop.fail 5 i)
 ·unfold MS.two;dsimp only;split
  ·refine k1 (h.pop.pop.room 1 i (Lj k) (fun m' h' hc hl=>?_));refine Inv.push (Inv.o7 h' (A66 h'.ars _ (fun l hl' v hv=>?_) _) (A75 (d:=1) hl _ (fun l=>by simp) _)) h.top;rcases Jp.1 hv with q|q
   ·exact hl' v q
   ·rw[Lb.1 q];exact h.top
  ·exact k0 (h.pop.pop.fail 5 i)
 ·unfold MS.two;dsimp only;refine k1 (h.pop.pop.place _ _ i (Lj k) (fun m' h'=>?_));refine h'.push ?_;split
  ·exact⟨by simp only[ofStr,G3,Qs];omega,Rd,fun q=>absurd q (by show(3:Nat)≠2;decide)⟩
  ·refine Vs (fun v hv=>?_) _;cases hq:m'.arr[m.pop.top.r.getD 0]? with
   | none=>rw[hq]at hv;simp at hv
   | some l=>rw[hq]at hv;exact h'.ars l (Gl hq) v hv
 ·unfold MS.two;dsimp only;split
  ·refine k0 (h.pop.pop.pop.place _ _ i (Af k) (fun m' h'=>?_));refine Inv.o7 h' (A66 h'.ars _ (fun l hl' v hv=>?_) _) (A75 (d:=0) h'.arl _ (fun l=>by simp) _);rcases O6 hv with q|q
   ·exact hl' v q
   ·rw[q];exact h.top
  ·exact k0 (h.pop.pop.pop.fail 5 i)
 ·exact k0 (h.Nn i)
 ·refine h.Jd i z4ma (fun m' h'=>?_);split
  ·exact(h'.fail 9 i).mono z4ma
  ·rename_i hd;split
   ·rename_i f hf;have hff:=hP.fns f (Gl hf);rw[hN]at hff;refine Inv.body ?_ hbt _ hff;refine⟨h'.vals,h'.str,h'.gls,h'.ars,h'.now,?_,h'.lots,h'.fuel,by have:=h'.depth;simp only[Ds,Lw];omega,h'.out,h'.cells,h'.arl,h'.lotn,h'.lotc⟩;intro x hx;simp only[Jp,Lb]at hx;rcases hx with hx|rfl
    ·exact h'.calls x hx
    ·exact h'.now
   ·exact h'.mono z4ma
 ·exact k1 (h.leave Sr)
 ·exact k1 (Inv.leave h.pop h.top)
 ·exact k0 h
def Inv.step(h:Inv N B k m)(hN:P.fns.length=N)(hP:Tn B P)(hbt:∀x∈bets,Ly x)(i:Aa)(hi:i∈m.now.steps):Inv N B (k+B+1) (Ii P bets i m):=by
 have q:Inv N B k { m with now:=⟨m.now.steps,m.now.pc+1,m.now.base⟩ }:=h.Wi ⟨h.now.1,h.now.2.1,h.now.2.2⟩;exact q.act hN hP hbt i (h.now.2.2 i hi)
def A7u(i:Aa)(m:MS):Prop:=i.op=2\/i.op=4->i.arg.toNat<m.gl.length
structure Ec (P : C5) (i : Aa) (m : MS) : Prop where
 nice:A7u i m
 ars:∀l∈m.arr,l.length<=500
 arv:∀l∈m.arr,∀v∈l,F4 v
 cells:m.cells<=500
 ins:Mo P.fns.length i
 vals:m.vals.length<=80000000000
 base:-5000<=m.now.base/\m.now.base<=80000000000
 fuel:m.fuel<=2000
 depth:m.calls.length<=40
 out:m.out.length<=100
 str:∀v∈m.vals,F4 v
 lotn:m.lots.length=P.fns.length
 lots:∀l∈m.lots,∀fo,l.form=some fo->Va P.fns.length 5000 fo
 lotc:∀l∈m.lots,l.calls<=80000000000/\l.fast<=80000000000/\l.drops<=80000000000
 fns:∀f∈P.fns,Q4 P.fns.length 5000 f
def P0(o:Nat):Bool:=o !=13&&o !=14&&o !=16&&o !=18&&o !=20&&o !=22&&o !=24&&o !=32&&o !=33&&o !=34&&o !=35
def Uo(bets:List Cl)(i:Aa)(m:MS):Prop:=bets=[]->(∀l∈m.lots,l.form=none)/\P0 i.op=true
def T4(P:C5)(bets:List Cl):Nat->MS->Prop
 | 0,_=>True
 | n+1,m=>m.code=0->∀i,m.now.steps[m.now.pc]?=some i->(Ec P i m/\Uo bets i m)/\T4 P bets n (Ii P bets i m)
def nice(P:C5)(bets:List Cl):Nat->MS->Prop
 | 0,_=>True
 | n+1,m=>m.code=0->∀i,m.now.steps[m.now.pc]?=some i->(A7u i m/\Uo bets i m)/\nice P bets n (Ii P bets i m)
def A7y(hP:Tn B P)(hbt:∀x∈bets,Ly x)(hB:B<=5000):∀(n k:Nat) (m:MS),Inv P.fns.length B k m->nice P bets n m->k+n*(B+1)<=80000000000->T4 P bets n m:=by
 intro n;induction n with
 | zero=>intro k m _ _ _;trivial
 | succ n ih=>
  intro k m h hni hk hc i hi;obtain⟨⟨Cc,hsl⟩,Eu⟩:=hni hc i hi;have hm:=Gl hi;have e:(n+1)*(B+1)=n*(B+1)+B+1:=by rw[Mm];omega
  refine⟨⟨⟨Cc,fun l hl=>Fu (h.arl l hl) h.cells,h.ars,h.cells,h.now.2.2 i hm,by have:=h.vals;omega,⟨by have:=h.now.1;omega,by have:=h.now.2.1;omega⟩,h.fuel,h.depth,h.out,h.str,h.lotn,fun l hl fo hfo=>?_,fun l hl=>by have:=h.lotc l hl;omega,fun f hf=>?_⟩,hsl⟩,ih (k+B+1) _ (h.step rfl hP hbt i hm) Eu z4ma⟩
  ·obtain⟨q1,q2,q3⟩:=h.lots l hl fo hfo;exact⟨by omega,by omega,q3⟩
  ·obtain⟨q1,q2,q3⟩:=hP.fns f hf;exact⟨by omega,q2,q3⟩
def Vw(hP:Tn B P):Inv P.fns.length B B (mstart P):=by
 have h0:Inv P.fns.length B 0 ⟨[],Jc P.globals,[],⟨[],0,0⟩,2000,0,[],0,0,[],List.replicate P.fns.length ⟨0,none,0,0⟩⟩:=by
  refine⟨by simp,by simp,?_,by simp,⟨by simp,by simp,by simp⟩,by simp,?_,by simp,by simp,by simp,by simp,by simp,by simp,fun l hl=>by simp only[Qv]at hl;rw[hl.2];simp⟩
  ·intro v hv;simp only[Jc,Qv]at hv;rw[hv.2];exact Sr
  ·intro l hl fo hfo;simp only[Qv]at hl;rw[hl.2]at hfo;cases hfo
 have:=h0.begin hP.slots (De _) hP.main (args:=0);rw[Tf]at this;exact this
end
section
open Go.Deep (BT)
def A5i(n:Int):List UInt8:=if n<0 then 40::45::(Lib.decDigits (-(n+1)).toNat++[45,49,41]) else Lib.decDigits n.toNat
def Am3:∀(f g:Nat) (l:List UInt8) (line:Nat) (said:Bool),l.length<f->l.length<g->lex f l line said=lex g l line said:=by
 intro f;induction f with
 | zero=>intro g l line said h;omega
 | succ f ih=>
  intro g l line said h1 h2;obtain⟨g,rfl⟩:∃k,g=k+1:=⟨g-1,by omega⟩;cases l with
  | nil=>rfl
  | cons c r=>
   simp only[Il]at h1 h2;have e1:∀line said,lex f r line said=lex g r line said:=fun line said=>ih g r line said z4ma z4ma;rw[lex,lex,e1,e1];cases ht:Fq (c::r) with
   | none=>rfl
   | some x=>
    obtain⟨t,n⟩:=x;have hn:=(Z0 c r t n ht).2.2;have e2:=ih g ((c::r).drop n) line false z4qa z4qa;simp only[e2]
def Xw(u:Nat)(h:u<10000000000000000000):(Lib.decDigits u).length<=19:=by
 rw[Lib.decDigits_length];rcases N2 19 (Lib.nDigits u) with hk|hk
 ·exfalso;have:∀(k v:Nat),k+1<=Lib.nDigits v->10 ^ k<=v\/k=0:=by
   intro k;induction k with
   | zero=>intro v _;right;rfl
   | succ k ih=>
    intro v hv;left;by_cases h10:v<10
    ·rw[Lib.nDigits_small h10]at hv;omega
    ·rw[Lib.nDigits_big h10]at hv;rcases ih (v / 10) z4ma with q|q
     ·rw[Nat.pow_succ];omega
     ·rw[q];omega
  rcases this 19 u z4ma with q|q
  ·omega
  ·omega
 ·exact hk
def Axo(n:Int)(h1:-9223372036854775808<=n)(h2:n<=9223372036854775807):(A5i n).length<=24:=by
 unfold A5i;split
 ·have:=Xw (-(n+1)).toNat z4ma;simp only[Il,Ds,Jo];omega
 ·have:=Xw n.toNat z4ma;omega
def A6s(n:Int)(h1:-9223372036854775808<=n)(h2:n<=9223372036854775807):(Lib.itoa n).length<=20:=by
 unfold Lib.itoa;split
 ·have:=Xw n.natAbs z4ma;simp only[Il];omega
 ·have:=Xw n.toNat z4ma;omega
def Ry(ts:List Tk):BT A5:=match Ak 100000 10 0 .nil ⟨ts,0⟩ with
 | some r=>r.1
 | none=>.nil
def Avl(l:List UInt8)(ts:List Tk)(hl:l.length<=2000)(h:∀f,l.length<f->lex f l 1 false=.inr ts)(h1:Ak 100000 10 0 .nil ⟨ts,0⟩=some (Ry ts,⟨[⟨0,1,[],0⟩],0⟩))(h2:nest ts 0=0)(h3:G2 (Cr (Ry ts)) (Ry ts) [] [] (0,0)=(0,0)):Gu l=((0,0),some (Ry ts)):=by
 unfold Gu;rw[Ai,h _ (Nat.lt_succ_self _)];simp only[h1,h2,h3,La,not_true_eq_false,Oq]
def Md(P:C5)(bets:List Cl)(k:Nat)(m m':MS):Prop:=∀n,Hi P bets (n+k) m=Hi P bets n m'
variable {P:C5} {bets:List Cl} {m0:MS} {a b:Int} {S:List Aa}
def Md.trans{k j:Nat}{x y z:MS}(h1:Md P bets k x y)(h2:Md P bets j y z):Md P bets (j+k) x z:=by
 intro n;rw[←X0,h1,h2]
def Md.one{m:MS}{i:Aa}(hc:m.code=0)(hi:m.now.steps[m.now.pc]?=some i):Md P bets 1 m (Ii P bets i m):=by
 intro n;rw[Hi,A1 (by rw[hc];simp),hi]
def K0(m0:MS)(S:List Aa)(V:List PV)(o:List (List UInt8))(pc:Nat):MS:={ m0 with vals:=V,now:=⟨S,pc,0⟩,out:=o }
def goS{V:List PV}{o:List (List UInt8)}{pc:Nat}{x y:Aa}{m':MS}(hc:m0.code=0)(hi:S[pc]?=some x\/S[pc]?=some y)(hx:Ap P bets x (K0 m0 S V o (pc+1))=m')(hy:Ap P bets y (K0 m0 S V o (pc+1))=m'):Md P bets 1 (K0 m0 S V o pc) m':=by
 rcases hi with h|h
 ·rw[←hx];exact Md.one hc h
 ·rw[←hy];exact Md.one hc h
def A9w(arr:List (List PV))(n:Int):Eg arr 4 [] (ofInt n)=Lib.itoa n:=by simp[Eg,ofInt]
def Sl(c:Bool):List UInt8:=if c then [116,114,117,101] else [102,97,108,115,101]
def A26{V:List PV}{v:PV}{o:List (List UInt8)}{pc:Nat}{l:List UInt8}(ht:Eg m0.arr 4 [] v=l)(hl:l.length<=500)(ho:o.length<100):Ap P bets ⟨41,0,1,Bb⟩ (K0 m0 S (V++[v]) o pc)=K0 m0 S V (o++[l]) pc:=by
 show MS.Nn _ _=_;have e:(K0 m0 S (V++[v]) o pc).top=v:=by simp[MS.top,K0]
 unfold MS.Nn;rw[e];have e2:(K0 m0 S (V++[v]) o pc).arr=m0.arr:=rfl;have e3:(K0 m0 S (V++[v]) o pc).out=o:=rfl;rw[e2,e3,ht,Ai];simp[MS.pop,K0]
end
section
open Go.Deep (BT)
variable {P:C5} {bets:List Cl} {a b:Int} {M:List Aa}
def goP{m0:MS}{V:List PV}{o:List (List UInt8)}{pc:Nat}{x:Aa}{m':MS}(hc:m0.code=0)(hi:M[pc]?=some x)(hx:Ap P bets x (K0 m0 M V o (pc+1))=m'):Md P bets 1 (K0 m0 M V o pc) m':=goS hc (.inl hi) hx hx
def bs(f:Nat)(l:En)(calls:List Fr):MS:=⟨[],[],calls,⟨[],0,0⟩,f,0,[],0,0,[],[l]⟩
def Abu(m:MS)(i:Aa)(ho:i.op=42)(hf:m.fuel≠0)(hd:m.calls.length≠40){f:Fn}(hp:P.fns[i.arg.toNat]?=some f):Ap P bets i m=MS.body P bets i.arg.toNat f { m with fuel:=m.fuel-1,calls:=m.calls++[m.now] }:=by
 unfold Ap;rw[ho];show MS.Jd _ _ _=_;unfold MS.Jd;rw[A1 hf];dsimp only;rw[A1 hd,hp]
end
section
def Av6{f:List UInt8->PV->List UInt8}{B:Nat}:∀(vs:List PV) (_:∀v∈vs,∀(l:List UInt8),l.length<=600->(f l v).length<=B) (b:Bool) (l:List UInt8),l.length<=B->(Lu f b l vs).length<=B+1:=by
 intro vs;induction vs with
 | nil=>intro _ b l h;simp[Lu];omega
 | cons v r ih=>
  intro hf b l h;unfold Lu;by_cases q:500<l.length
  ·rw[A7 q];omega
  ·rw[A1 q];refine ih (fun x hx=>hf x (Sb _ hx)) true _ (hf v Q0 _ ?_);cases b <;> simp <;> omega
def A2m{arr:List (List PV)}(ha:∀l∈arr,∀v∈l,F4 v):∀(d:Nat) (v:PV) (_:F4 v) (l:List UInt8),l.length<=600->(Eg arr d l v).length<=2610+d:=by
 intro d;induction d with
 | zero=>
  intro v hv l h;have h1:=A6s v.n hv.2.1.1 hv.2.1.2;have h2:=hv.1;unfold Eg;split
  ·split <;> simp <;> omega
  ·split
   ·simp;omega
   ·split
    ·simp;omega
    ·split <;> simp <;> omega
 | succ d ih=>
  intro v hv l h;have h1:=A6s v.n hv.2.1.1 hv.2.1.2;have h2:=hv.1;unfold Eg;split
  ·split <;> simp <;> omega
  ·split
   ·simp;omega
   ·split
    ·simp;omega
    ·split
     ·refine Av6 (B:=2610+d) _ (fun x hx l' hl'=>ih x ?_ l' hl') _ _ z4qa;cases q:arr[v.r.getD 0]? with
      | none=>rw[q]at hx;cases hx
      | some a=>rw[q]at hx;exact ha a (Gl q) x hx
     ·simp;omega
end
section
set_option maxRecDepth 100000
open Go.Deep (BT)
def Uu:List UInt8:=[102,110,32,102,40,120,41,32,123,32,114,101,116,117,114,110,32,120,32,43,32,120,59,32,125,32,112,114,105,110,116,32,102,40,50,41,59,32,112,114,105,110,116,32,102,40,34,97,34,41,59,32,112,114,105,110,116,32,102,40,51,41,59]
def S0:List Tk:=[⟨4,1,[],0⟩,⟨1,1,[102],0⟩,⟨18,1,[],0⟩,⟨1,1,[120],0⟩,⟨19,1,[],0⟩,⟨20,1,[],0⟩,⟨9,1,[],0⟩,⟨1,1,[120],0⟩,⟨34,1,[],0⟩,⟨1,1,[120],0⟩,⟨25,1,[],0⟩,⟨21,1,[],0⟩,⟨12,1,[],0⟩,⟨1,1,[102],0⟩,⟨18,1,[],0⟩,⟨2,1,[],2⟩,⟨19,1,[],0⟩,⟨25,1,[],0⟩,⟨12,1,[],0⟩,⟨1,1,[102],0⟩,⟨18,1,[],0⟩,⟨3,1,[97],0⟩,⟨19,1,[],0⟩,⟨25,1,[],0⟩,⟨12,1,[],0⟩,⟨1,1,[102],0⟩,⟨18,1,[],0⟩,⟨2,1,[],3⟩,⟨19,1,[],0⟩,⟨25,1,[],0⟩,⟨0,1,[],0⟩]
def Afp:List Aa:=[⟨1,0,0,Bb⟩,⟨1,0,0,Bb⟩,⟨12,0,1,Bb⟩,⟨44,0,0,Bb⟩,⟨43,0,0,Bb⟩]
def fnA:Fn:=⟨[102],1,1,Afp⟩
def Mt:List Aa:=[⟨0,0,0,ofInt 2⟩,⟨42,0,1,Bb⟩,⟨41,0,1,Bb⟩,⟨0,0,0,ofStr [97]⟩,⟨42,0,1,Bb⟩,⟨41,0,1,Bb⟩,⟨0,0,0,ofInt 3⟩,⟨42,0,1,Bb⟩,⟨41,0,1,Bb⟩]
def Nk:C5:=⟨0,0,Mt,[fnA]⟩
def Am0:lex 2001 Uu 1 false=.inr S0:=by kernel_rfl
def An6:Ak 100000 10 0 .nil ⟨S0,0⟩=some (Ry S0,⟨[⟨0,1,[],0⟩],0⟩):=by kernel_rfl
def Amj:nest S0 0=0:=by kernel_rfl
def Ar4:G2 (Cr (Ry S0)) (Ry S0) [] [] (0,0)=(0,0):=by kernel_rfl
def emA:Fo (Ry S0)=Nk:=by kernel_rfl
def Avk:∃c,Gu Uu=((0,0),some c)/\Fo c=Nk:=by
 have hl:Uu.length=63:=by kernel_rfl
 exact⟨_,Avl Uu S0 z4ma (fun f hf=>by rw[Am3 f 2001 _ _ _ hf z4ma,Am0]) An6 Amj Ar4,emA⟩
def Oz(n:Nat):En:=⟨n,none,0,0⟩
def Akd:Md Nk [] 6 (mstart Nk) (K0 (bs 1999 (Oz 1) []) Mt [ofInt (wr (2+2))] [] 2):=fun n=>by kernel_rfl
def Ake(o:List (List UInt8)):Md Nk [] 6 (K0 (bs 1999 (Oz 1) []) Mt [] o 3) (K0 (bs 1998 (Oz 2) []) Mt [ofStr [97,97]] o 5):=fun n=>by kernel_rfl
def Akf(o:List (List UInt8)):Md Nk [] 6 (K0 (bs 1998 (Oz 2) []) Mt [] o 6) (K0 (bs 1997 (Oz 3) []) Mt [ofInt (wr (3+3))] o 8):=fun n=>by kernel_rfl
def Ava(arr:List (List PV))(t:List UInt8):Eg arr 4 [] (ofStr t)=t:=by simp[Eg,ofStr]
def Uw:List (List UInt8):=[[52],[97,97],[54]]
def Aek:∃m',Hi Nk [] 22 (mstart Nk)=some m'/\m'.code=0/\m'.out=Uw:=by
 have i4:Lib.itoa (wr (2+2))=[52]:=by
  have:wr (2+2)=4:=Aah ⟨by decide,by decide⟩;rw[this];simp[Lib.itoa,Lib.decDigits]
 have i6:Lib.itoa (wr (3+3))=[54]:=by
  have:wr (3+3)=6:=Aah ⟨by decide,by decide⟩;rw[this];simp[Lib.itoa,Lib.decDigits]
 have s0:Md Nk [] 1 (K0 (bs 1999 (Oz 1) []) Mt [ofInt (wr (2+2))] [] 2) (K0 (bs 1999 (Oz 1) []) Mt [] ([]++[[52]]) 3):=goP (P:=Nk) (bets:=[]) rfl (show Mt[2]?=some ⟨41,0,1,Bb⟩ from rfl) (A26 (V:=[]) ((A9w _ _).trans i4) z4ra z4ra);have s1:Md Nk [] 1 (K0 (bs 1998 (Oz 2) []) Mt [ofStr [97,97]] ([]++[[52]]) 5) (K0 (bs 1998 (Oz 2) []) Mt [] ([]++[[52]]++[[97,97]]) 6):=goP (P:=Nk) (bets:=[]) rfl (show Mt[5]?=some ⟨41,0,1,Bb⟩ from rfl) (A26 (V:=[]) (Ava _ _) z4ra z4ra);have s2:Md Nk [] 1 (K0 (bs 1997 (Oz 3) []) Mt [ofInt (wr (3+3))] ([]++[[52]]++[[97,97]]) 8) (K0 (bs 1997 (Oz 3) []) Mt [] ([]++[[52]]++[[97,97]]++[[54]]) 9):=goP (P:=Nk) (bets:=[]) rfl (show Mt[8]?=some ⟨41,0,1,Bb⟩ from rfl) (A26 (V:=[]) ((A9w _ _).trans i6) z4ra z4ra);have g:=((((Akd.trans s0).trans (Ake _)).trans s1).trans (Akf _)).trans s2;exact⟨_,g 1,rfl,rfl⟩
end
section
open Go.Deep (BT)
variable {N B k:Nat} {m:MS} {P:C5} {bets:List Cl}
def Akv(hP:Tn B P)(hbt:∀x∈bets,Ly x):∀(n k:Nat) (m m':MS),Inv P.fns.length B k m->Hi P bets n m=some m'->∃k',Inv P.fns.length B k' m':=by
 intro n;induction n with
 | zero=>intro k m m' h e;rw[Hi]at e;cases e
 | succ n ih=>
  intro k m m' h e;rw[Hi]at e;split at e
  ·cases e;exact⟨k,h⟩
  ·split at e
   ·cases e;exact⟨k,h⟩
   ·rename_i i hi;exact ih _ _ _ (h.step rfl hP hbt i (Gl hi)) e
end
section
open Go.Deep (BT)
def Ei(e:Em)(p o:Nat):Prop:=∃i,e.st[p]?=some i/\i.op=o
def R4(P:C5)(x:List Kn)(i:Aa):Prop:=0<=Dv P i/\Dv P i<=(x.length:Nat)
def JA(us:List (List Kn))(p:Nat)(i:Aa):Prop:=F2 i.op->∃x y,us[p]?=some x/\us[i.arg.toNat]?=some y/\(i.op=6->x=[]/\y=[])/\(i.op=7\/i.op=8->x.length=1/\y=[])/\(i.op=9\/i.op=10->x≠[]/\y=x.dropLast++[Dh 1])
def Ts(n:Nat)(i:Aa):Prop:=i.op=1\/i.op=3->0<=i.arg/\i.arg<n
def NJ(o:Nat):Prop:=¬F2 o/\o≠1/\o≠3
def nk{o:Nat}(h:o=0\/o=2\/o=4\/o=5\/10<o):NJ o:=⟨nj z4ma,by omega,by omega⟩
structure GA (P : C5) (ps : List Kn) (us : List (List Kn)) (a : List Kn) (Q : Nat -> Prop) (e : Em) : Prop where
 len:us.length=e.st.length+1
 top:us[e.st.length]?=some a
 sq:∀p i,e.st[p]?=some i->∃x,us[p]?=some x/\us[p+1]?=some (follow P ps x i)/\R4 P x i
 jm:∀p i,e.st[p]?=some i->JA us p i\/Q p\/∃x∈e.lps,p∈x.2
 lp:∀x∈e.lps,us[x.1]?=some []/\∀j∈x.2,j+1<us.length/\us[j]?=some []/\Ei e j 6
 ls:e.loc.length<=e.slots
 sl:∀(p:Nat) (i:Aa),e.st[p]?=some i->Ts e.slots i
variable {P:C5} {ps:List Kn} {us:List (List Kn)} {a:List Kn} {Q:Nat->Prop} {e:Em}
def Gq{α:Type}{l m:List α}{p:Nat}{x:α}(h:l[p]?=some x):(l++m)[p]?=some x:=by
 obtain⟨h1,_⟩:=K4.1 h;rw[Ou h1];exact h
def Ei.app{p o:Nat}(h:Ei e p o)(loc:List Nm)(slots:Nat)(is:List Aa)(lps:List (Nat×List Nat)):Ei ⟨loc,slots,e.st++is,lps⟩ p o:=by
 obtain⟨i,h1,h2⟩:=h;exact⟨i,Gq h1,h2⟩
def z4ba {P:Prop} (h:P:=by
  rw[Ri];split
  ·rename_i q;rw[←q,h1];exact⟨_,rfl,h2⟩
  ·exact⟨i,h1,h2⟩):P:=h
def Ei.land{p o j:Nat}(h:Ei e p o):Ei (e.land j) p o:=by
 obtain⟨i,h1,h2⟩:=h;show ∃i,(Gy j (e.st.length:Nat) e.st)[p]?=some i/\i.op=o;exact z4ba
def Ei.new(e:Em)(o:Nat)(v:Int)(ln:Nat):Ei (e.step o v ln) e.st.length o:=⟨⟨o,v,ln,Bb⟩,by show(e.st++[_])[e.st.length]?=_;simp,rfl⟩
def GA.same{e':Em}(h:GA P ps us a Q e)(h1:e'.st=e.st)(h2:e'.lps=e.lps)(h3:e'.loc.length<=e'.slots)(h4:e.slots<=e'.slots):GA P ps us a Q e':=by
 have ho:∀{p o},Ei e p o->Ei e' p o:=fun q=>by unfold Ei at *;rw[h1];exact q
 refine⟨by rw[h1];exact h.len,by rw[h1];exact h.top,by rw[h1];exact h.sq,by rw[h1,h2];exact h.jm,by rw[h2];exact fun x hx=>⟨(h.lp x hx).1,fun j hj=>⟨((h.lp x hx).2 j hj).1,((h.lp x hx).2 j hj).2.1,ho ((h.lp x hx).2 j hj).2.2⟩⟩,h3,by rw[h1];exact fun p i hp q=>⟨(h.sl p i hp q).1,by have:=(h.sl p i hp q).2;omega⟩⟩
def GA.add(h:GA P ps us a Q e)(i0:Aa){a':List Kn}(ha:follow P ps a i0=a')(Q':Nat->Prop)(loc:List Nm)(slots:Nat)(lps':List (Nat×List Nat))(htk:R4 P a i0)(hls:loc.length<=slots)(hsl:e.slots<=slots)(It:Ts slots i0)(hQ:∀p,Q p->Q' p)
  (hL:∀p,(∃x∈e.lps,p∈x.2)->∃x∈lps',p∈x.2) (hj:JA (us++[a']) e.st.length i0\/Q' e.st.length\/∃x∈lps',e.st.length∈x.2)
  (hlp:∀x∈lps',(us++[a'])[x.1]?=some []/\∀j∈x.2,j+1<us.length+1/\(us++[a'])[j]?=some []/\Ei ⟨loc,slots,e.st++[i0],lps'⟩ j 6):GA P ps (us++[a']) a' Q' ⟨loc,slots,e.st++[i0],lps'⟩:=by
 have hn:=h.len;have htop:(us++[a'])[e.st.length+1]?=some a':=by rw[←hn];simp
 have split:∀{p i},(e.st++[i0])[p]?=some i->e.st[p]?=some i\/(p=e.st.length/\i=i0):=by
  intro p i hp;rcases N2 p e.st.length with q|q
  ·rw[Ou q]at hp;exact .inl hp
  ·exact z28a
 refine⟨by simp;omega,by simpa using htop,fun p i hp=>?_,fun p i hp=>?_,fun x hx=>⟨(hlp x hx).1,fun j hj=>⟨by have:=((hlp x hx).2 j hj).1;simp;omega,((hlp x hx).2 j hj).2⟩⟩,hls,fun p i hp=>?_⟩
 ·rcases split hp with q|⟨rfl,rfl⟩
  ·obtain⟨x,h1,h2,h3⟩:=h.sq p i q;exact⟨x,Gq h1,Gq h2,h3⟩
  ·exact⟨a,Gq h.top,by rw[ha];exact htop,htk⟩
 ·rcases split hp with q|⟨rfl,rfl⟩
  ·rcases h.jm p i q with r|r|r
   ·refine .inl fun hj=>?_;obtain⟨x,y,r1,r2,r3⟩:=r hj;exact⟨x,y,Gq r1,Gq r2,r3⟩
   ·exact .inr (.inl (hQ p r))
   ·exact .inr (.inr (hL p r))
  ·exact hj
 ·rcases split hp with q|⟨rfl,rfl⟩
  ·exact fun k=>⟨(h.sl p i q k).1,by have:=(h.sl p i q k).2;show i.arg<(slots:Int);omega⟩
  ·exact It
def GA.W9(h:GA P ps us a Q e)(a':List Kn)(i0:Aa)(loc:List Nm)(slots:Nat):∀x∈e.lps,(us++[a'])[x.1]?=some []/\∀j∈x.2,j+1<us.length+1/\(us++[a'])[j]?=some []/\Ei ⟨loc,slots,e.st++[i0],e.lps⟩ j 6:=
 fun x hx=>⟨Gq (h.lp x hx).1,fun j hj=>⟨by have:=((h.lp x hx).2 j hj).1;omega,Gq ((h.lp x hx).2 j hj).2.1,((h.lp x hx).2 j hj).2.2.app _ _ _ _⟩⟩
def GA.op(h:GA P ps us a Q e)(i0:Aa)(hn:¬F2 i0.op)(hs:Ts e.slots i0){a':List Kn}(ha:follow P ps a i0=a')(htk:R4 P a i0):GA P ps (us++[a']) a' Q ⟨e.loc,e.slots,e.st++[i0],e.lps⟩:=
 h.add i0 ha Q _ _ _ htk h.ls (Af _) hs (fun _ q=>q) (fun _ q=>q) (.inl fun q=>absurd q hn) (h.W9 a' i0 _ _)
def GA.Rs(h:GA P ps us a Q e)(o ln:Nat)(ho:4<=o){a':List Kn}(ha:follow P ps a ⟨o,0,ln,Bb⟩=a')(htk:R4 P a ⟨o,0,ln,Bb⟩):GA P ps (us++[a']) a' (fun p=>Q p\/p=e.st.length) (e.step o 0 ln):=
 h.add ⟨o,0,ln,Bb⟩ ha _ _ _ _ htk h.ls (Af _) (fun q=>by dsimp only at q;omega) (fun _ q=>.inl q) (fun _ q=>q) (.inr (.inl (.inr rfl))) (h.W9 a' _ _ _)
def z2na {P:Prop} (h:P:=by
  dsimp only;repeat' split
  all_goals first|rfl|omega):P:=h
def Ajn{i:Aa}(h:F2 i.op)(v:Int)(x:List Kn):follow P ps x ⟨i.op,v,i.line,i.v⟩=follow P ps x i/\Dv P ⟨i.op,v,i.line,i.v⟩=Dv P i:=by
 unfold F2 at h;have ht:Dv P ⟨i.op,v,i.line,i.v⟩=Dv P i:=by
  unfold Dv;exact z2na
 have hg:Hu ps x ⟨i.op,v,i.line,i.v⟩=Hu ps x i:=by
  unfold Hu Mi;exact z2na
 exact⟨by unfold follow;rw[ht,hg],ht⟩
def GA.land{Q':Nat->Prop}(h:GA P ps us a Q' e){j:Nat}{x:List Kn}{o:Nat}(hj:us[j]?=some x)(ho:Ei e j o)(hJ:F2 o)(hx:(o=6->x=[]/\a=[])/\(o=7\/o=8->x.length=1/\a=[])/\(o=9\/o=10->x≠[]/\a=x.dropLast++[Dh 1]))(hQ:∀p,Q' p->Q p\/p=j):GA P ps us a Q (e.land j):=by
 have hlen:(Gy j (e.st.length:Nat) e.st).length=e.st.length:=Sy _ _ _;obtain⟨i0,q1,q2⟩:=ho;refine⟨by show us.length=(Gy j (e.st.length:Nat) e.st).length+1;rw[hlen];exact h.len,by show us[(Gy j (e.st.length:Nat) e.st).length]?=_;rw[hlen];exact h.top,fun p i hp=>?_,fun p i hp=>?_,fun x hx=>⟨(h.lp x hx).1,fun k hk=>⟨((h.lp x hx).2 k hk).1,((h.lp x hx).2 k hk).2.1,((h.lp x hx).2 k hk).2.2.land⟩⟩,h.ls,fun p i hp=>?_⟩
 ·have hp:(Gy j (e.st.length:Nat) e.st)[p]?=some i:=hp;rw[Ri]at hp;split at hp
  ·rename_i hpj;subst hpj;rw[q1]at hp;cases hp;obtain⟨x,k1,k2,k3⟩:=h.sq p i0 q1;have fj:=Ajn (P:=P) (ps:=ps) (i:=i0) (by rw[q2];exact hJ) ((e.st.length:Nat):Int) x;exact⟨x,k1,by rw[fj.1];exact k2,by unfold R4 at *;rw[fj.2];exact k3⟩
  ·exact h.sq p i hp
 ·have hp:(Gy j (e.st.length:Nat) e.st)[p]?=some i:=hp;rw[Ri]at hp;split at hp
  ·rename_i hpj;subst hpj;rw[q1]at hp;cases hp;refine .inl fun _=>⟨x,a,hj,?_,?_⟩
   ·show us[((e.st.length:Nat):Int).toNat]?=_;rw[O8];exact h.top
   ·show(i0.op=6->_)/\(i0.op=7\/i0.op=8->_)/\(i0.op=9\/i0.op=10->_);rw[q2];exact hx
  ·exact z2ea
 ·have hp:(Gy j (e.st.length:Nat) e.st)[p]?=some i:=hp;rw[Ri]at hp;split at hp
  ·rename_i hpj;subst hpj;rw[q1]at hp;cases hp;intro k;dsimp only at k;unfold F2 at hJ;omega
  ·exact h.sl p i hp
def z51a {P:Prop} (h:P:=by unfold F2;omega):P:=h
def GA.E7:∀(bs:List Nat) (e:Em),(∀j∈bs,us[j]?=some []/\Ei e j 6)->GA P ps us [] (fun p=>Q p\/p∈bs) e->GA P ps us [] Q (e.E7 bs)/\∀p o,Ei e p o->Ei (e.E7 bs) p o:=by
 intro bs;induction bs with
 | nil=>intro e _ h;exact⟨⟨h.len,h.top,h.sq,fun p i hp=>(h.jm p i hp).imp id (fun q=>q.imp (fun q=>q.elim id (fun q=>by cases q)) id),h.lp,h.ls,h.sl⟩,fun _ _ q=>q⟩
 | cons j r ih=>
  intro e hb h;obtain⟨q2,q3⟩:=hb j z4ra;rw[Em.E7];obtain⟨k1,k2⟩:=ih _ (fun i hi=>⟨(hb i (by simp[hi])).1,(hb i (by simp[hi])).2.land⟩) (h.land (Q:=fun p=>Q p\/p∈r) q2 q3 z51a ⟨fun _=>⟨rfl,rfl⟩,fun q=>by omega,fun q=>by omega⟩ (fun p hp=>by
   rcases hp with hp|hp
   ·exact .inl (.inl hp)
   ·rcases L9.1 hp with hp|hp
    ·exact .inr hp
    ·exact .inl (.inr hp)))
  exact⟨k1,fun p o q=>k2 p o q.land⟩
def Cv(gl v loc:List Nm):Prop:=∀s∈v,s∈loc\/s∈gl
def Dt(P:C5)(ps:List Kn)(gl v:List Nm)(n:Nat)(f:Em->Em):Prop:=∀us a Q e,Cv gl v e.loc->GA P ps us a Q e->(f e).loc=e.loc/\∃us' ks,ks.length=n/\GA P ps (us++us') (a++ks) Q (f e)/\∀p o,Ei e p o->Ei (f e) p o
def Fl(P:C5)(ps:List Kn)(gl v v':List Nm)(f:Em->Em):Prop:=∀us Q e,Cv gl v e.loc->GA P ps us [] Q e->(Cv gl v' (f e).loc/\∃w,(f e).loc=e.loc++w)/\∃us',GA P ps (us++us') [] Q (f e)/\∀p o,Ei e p o->Ei (f e) p o
variable {gl v v1 v2:List Nm} {n n1 n2:Nat} {f f1 f2 f3:Em->Em}
def Dt.eq{g:Em->Em}(h:Dt P ps gl v n f)(q:∀x,g x=f x):Dt P ps gl v n g:=by
 have:g=f:=funext q;rw[this];exact h
def Fl.eq{g:Em->Em}(h:Fl P ps gl v v1 f)(q:∀x,g x=f x):Fl P ps gl v v1 g:=by
 have:g=f:=funext q;rw[this];exact h
def Dt.Kl:Dt P ps gl v 0 (fun e=>e):=fun _ _ _ _ _ h=>⟨rfl,[],[],rfl,by rw[Lx,Lx];exact h,fun _ _ q=>q⟩
def Dt.comp(h1:Dt P ps gl v n1 f1)(h2:Dt P ps gl v n2 f2):Dt P ps gl v (n1+n2) (fun e=>f2 (f1 e)):=fun us a Q e hv h=>by
 obtain⟨e1,s1,k1,l1,g1,o1⟩:=h1 us a Q e hv h;obtain⟨e2,s2,k2,l2,g2,o2⟩:=h2 _ _ _ _ (by rw[e1];exact hv) g1;exact⟨by rw[e2,e1],s1++s2,k1++k2,by simp;omega,by rw[←Gv,←Gv];exact g2,fun p o q=>o2 p o (o1 p o q)⟩
def Fl.Kl:Fl P ps gl v v (fun e=>e):=fun _ _ _ hv h=>⟨⟨hv,[],by simp⟩,[],by rw[Lx];exact h,fun _ _ q=>q⟩
def Fl.comp(h1:Fl P ps gl v v1 f1)(h2:Fl P ps gl v1 v2 f2):Fl P ps gl v v2 (fun e=>f2 (f1 e)):=fun us Q e hv h=>by
 obtain⟨⟨e1,w1,d1⟩,s1,g1,o1⟩:=h1 us Q e hv h;obtain⟨⟨e2,w2,d2⟩,s2,g2,o2⟩:=h2 _ _ _ e1 g1;exact⟨⟨e2,w1++w2,by rw[d2,d1,Gv]⟩,s1++s2,by rw[←Gv];exact g2,fun p o q=>o2 p o (o1 p o q)⟩
def Fl.cut(h:Fl P ps gl v v1 f):Fl P ps gl v v (fun e=>(f e).cut e.loc.length):=fun us Q e hv hG=>by
 obtain⟨⟨_,w,d⟩,s1,g1,o1⟩:=h us Q e hv hG;have hl:((f e).cut e.loc.length).loc=e.loc:=by show(f e).loc.take e.loc.length=_;rw[d];simp
 exact⟨⟨by rw[hl];exact hv,[],by rw[hl];simp⟩,s1,g1.same rfl rfl (by rw[hl];have:=g1.ls;rw[d]at this;simp at this;show _<=(f e).slots;omega) (Af _),o1⟩
def Ss(x:List Kn)(i:Aa)(t:Nat)(ht:Dv P i=(t:Nat)):follow P ps x i=(if x.length<t then x else x.take (x.length-t))++(Hu ps x i).toList:=by
 unfold follow Of;rw[ht];have:(if((x.length:Nat):Int)-((t:Nat):Int)<0 then x else x.take (((x.length:Nat):Int)-((t:Nat):Int)).toNat)=(if x.length<t then x else x.take (x.length-t)):=by
  by_cases h:x.length<t
  ·rw[Mn,A7 h]
  ·rw[Ai,A1 h,show(((x.length:Nat):Int)-((t:Nat):Int)).toNat=x.length-t by omega]
 rw[this];cases Hu ps x i <;> simp
def Dt.at1(h:Dt P ps gl v n f)(hv:Cv gl v e.loc)(hG:GA P ps us a Q e)(i:Aa)(hn:¬F2 i.op)(hs:(f e).loc.length<=(f e).slots->Ts (f e).slots i)(ht:Dv P i=(n:Nat))(hg:∀x,∃k,Hu ps x i=some k):(f e).loc=e.loc/\∃us' ks,ks.length=1/\GA P ps (us++us') (a++ks) Q ⟨(f e).loc,(f e).slots,(f e).st++[i],(f e).lps⟩/\∀p o,Ei e p o->Ei ⟨(f e).loc,(f e).slots,(f e).st++[i],(f e).lps⟩ p o:=by
 obtain⟨e1,s1,k1,l1,g1,o1⟩:=h us a Q e hv hG;obtain⟨k,hk⟩:=hg (a++k1);have hf:follow P ps (a++k1) i=a++[k]:=by
  rw[Ss _ _ n ht,hk,A1 z4qa];have:(a++k1).length-n=a.length:=by simp;omega
  rw[this];simp
 exact⟨e1,s1++[a++[k]],[k],rfl,by rw[←Gv];exact g1.op i hn (hs g1.ls) hf ⟨by rw[ht];omega,by rw[ht];simp;omega⟩,fun p o q=>(o1 p o q).app _ _ _ _⟩
def Dt.at0(h:Dt P ps gl v n f)(hv:Cv gl v e.loc)(hG:GA P ps us [] Q e)(i:Aa)(hn:¬F2 i.op)(hs:(f e).loc.length<=(f e).slots->Ts (f e).slots i)(ht:Dv P i=(n:Nat))(hg:∀x,Hu ps x i=none):(f e).loc=e.loc/\∃us',GA P ps (us++us') [] Q ⟨(f e).loc,(f e).slots,(f e).st++[i],(f e).lps⟩/\∀p o,Ei e p o->Ei ⟨(f e).loc,(f e).slots,(f e).st++[i],(f e).lps⟩ p o:=by
 obtain⟨e1,s1,k1,l1,g1,o1⟩:=h us [] Q e hv hG;have hf:follow P ps ([]++k1) i=[]:=by
  rw[Ss _ _ n ht,hg,A1 z4qa];have:([]++k1:List Kn).length-n=0:=by simp;omega
  rw[this];simp
 exact⟨e1,s1++[[]],by rw[←Gv];exact g1.op i hn (hs g1.ls) hf ⟨by rw[ht];omega,by rw[ht];simp;omega⟩,fun p o q=>(o1 p o q).app _ _ _ _⟩
def Dt.one(h:Dt P ps gl v n f)(i:Em->Aa)(hn:∀e,NJ (i e).op)(ht:∀e,Dv P (i e)=(n:Nat))(hg:∀e x,∃k,Hu ps x (i e)=some k):Dt P ps gl v 1 (fun e=>⟨(f e).loc,(f e).slots,(f e).st++[i e],(f e).lps⟩):=fun _ _ _ e hv hG=>h.at1 hv hG (i e) (hn e).1 (fun _ q=>by have:=(hn e).2;omega) (ht e) (hg e)
def z3ha {P:Prop} (h:P:=by
  exact⟨⟨by show Cv gl v (f e).loc;rw[e1];exact hv,[],by show(f e).loc=_;rw[e1];simp⟩,h1⟩):P:=h
def Dt.drop(h:Dt P ps gl v n f)(i:Em->Aa)(hn:∀e,NJ (i e).op)(ht:∀e,Dv P (i e)=(n:Nat))(hg:∀e x,Hu ps x (i e)=none):Fl P ps gl v v (fun e=>⟨(f e).loc,(f e).slots,(f e).st++[i e],(f e).lps⟩):=fun _ _ e hv hG=>by
 obtain⟨e1,h1⟩:=h.at0 hv hG (i e) (hn e).1 (fun _ q=>by have:=(hn e).2;omega) (ht e) (hg e);exact z3ha
end
section
open Go.Deep (BT)
variable {P:C5} {ps:List Kn} {gl v v1:List Nm} {n:Nat} {f f1 f2 f3:Em->Em}
def A9p{o:Nat}(ho:o=7\/o=8\/o=9\/o=10)(v:Int)(ln:Nat)(w:PV):Dv P ⟨o,v,ln,w⟩=(1:Nat):=by
 unfold Dv;exact z2na
def A1b{o:Nat}(ho:F2 o)(v:Int)(ln:Nat)(w:PV)(x:List Kn):Hu ps x ⟨o,v,ln,w⟩=none:=by
 unfold F2 at ho;unfold Hu;exact z2na
def A19{o:Nat}(ho:o=7\/o=8\/o=9\/o=10)(v:Int)(ln:Nat)(a ks:List Kn)(hk:ks.length=1):follow P ps (a++ks) ⟨o,v,ln,Bb⟩=a/\R4 P (a++ks) ⟨o,v,ln,Bb⟩:=by
 have ht:=A9p (P:=P) ho v ln Bb;refine⟨?_,by rw[ht];omega,by rw[ht];simp;omega⟩;rw[Ss _ _ 1 ht,A1b z51a,A1 (by rw[Ds];omega)];have:(a++ks).length-1=a.length:=by simp;omega
 rw[this];simp
def Y6(v:Int)(x:List Kn):follow P ps x ⟨6,v,0,Bb⟩=x/\R4 P x ⟨6,v,0,Bb⟩:=by
 have ht:Dv P ⟨6,v,0,Bb⟩=(0:Nat):=rfl;refine⟨?_,by rw[ht];exact Int.le_refl _,by rw[ht];exact Int.natCast_nonneg _⟩;rw[Ss _ _ 0 ht,A1b z51a,Ai];simp
def Dt.bool(h1:Dt P ps gl v 1 f1)(h2:Dt P ps gl v 1 f2)(o line:Nat)(ho:o=9\/o=10):Dt P ps gl v 1 (fun e=>((f2 ((f1 e).step o 0 line)).step 11 0 line).land (f1 e).st.length):=by
 intro us a Q e hv h;obtain⟨e1,s1,k1,l1,g1,o1⟩:=h1 us a Q e hv h;obtain⟨t1,t2⟩:=A19 (P:=P) (ps:=ps) (show o=7\/o=8\/o=9\/o=10 by omega) 0 line a k1 l1;obtain⟨e2,s2,k2,l2,g2,o2⟩:=h2 _ _ _ ((f1 e).step o 0 line) (show Cv gl v (f1 e).loc by rw[e1];exact hv) (g1.Rs o line z4ma t1 t2);have ht:Dv P ⟨11,0,line,Bb⟩=(1:Nat):=rfl;have hf:follow P ps (a++k2) ⟨11,0,line,Bb⟩=a++[Dh 1]:=by
  rw[Ss _ _ 1 ht,A1 (by rw[Ds];omega)];have:(a++k2).length-1=a.length:=by simp;omega
  rw[this,Tj];rfl
 have g3:=g2.op ⟨11,0,line,Bb⟩ (show ¬F2 11 from nj (.inr z4ma)) (fun q=>by dsimp only at q;omega) hf ⟨by rw[ht];omega,by rw[ht];simp;omega⟩;have hx:(us++s1++[a]++s2++[a++[Dh 1]])[(f1 e).st.length]?=some (a++k1):=Gq (Gq (Gq g1.top));refine⟨e2.trans e1,s1++[a]++s2++[a++[Dh 1]],[Dh 1],rfl,?_,fun p q hp=>Ei.land (Ei.app (o2 p q (Ei.app (o1 p q hp) _ _ _ _)) _ _ _ _)⟩;have e1:us++(s1++[a]++s2++[a++[Dh 1]])=us++s1++[a]++s2++[a++[Dh 1]]:=by simp
 rw[e1];have hk:k1≠[]:=by intro q;rw[q]at l1;cases l1
 refine g3.land hx (Ei.app (o2 _ _ (Ei.new (f1 e) o 0 line)) _ _ _ _) z51a ⟨fun q=>by omega,fun q=>by omega,fun _=>⟨by simp[hk],?_⟩⟩ (fun p hp=>hp);have:(a++k1).dropLast=a:=by
  obtain⟨k,rfl⟩:=Aay.1 l1;simp
 rw[this]
def Fl.cond(h1:Dt P ps gl v 1 f1)(h2:Fl P ps gl v v f2)(h3:Fl P ps gl v v f3)(line:Nat):Fl P ps gl v v (fun e=>(f3 (((f2 ((f1 e).step 8 0 line)).step 6 0 0).land (f1 e).st.length)).land (f2 ((f1 e).step 8 0 line)).st.length):=by
 intro us Q e hv h;obtain⟨e1,s1,k1,l1,g1,o1⟩:=h1 us [] Q e hv h;obtain⟨t1,t2⟩:=A19 (P:=P) (ps:=ps) (show 8=7\/8=8\/8=9\/8=10 by omega) 0 line [] k1 l1;obtain⟨⟨v2,w2,d2⟩,s2,g2,o2⟩:=h2 _ _ ((f1 e).step 8 0 line) (show Cv gl v (f1 e).loc by rw[e1];exact hv) (g1.Rs 8 line z4ma t1 t2);obtain⟨t3,t4⟩:=Y6 (P:=P) (ps:=ps) 0 [];have g3:=g2.Rs 6 0 z4ma t3 t4;have g4:=g3.land (Q:=fun p=>Q p\/p=(f2 ((f1 e).step 8 0 line)).st.length) (j:=(f1 e).st.length) (x:=[]++k1) (o:=8) (Gq (Gq (Gq g1.top))) (Ei.app (o2 _ _ (Ei.new (f1 e) 8 0 line)) _ _ _ _) z51a ⟨fun q=>by omega,fun _=>⟨by simpa using l1,rfl⟩,fun q=>by omega⟩ (fun p hp=>by
  rcases hp with(hp|hp)|hp
  ·exact .inl (.inl hp)
  ·exact .inr hp
  ·exact .inl (.inr hp))
 obtain⟨⟨v3,w3,d3⟩,s3,g5,o3⟩:=h3 _ _ (((f2 ((f1 e).step 8 0 line)).step 6 0 0).land (f1 e).st.length) v2 g4;refine⟨⟨v3,w2++w3,d3.trans (by rw[show((((f2 ((f1 e).step 8 0 line)).step 6 0 0).land (f1 e).st.length)).loc=(f1 e).loc++w2 from d2,e1,Gv])⟩,s1++[[]]++s2++[[]]++s3,?_,fun p q hp=>Ei.land (o3 p q (Ei.land (Ei.app (o2 p q (Ei.app (o1 p q hp) _ _ _ _)) _ _ _ _)))⟩;have e1:us++(s1++[[]]++s2++[[]]++s3)=us++s1++[[]]++s2++[[]]++s3:=by simp
 rw[e1];exact g5.land (x:=[]) (o:=6) (Gq (Gq g2.top)) (o3 _ _ (Ei.land (Ei.new _ 6 0 0))) z51a ⟨fun _=>⟨rfl,rfl⟩,fun q=>by omega,fun q=>by omega⟩ (fun p hp=>hp)
def Fl.while(h1:Dt P ps gl v 1 f1)(h2:Fl P ps gl v v f2)(line:Nat):Fl P ps gl v v (fun e=>(Em.E7 (((f2 ((f1 e.open').step 7 0 line)).step 6 (e.st.length:Nat) 0).land (f1 e.open').st.length).Kv (((f2 ((f1 e.open').step 7 0 line)).step 6 (e.st.length:Nat) 0).land (f1 e.open').st.length)).close):=by
 intro us Q e hv h;dsimp only[];have g0:GA P ps us [] Q e.open':=by
  refine⟨h.len,h.top,h.sq,fun p i hp=>(h.jm p i hp).imp id (fun q=>q.imp id (fun⟨x,hx,q⟩=>⟨x,Sb _ hx,q⟩)),fun x hx=>?_,h.ls,h.sl⟩;rcases L9.1 hx with rfl|hx
  ·exact⟨h.top,fun j hj=>by cases hj⟩
  ·exact h.lp x hx
 obtain⟨e1,s1,k1,l1,g1,o1⟩:=h1 us [] Q e.open' hv g0;obtain⟨t1,t2⟩:=A19 (P:=P) (ps:=ps) (show 7=7\/7=8\/7=9\/7=10 by omega) 0 line [] k1 l1;obtain⟨⟨v2,w2,d2⟩,s2,g2,o2⟩:=h2 _ _ ((f1 e.open').step 7 0 line) (show Cv gl v (f1 e.open').loc by rw[e1];exact hv) (g1.Rs 7 line z4ma t1 t2);obtain⟨t3,t4⟩:=Y6 (P:=P) (ps:=ps) ((e.st.length:Nat):Int) [];have g3:GA P ps (us++s1++[[]]++s2++[[]]) [] (fun p=>Q p\/p=(f1 e.open').st.length) ((f2 ((f1 e.open').step 7 0 line)).step 6 (e.st.length:Nat) 0):=by
  refine g2.add ⟨6,(e.st.length:Nat),0,Bb⟩ t3 _ _ _ _ t4 g2.ls (Af _) (fun q=>by dsimp only at q;omega) (fun _ q=>q) (fun _ q=>q) (.inl fun _=>⟨[],[],Gq g2.top,?_,fun _=>⟨rfl,rfl⟩,fun q=>by dsimp only at q;omega,fun q=>by dsimp only at q;omega⟩) (g2.W9 [] _ _ _);show(us++s1++[[]]++s2++[[]])[((e.st.length:Nat):Int).toNat]?=_;rw[O8];exact Gq (Gq (Gq (Gq h.top)))
 have g4:=g3.land (Q:=Q) (j:=(f1 e.open').st.length) (x:=[]++k1) (o:=7) (Gq (Gq (Gq g1.top))) (Ei.app (o2 _ _ (Ei.new (f1 e.open') 7 0 line)) _ _ _ _) z51a ⟨fun q=>by omega,fun _=>⟨by simpa using l1,rfl⟩,fun q=>by omega⟩ (fun p hp=>hp);have o4:∀p q,Ei e p q->Ei (((f2 ((f1 e.open').step 7 0 line)).step 6 (e.st.length:Nat) 0).land (f1 e.open').st.length) p q:=fun p q hp=>Ei.land (Ei.app (o2 p q (Ei.app (o1 p q hp) _ _ _ _)) _ _ _ _);have d4:Cv gl v (((f2 ((f1 e.open').step 7 0 line)).step 6 (e.st.length:Nat) 0).land (f1 e.open').st.length).loc/\∃w,(((f2 ((f1 e.open').step 7 0 line)).step 6 (e.st.length:Nat) 0).land (f1 e.open').st.length).loc=e.loc++w:=⟨v2,w2,by rw[show(((f2 ((f1 e.open').step 7 0 line)).step 6 (e.st.length:Nat) 0).land (f1 e.open').st.length).loc=(f1 e.open').loc++w2 from d2,e1];rfl⟩;generalize ((f2 ((f1 e.open').step 7 0 line)).step 6 (e.st.length:Nat) 0).land (f1 e.open').st.length=d at *;have ee:us++(s1++[[]]++s2++[[]])=us++s1++[[]]++s2++[[]]:=by simp
 cases hq:d.lps with
 | nil=>
  have hb:d.Kv=[]:=by unfold Em.Kv;rw[hq]
  refine⟨by rw[hb];exact d4,s1++[[]]++s2++[[]],?_,fun p q hp=>by rw[hb];exact o4 p q hp⟩;rw[ee,hb];exact⟨g4.len,g4.top,g4.sq,fun p i hp=>(g4.jm p i hp).imp id (fun q=>q.imp id (fun⟨x,hx,_⟩=>by rw[hq]at hx;cases hx)),fun x hx=>(by change x∈d.lps.tail at hx;rw[hq]at hx;cases hx),g4.ls,g4.sl⟩
 | cons x r=>
  have hbr:d.Kv=x.2:=by unfold Em.Kv;rw[hq]
  have gl:=(g4.lp x z6ia).2;have g5:GA P ps (us++s1++[[]]++s2++[[]]) [] (fun p=>Q p\/p∈x.2) d.close:=by
   refine⟨g4.len,g4.top,g4.sq,fun p i hp=>?_,fun y hy=>g4.lp y (A3d hy),g4.ls,g4.sl⟩;rcases g4.jm p i hp with q|q|⟨y,hy,q⟩
   ·exact .inl q
   ·exact .inr (.inl (.inl q))
   ·rw[hq]at hy;rcases L9.1 hy with rfl|hy
    ·exact .inr (.inl (.inr q))
    ·exact .inr (.inr ⟨y,by show y∈d.lps.tail;rw[hq];exact hy,q⟩)
  obtain⟨g6,o6⟩:=GA.E7 x.2 d.close (fun j hj=>⟨(gl j hj).2.1,(gl j hj).2.2⟩) g5;refine⟨by rw[show((Em.E7 d.Kv d).close).loc=d.loc from W5 _ _];exact d4,s1++[[]]++s2++[[]],by rw[ee,hbr,A1l];exact g6,fun p q hp=>by rw[hbr,A1l];exact o6 p q (o4 p q hp)⟩
def Fl.Ip:Fl P ps gl v v Em.Ip:=by
 intro us Q e hv h;unfold Em.Ip;cases hq:e.lps with
 | nil=>exact⟨⟨hv,[],by simp⟩,[],by rw[Lx];exact h,fun _ _ q=>q⟩
 | cons x r=>
  obtain⟨s,bs⟩:=x;obtain⟨t3,t4⟩:=Y6 (P:=P) (ps:=ps) 0 [];have hl:=h.len;have hx:=h.lp (s,bs) z6ia;refine⟨⟨hv,[],by simp⟩,[[]],h.add ⟨6,0,0,Bb⟩ t3 Q e.loc e.slots ((s,bs++[e.st.length])::r) t4 h.ls (Af _) (fun q=>by dsimp only at q;omega) (fun _ q=>q) (fun p hp=>?_) (.inr (.inr ⟨_,Q0,by simp⟩)) (fun y hy=>?_),fun p q hp=>hp.app _ _ _ _⟩
  ·obtain⟨y,hy,hp⟩:=hp;rw[hq]at hy;rcases L9.1 hy with rfl|hy
   ·exact⟨_,Q0,by simp at hp ⊢;exact .inl hp⟩
   ·exact⟨y,Sb _ hy,hp⟩
  ·rcases L9.1 hy with rfl|hy
   ·refine⟨Gq hx.1,fun j hj=>?_⟩;rcases Jp.1 hj with hj|hj
    ·exact⟨by have:=(hx.2 j hj).1;omega,Gq (hx.2 j hj).2.1,(hx.2 j hj).2.2.app _ _ _ _⟩
    ·rw[Lb.1 hj];refine⟨by omega,Gq h.top,?_⟩;obtain⟨i,q1,q2⟩:=Ei.new e 6 0 0;exact⟨i,q1,q2⟩
   ·have:=h.lp y (by rw[hq];simp[hy]);exact⟨Gq this.1,fun j hj=>⟨by have:=(this.2 j hj).1;omega,Gq (this.2 j hj).2.1,(this.2 j hj).2.2.app _ _ _ _⟩⟩
def Fl.cnt:Fl P ps gl v v Em.cnt:=by
 intro us Q e hv h;unfold Em.cnt;cases hq:e.lps with
 | nil=>exact⟨⟨hv,[],by simp⟩,[],by rw[Lx];exact h,fun _ _ q=>q⟩
 | cons x r=>
  obtain⟨s,bs⟩:=x;obtain⟨t3,t4⟩:=Y6 (P:=P) (ps:=ps) ((s:Nat):Int) [];have hx:=h.lp (s,bs) z6ia;refine⟨⟨hv,[],by simp[Em.step]⟩,[[]],h.add ⟨6,(s:Nat),0,Bb⟩ t3 Q e.loc e.slots e.lps t4 h.ls (Af _) (fun q=>by dsimp only at q;omega) (fun _ q=>q) (fun p hp=>hp) (.inl fun _=>⟨[],[],Gq h.top,?_,fun _=>⟨rfl,rfl⟩,fun q=>by dsimp only at q;omega,fun q=>by dsimp only at q;omega⟩) (h.W9 [] _ _ _),fun p q hp=>hp.app _ _ _ _⟩;show(us++[[]])[((s:Nat):Int).toNat]?=_;rw[O8];exact Gq hx.1
end
section
open Go.Deep (BT)
def Gp(m:MS):Fr×List Fr×Nat×List En×Nat:=(m.now,m.calls,m.fuel,m.lots,m.gl.length)
variable {m:MS} {i:Aa}
def Vm{k:Int->Int->MS->MS}(h:∀a b m',Gp (k a b m')=Gp m'):Gp (m.ints i k)=Gp m:=by
 unfold MS.ints MS.two;split
 ·rw[h];rfl
 ·rfl
def A5e{n:Int}{k:MS->MS}(h:∀m',Gp (k m')=Gp m'):Gp (m.room n i k)=Gp m:=by
 unfold MS.room;split
 ·rfl
 ·rw[h];rfl
def A5d{u p:PV}{k:MS->MS}(h:∀m',Gp (k m')=Gp m'):Gp (m.place u p i k)=Gp m:=by
 unfold MS.place;split
 ·rfl
 ·split
  ·rfl
  ·split
   ·rfl
   ·rw[h]
def A5c:Gp (m.join i)=Gp m:=by
 unfold MS.join MS.two;dsimp only;split <;> rfl
def Aha:Gp (m.Nn i)=Gp m:=by
 unfold MS.Nn;split <;> rfl
def Ni{p:Prop}[Decidable p]{a b:MS}{c:Fr×List Fr×Nat×List En×Nat}(ha:Gp a=c)(hb:Gp b=c):Gp (if p then a else b)=c:=by
 split
 ·exact ha
 ·exact hb
def Ah9(P:C5)(bets:List Cl)(h:i.op<6\/(10<i.op/\i.op<42)\/44<i.op):Gp (Ap P bets i m)=Gp m:=by
 unfold Ap;split;all_goals try (first|rfl|omega)
 ·show(m.pop.now,m.pop.calls,m.pop.fuel,m.pop.lots,(m.gl.set i.arg.toNat m.top).length)=_;rw[Lc];rfl
 ·exact Ni rfl rfl
 ·exact Ni A5c (Vm (fun _ _ _=>rfl))
 ·exact A5c
 ·exact Vm (fun _ _ _=>rfl)
 ·exact Vm (fun _ _ _=>rfl)
 ·exact Vm (fun _ _ _=>Ni rfl rfl)
 ·exact Ni rfl rfl
 ·exact Vm (fun _ _ _=>Ni rfl rfl)
 ·exact Ni rfl rfl
 ·exact Ni rfl rfl
 ·exact Ni rfl rfl
 ·exact Ni rfl rfl
 ·exact Ni rfl rfl
 ·exact Ni rfl rfl
 ·exact Ni rfl rfl
 ·refine A5e (fun m'=>?_);dsimp only;unfold MS.cut;split <;> rfl
 ·split <;> rfl
 ·exact Ni (A5e (fun _=>rfl)) rfl
 ·exact A5d (m:=m.pop.pop) (fun _=>rfl)
 ·exact Ni (A5d (m:=m.pop.pop.pop) (fun _=>rfl)) rfl
 ·exact Aha
def G9(lab:List Aa->List Nat)(L:Nat)(f:Fr):Nat:=if f.steps.length<=f.pc then 0 else((lab f.steps)[f.pc]?).getD 0*(L+1)+(L-f.pc)+1
def Le(lab:List Aa->List Nat)(L G:Nat)(st:List Aa):Prop:=Zq (lab st) st/\st.length<=L/\∀j∈st,(j.op=2\/j.op=4->j.arg.toNat<G)/\P0 j.op=true/\j.line<=5000
structure Mq (lab : List Aa -> List Nat) (L : Nat) (P : C5) (m : MS) : Prop where
 now:Le lab L P.globals m.now.steps
 calls:∀f∈m.calls,Le lab L P.globals f.steps
 gl:m.gl.length=P.globals
 lotn:m.lots.length=P.fns.length
 none:∀l∈m.lots,l.form=none
def Iw(lab:List Aa->List Nat)(L:Nat)(m:MS):Nat:=m.fuel*(L+2)+(m.calls.map (G9 lab L)).sum+G9 lab L m.now
variable {lab:List Aa->List Nat} {L:Nat} {P:C5}
def Yk(f:Fr){d:Nat}(h:(lab f.steps)[f.pc]?=some d):G9 lab L f<=d*(L+1)+(L-f.pc)+1:=by
 unfold G9;split
 ·omega
 ·rw[h];exact Af _
def z66a {P:Prop} (h:P:=by dsimp only;omega):P:=h
def A8a{st:List Aa}{p:Nat}{b b':Int}{i:Aa}(h:Le lab L P.globals st)(hi:st[p]?=some i)(ho:i.op≠6):G9 lab L ⟨st,p+1,b'⟩+1<=G9 lab L ⟨st,p,b⟩+(if i.op=7 then L+1 else 0):=by
 obtain⟨⟨_,_,hg⟩,hl,_⟩:=h;obtain⟨hp,_⟩:=K4.1 hi;rcases(hg p i hi).1 with q|⟨x,y,h1,h2,h3⟩
 ·exact absurd q ho
 ·have k1:=Yk (L:=L) (lab:=lab) ⟨st,p+1,b'⟩ h2;have k2:G9 lab L ⟨st,p,b⟩=x*(L+1)+(L-p)+1:=by
   unfold G9;rw[A1 z66a];dsimp only;rw[h1];rfl
  dsimp only at k1;split at h3
  ·have:y*(L+1)<=(x+1)*(L+1):=O5 _ h3;rw[Mm]at this;split
   ·omega
   ·omega
  ·have:y*(L+1)<=x*(L+1):=O5 _ h3;split
   ·omega
   ·omega
def Aog{st:List Aa}{p:Nat}{b b':Int}{i:Aa}(h:Le lab L P.globals st)(hi:st[p]?=some i)(ho:F2 i.op):G9 lab L ⟨st,i.arg.toNat,b'⟩+1<=G9 lab L ⟨st,p,b⟩:=by
 obtain⟨⟨hn,_,hg⟩,hl,_⟩:=h;obtain⟨hp,_⟩:=K4.1 hi;obtain⟨_,x,d,h1,h2,h3⟩:=(hg p i hi).2 ho;obtain⟨ht,_⟩:=K4.1 h2;have k1:=Yk (L:=L) (lab:=lab) ⟨st,i.arg.toNat,b'⟩ h2;have k2:G9 lab L ⟨st,p,b⟩=x*(L+1)+(L-p)+1:=by
  unfold G9;rw[A1 z66a];dsimp only;rw[h1];rfl
 dsimp only at k1;rcases h3 with⟨q1,q2⟩|⟨_,q2⟩
 ·have:d*(L+1)<=x*(L+1):=O5 _ q2;omega
 ·have:(d+1)*(L+1)<=x*(L+1):=O5 _ q2;rw[Mm]at this;omega
def Aon{m m':MS}(h:Gp m'=Gp m):Iw lab L m'=Iw lab L m:=by
 unfold Gp at h;simp only[Px]at h;unfold Iw;rw[h.1,h.2.1,h.2.2.1]
def Qm{m m':MS}(h:Gp m'=Gp m)(hm:Mq lab L P m):Mq lab L P m':=by
 unfold Gp at h;simp only[Px]at h;obtain⟨h1,h2,_,h4,h5⟩:=h;exact⟨by rw[h1];exact hm.now,by rw[h2];exact hm.calls,by rw[h5];exact hm.gl,by rw[h4];exact hm.lotn,by rw[h4];exact hm.none⟩
def dn(lab:List Aa->List Nat)(L:Nat)(P:C5)(k:Nat)(m':MS):Prop:=Mq lab L P m'/\(m'.code=0->Iw lab L m'<k)
def Xx{k:Nat}{m m':MS}(hm:Mq lab L P m)(h:Gp m'=Gp m)(hk:Iw lab L m<k):dn lab L P k m':=⟨Qm h hm,fun _=>by rw[Aon h];exact hk⟩
def Vn{k:Nat}{m m':MS}(hm:Mq lab L P m)(h:Gp m'=Gp m)(a:Int)(hk:Iw lab L (m.jump a)<k):dn lab L P k (m'.jump a):=by
 unfold Gp at h;simp only[Px]at h;obtain⟨h1,h2,h3,h4,h5⟩:=h;refine⟨⟨by show Le lab L P.globals m'.now.steps;rw[h1];exact hm.now,by show ∀f∈m'.calls,_;rw[h2];exact hm.calls,h5.trans hm.gl,by show m'.lots.length=_;rw[h4];exact hm.lotn,by show ∀l∈m'.lots,_;rw[h4];exact hm.none⟩,fun _=>?_⟩;refine Nat.lt_of_le_of_lt (A3l ?_) hk;unfold Iw MS.jump;dsimp only;rw[h1,h2,h3]
def z3oa {P:Prop} (h:P:=by
  exact Xx (m:=m1) Fp rfl (hseq z4ma z4ma)):P:=h
def z1ya {P:Prop} (h:P:=by
  exact⟨Qm (m:=m1) rfl Fp,fun q=>by cases q⟩):P:=h
def A2h(hP:Le lab L P.globals []/\∀f∈P.fns,Le lab L P.globals f.steps)(hm:Mq lab L P m)(hi:m.now.steps[m.now.pc]?=some i):dn lab L P (Iw lab L m) (Ii P [] i m):=by
 unfold Ii;have Fp:Mq lab L P { m with now:=⟨m.now.steps,m.now.pc+1,m.now.base⟩ }:=⟨hm.now,hm.calls,hm.gl,hm.lotn,hm.none⟩;have hseq:i.op≠6->i.op≠7->Iw lab L { m with now:=⟨m.now.steps,m.now.pc+1,m.now.base⟩ }<Iw lab L m:=fun h6 h7=>by
  have:G9 lab L ⟨m.now.steps,m.now.pc+1,m.now.base⟩+1<=G9 lab L m.now+(if i.op=7 then L+1 else 0):=A8a (b:=m.now.base) (b':=m.now.base) hm.now hi h6;rw[A1 h7]at this;unfold Iw;dsimp only;omega
 have hjmp:F2 i.op->Iw lab L (MS.jump i.arg { m with now:=⟨m.now.steps,m.now.pc+1,m.now.base⟩ })<Iw lab L m:=fun hj=>by
  have:G9 lab L ⟨m.now.steps,i.arg.toNat,m.now.base⟩+1<=G9 lab L m.now:=Aog (b:=m.now.base) (b':=m.now.base) hm.now hi hj;unfold Iw MS.jump;dsimp only;omega
 have hph:1<=G9 lab L m.now:=by
  obtain⟨hp,_⟩:=K4.1 hi;unfold G9;rw[Ai];omega
 have hsq2:i.op=7\/i.op=42->m.fuel≠0->(m.fuel-1)*(L+2)+(m.calls.map (G9 lab L)).sum+G9 lab L ⟨m.now.steps,m.now.pc+1,m.now.base⟩+(if i.op=7 then 0 else L+1)<Iw lab L m:=fun h7 hf=>by
  have:G9 lab L ⟨m.now.steps,m.now.pc+1,m.now.base⟩+1<=G9 lab L m.now+(if i.op=7 then L+1 else 0):=A8a (b:=m.now.base) (b':=m.now.base) hm.now hi z4ma;have e:m.fuel*(L+2)=(m.fuel-1)*(L+2)+(L+2):=by
   obtain⟨n,hn⟩:∃n,m.fuel=n+1:=⟨m.fuel-1,by omega⟩;rw[hn,Nat.add_sub_cancel,Mm,V5]
  unfold Iw;rw[e];split at this
  ·rename_i q;rw[A7 q];omega
  ·rename_i q;rw[A1 q];omega
 by_cases hb:i.op<6\/(10<i.op/\i.op<42)\/44<i.op
 ·exact Xx Fp (Ah9 P [] hb) (hseq z4ma z4ma)
 have ho:i.op=6\/i.op=7\/i.op=8\/i.op=9\/i.op=10\/i.op=42\/i.op=43\/i.op=44:=by omega
 generalize hme:({ m with now:=⟨m.now.steps,m.now.pc+1,m.now.base⟩ }:MS)=m1 at *;rcases ho with ho|ho|ho|ho|ho|ho|ho|ho
 ·have e:Ap P [] i m1=m1.jump i.arg:=by unfold Ap;rw[ho] <;> rfl
  rw[e];exact Vn Fp rfl _ (hjmp z51a)
 ·have e:Ap P [] i m1=(if m1.top.y then m1.pop.Jd i (fun m'=>if m1.top.k=1 then m' else m'.fail 5 i) else if m1.top.k=1 then m1.pop.jump i.arg else m1.pop.fail 5 i):=by unfold Ap;rw[ho] <;> rfl
  rw[e];split
  ·unfold MS.Jd;split
   ·exact z1ya
   ·rename_i hf;have hf':m.fuel≠0:=by rw[←hme]at hf;exact hf
    have h7:=hsq2 (.inl ho) hf';rw[A7 ho]at h7;have hok:Mq lab L P { m1.pop with fuel:=m1.pop.fuel-1 }:=⟨Fp.now,Fp.calls,Fp.gl,Fp.lotn,Fp.none⟩;have hpt:Iw lab L { m1.pop with fuel:=m1.pop.fuel-1 }<Iw lab L m:=by rw[←hme];unfold Iw;exact h7
    split
    ·exact⟨hok,fun _=>hpt⟩
    ·exact⟨Qm (m:={ m1.pop with fuel:=m1.pop.fuel-1 }) rfl hok,fun q=>by cases q⟩
  ·split
   ·exact Vn (m:=m1) (m':=m1.pop) Fp rfl _ (hjmp z51a)
   ·exact z1ya
 ·have e:Ap P [] i m1=(if m1.top.k=1 then(if m1.top.y then m1.pop else m1.pop.jump i.arg) else m1.pop.fail 5 i):=by unfold Ap;rw[ho] <;> rfl
  rw[e];split
  ·split
   ·exact z3oa
   ·exact Vn (m:=m1) (m':=m1.pop) Fp rfl _ (hjmp z51a)
  ·exact z1ya
 ·have e:Ap P [] i m1=(if m1.top.k=1 then(if m1.top.y then m1.pop else m1.jump i.arg) else m1.fail 5 i):=by unfold Ap;rw[ho] <;> rfl
  rw[e];split
  ·split
   ·exact z3oa
   ·exact Vn (m:=m1) Fp rfl _ (hjmp z51a)
  ·exact z1ya
 ·have e:Ap P [] i m1=(if m1.top.k=1 then(if m1.top.y then m1.jump i.arg else m1.pop) else m1.fail 5 i):=by unfold Ap;rw[ho] <;> rfl
  rw[e];split
  ·split
   ·exact Vn (m:=m1) Fp rfl _ (hjmp z51a)
   ·exact z3oa
  ·exact z1ya
 ·have e:Ap P [] i m1=m1.Jd i (fun m'=>if m'.calls.length=40 then m'.fail 9 i else
    match P.fns[i.arg.toNat]? with
    | some f=>{ m' with calls:=m'.calls++[m'.now] }.body P [] i.arg.toNat f
    | none=>m'):=by unfold Ap;rw[ho] <;> rfl
  rw[e];unfold MS.Jd;split
  ·exact z1ya
  ·rename_i hf;have hf':m.fuel≠0:=by rw[←hme]at hf;exact hf
   have h7:=hsq2 (.inr ho) hf';rw[Ai]at h7;have hok:Mq lab L P { m1 with fuel:=m1.fuel-1 }:=⟨Fp.now,Fp.calls,Fp.gl,Fp.lotn,Fp.none⟩;have hfu:m1.fuel=m.fuel:=by rw[←hme]
   have hca:m1.calls=m.calls:=by rw[←hme]
   have hno:m1.now=⟨m.now.steps,m.now.pc+1,m.now.base⟩:=by rw[←hme]
   dsimp only;split
   ·exact⟨Qm (m:={ m1 with fuel:=m1.fuel-1 }) rfl hok,fun q=>by cases q⟩
   ·split
    ·rename_i f hfn;have hlt:i.arg.toNat<m1.lots.length:=by
      rw[Fp.lotn];exact(K4.1 hfn).1
     unfold MS.body;rw[show({ m1 with fuel:=m1.fuel-1,calls:=m1.calls++[m1.now] }:MS).lots=m1.lots from rfl,Eh hlt];dsimp only;rw[show taken i.arg.toNat (m1.lots[i.arg.toNat]).calls []=none from rfl];dsimp only;rw[Fp.none _ (Ho hlt)];dsimp only;have hfs:=hP.2 f (Gl hfn);refine⟨⟨hfs,fun g hg=>?_,Fp.gl,?_,fun l hl=>?_⟩,fun _=>?_⟩
     ·have hg':g∈m1.calls++[m1.now]:=hg;rcases Jp.1 hg' with q|q
      ·exact Fp.calls g q
      ·rw[Lb.1 q];exact Fp.now
     ·show(m1.lots.set _ _).length=_;rw[Lc];exact Fp.lotn
     ·have hl':l∈m1.lots.set i.arg.toNat ⟨(m1.lots[i.arg.toNat]).calls+1,none,(m1.lots[i.arg.toNat]).fast,(m1.lots[i.arg.toNat]).drops⟩:=hl;rcases O6 hl' with q|q
      ·exact Fp.none l q
      ·rw[q]
     ·have k1:=Yk (L:=L) (lab:=lab) ⟨f.steps,0,((m1.vals.length:Nat):Int)-(f.params:Nat)⟩ hfs.1.2.1;dsimp only at k1;show(m1.fuel-1)*(L+2)+((m1.calls++[m1.now]).map (G9 lab L)).sum+G9 lab L ⟨f.steps,0,((m1.vals.length:Nat):Int)-(f.params:Nat)⟩<_;rw[hfu,hca,hno,V0,List.sum_append,Q2,A3f,List.sum_cons,List.sum_nil];omega
    ·refine⟨hok,fun _=>?_⟩;show(m1.fuel-1)*(L+2)+(m1.calls.map (G9 lab L)).sum+G9 lab L m1.now<_;rw[hfu,hca,hno];omega
 all_goals
  have hlv:∀m':MS,m'.now=m1.calls.getLastD ⟨[],0,0⟩->m'.calls=m1.calls.dropLast->m'.fuel=m1.fuel->m'.lots=m1.lots->m'.gl.length=m1.gl.length->dn lab L P (Iw lab L m) m':=by
   intro m' h1 h2 h3 h4 h5;have hca:m1.calls=m.calls:=by rw[←hme]
   have hfu:m1.fuel=m.fuel:=by rw[←hme]
   have hz:G9 lab L ⟨[],0,0⟩=0:=by unfold G9;rw[A7 z4ra]
   have hsum:∀l:List Fr,(l.dropLast.map (G9 lab L)).sum+G9 lab L (l.getLastD ⟨[],0,0⟩)=(l.map (G9 lab L)).sum:=by
    intro l;rcases List.eq_nil_or_concat l with q|⟨l',x,q⟩
    ·rw[q];simp[hz]
    ·rw[q,List.concat_eq_append,V7,A3p];simp
   have hnow:Le lab L P.globals (m1.calls.getLastD ⟨[],0,0⟩).steps:=by
    rw[Sf];cases hq:m1.calls.getLast? with
    | none=>exact hP.1
    | some f=>exact Fp.calls f (A3j hq)
   refine⟨⟨by rw[h1];exact hnow,fun f hf=>Fp.calls f (by rw[h2]at hf;exact Q3 _ hf),by rw[h5];exact Fp.gl,by rw[h4];exact Fp.lotn,by rw[h4];exact Fp.none⟩,fun _=>?_⟩;unfold Iw;rw[h1,h2,h3,hfu];have:=hsum m1.calls;rw[hca]at this;rw[hca];omega
 ·have e:Ap P [] i m1={ (m1.cut m1.now.base).push Bb with now:=m1.calls.getLastD ⟨[],0,0⟩,calls:=m1.calls.dropLast }:=by unfold Ap;rw[ho] <;> rfl
  rw[e];exact hlv _ rfl rfl rfl rfl rfl
 ·have e:Ap P [] i m1={ (m1.pop.cut m1.now.base).push m1.top with now:=m1.calls.getLastD ⟨[],0,0⟩,calls:=m1.calls.dropLast }:=by unfold Ap;rw[ho] <;> rfl
  rw[e];exact hlv _ rfl rfl rfl rfl rfl
def Aqo(hP:Le lab L P.globals []/\∀f∈P.fns,Le lab L P.globals f.steps):∀(n:Nat) (m:MS),Mq lab L P m->(m.code=0->Iw lab L m<n)->0<n->∃m',Hi P [] n m=some m'/\Mq lab L P m':=by
 intro n;induction n with
 | zero=>intro m _ _ h;omega
 | succ n ih=>
  intro m hm hn _;rw[Hi];by_cases hc:m.code=0
  ·rw[A1 (by simp[hc])];cases hi:m.now.steps[m.now.pc]? with
   | none=>exact⟨m,rfl,hm⟩
   | some i=>
    obtain⟨k1,k2⟩:=A2h hP hm hi;have hn':=hn hc;have hph:1<=G9 lab L m.now:=by
     obtain⟨hp,_⟩:=K4.1 hi;unfold G9;rw[Ai];omega
    have hp0:1<=Iw lab L m:=by unfold Iw;omega
    exact ih _ k1 (fun q=>by have:=k2 q;omega) z4ma
  ·rw[A7 hc];exact⟨m,rfl,hm⟩
def A7v(hP:Le lab L P.globals []/\∀f∈P.fns,Le lab L P.globals f.steps):∀(n:Nat) (m:MS),Mq lab L P m->nice P [] n m:=by
 intro n;induction n with
 | zero=>intro m _;trivial
 | succ n ih=>
  intro m hm _ i hi;exact⟨⟨fun q=>by rw[hm.gl];exact(hm.now.2.2 i (Gl hi)).1 q,fun _=>⟨hm.none,(hm.now.2.2 i (Gl hi)).2.1⟩⟩,ih _ (A2h hP hm hi).1⟩
def Ov(a b:Nat)(m':MS):Prop:=m'.line=a\/m'.line=b
def Gr{p:Prop}[Decidable p]{a b:MS}{x y:Nat}(ha:Ov x y a)(hb:Ov x y b):Ov x y (if p then a else b):=by
 split
 ·exact ha
 ·exact hb
def W7{k:Int->Int->MS->MS}(h:∀a b m',m'.line=m.line->Ov m.line i.line (k a b m')):Ov m.line i.line (m.ints i k):=Gr (h _ _ _ rfl) (.inr rfl)
def A7a{n:Int}{k:MS->MS}{x:Nat}(h:∀m':MS,m'.line=m.line->Ov x i.line (k m')):Ov x i.line (m.room n i k):=Gr (.inr rfl) (h _ rfl)
def A79{u p:PV}{k:MS->MS}{x:Nat}(h:∀m':MS,m'.line=m.line->Ov x i.line (k m')):Ov x i.line (m.place u p i k):=by
 unfold MS.place;split
 ·exact .inr rfl
 ·exact Gr (.inr rfl) (Gr (.inr rfl) (h _ rfl))
def A78:Ov m.line i.line (m.join i):=Gr (.inr rfl) (.inl rfl)
def Am8(P:C5)(bets:List Cl)(n:Nat)(f:Fn)(m:MS):(m.body P bets n f).line=m.line:=by
 unfold MS.body;split
 ·rfl
 ·dsimp only;split
  ·rfl
  ·split <;> rfl
def z43a {P:Prop} (h:P:=by
  exact Gr (Gr (.inl rfl) (.inl rfl)) (.inr rfl)):P:=h
def z2qa {P:Prop} (h:P:=by
  exact Gr (.inl rfl) (.inr rfl)):P:=h
def Am7(P:C5)(bets:List Cl):Ov m.line i.line (Ap P bets i m):=by
 unfold Ap;split;all_goals try exact .inl rfl
 ·exact Gr (Gr (.inr rfl) (Gr (.inl rfl) (.inr rfl))) (Gr (.inl rfl) (.inr rfl))
 ·exact z43a
 ·exact z43a
 ·exact z43a
 ·exact z2qa
 ·exact Gr A78 (W7 (fun _ _ _ q=>.inl q))
 ·exact A78
 ·exact W7 (fun _ _ _ q=>.inl q)
 ·exact W7 (fun _ _ _ q=>.inl q)
 ·exact W7 (fun _ _ _ q=>Gr (.inr rfl) (.inl q))
 ·exact Gr (.inr rfl) (.inl rfl)
 ·exact W7 (fun _ _ _ q=>Gr (.inr rfl) (.inl q))
 ·exact Gr (.inr rfl) (.inl rfl)
 ·exact z2qa
 ·exact z2qa
 ·exact z2qa
 ·exact z2qa
 ·exact z2qa
 ·exact z2qa
 ·exact A7a (fun _ q=>.inl q)
 ·split
  ·exact .inl rfl
  ·exact .inr rfl
 ·exact Gr (A7a (fun _ q=>.inl q)) (.inr rfl)
 ·exact A79 (fun _ q=>.inl q)
 ·exact Gr (A79 (fun _ q=>.inl q)) (.inr rfl)
 ·exact Gr (.inr rfl) (.inl rfl)
 ·refine Gr (.inr rfl) (Gr (.inr rfl) ?_);split
  ·exact .inl (Am8 _ _ _ _ _)
  ·exact .inl rfl
def Aqp(hP:Le lab L P.globals []/\∀f∈P.fns,Le lab L P.globals f.steps):∀(n:Nat) (m m':MS),Mq lab L P m->m.line<=5000->Hi P [] n m=some m'->m'.line<=5000:=by
 intro n;induction n with
 | zero=>intro m m' _ _ h;rw[Hi]at h;cases h
 | succ n ih=>
  intro m m' hm hl h;rw[Hi]at h;split at h
  ·cases h;exact hl
  ·split at h
   ·cases h;exact hl
   ·rename_i i hi;refine ih _ _ (A2h hP hm hi).1 ?_ h;rcases Am7 (m:={ m with now:=⟨m.now.steps,m.now.pc+1,m.now.base⟩ }) (i:=i) P []with q|q
    ·show(Ii P [] i m).line<=5000;unfold Ii;rw[q];exact hl
    ·show(Ii P [] i m).line<=5000;unfold Ii;rw[q];exact(hm.now.2.2 i (Gl hi)).2.2
