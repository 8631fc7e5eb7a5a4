import Derived.Lib.ItoaNum
import Derived.Test.YtjdlndhfaaolaaaGreatDoorQ07
set_option maxHeartbeats 20000000
namespace Go.Proofs.YtjdlndhfaaolaaaGreatDoor
section
open Go.Deep (BT)
def PV.same(a b:PV):Bool:=a.k==b.k&&a.y==b.y&&a.n==b.n&&a.t==b.t&&a.r==b.r
def ofBool(b:Bool):PV:=⟨1,b,0,[],none⟩
def ofInt(n:Int):PV:=⟨2,false,n,[],none⟩
def ofStr(t:List UInt8):PV:=⟨3,false,0,t,none⟩
def Ahn(i:Nat):PV:=⟨4,false,0,[],some i⟩
structure Kn where
 kind:Bool
 whole:Bool
 like:PV
structure Form where
 slots:Nat
 steps:List Ad
 bet:List Kn
structure Gs where
 calls:Nat
 form:Option Form
 fast:Nat
 drops:Nat
structure Dg where
 fn:Int
 after:Int
 kinds:List Int
 ints:List Int
structure Fr where
 steps:List Ad
 pc:Nat
 base:Int
structure MS where
 vals:List PV
 gl:List PV
 calls:List Fr
 now:Fr
 fuel:Nat
 cells:Nat
 out:List (List UInt8)
 code:Nat
 line:Nat
 arr:List (List PV)
 lots:List Gs
def MS.push(v:PV)(m:MS):MS:={ m with vals:=m.vals++[v] }
def MS.top(m:MS):PV:=m.vals.getLastD Ai
def MS.at'(m:MS)(i:Int):PV:=if i<0 then Ai else(m.vals[i.toNat]?).getD Ai
def MS.pop(m:MS):MS:={ m with vals:=m.vals.dropLast }
def MS.put(i:Int)(v:PV)(m:MS):MS:={ m with vals:=if i<0 then m.vals else m.vals.set i.toNat v }
def MS.cut(n:Int)(m:MS):MS:={ m with vals:=if n<0 then m.vals else m.vals.take n.toNat }
def MS.fail(c:Nat)(i:Ad)(m:MS):MS:={ m with code:=c,line:=i.line }
def MS.jump(a:Int)(m:MS):MS:={ m with now:=⟨m.now.steps,a.toNat,m.now.base⟩ }
def A16(f:List UInt8->PV->List UInt8):Bool->List UInt8->List PV->List UInt8
 | _,l,[]=>l++[93]
 | b,l,v::r=>if 500<l.length then l else A16 f true (f (if b then l++[44] else l) v) r
def Fk(arr:List (List PV)):Nat->List UInt8->PV->List UInt8
 | n,l,v=>
  if v.k=1 then l++(if v.y then [116,114,117,101] else [102,97,108,115,101])
  else if v.k=2 then l++Lib.itoa v.n
  else if v.k=3 then l++v.t
  else if v.k=4 then
   match n with
   | 0=>l++[91,46,46,93]
   | n+1=>A16 (fun l' v'=>Fk arr n l' v') false (l++[91]) ((arr[v.r.getD 0]?).getD [])
  else l++[110,117,108,108]
def Ds:Kn:=⟨false,false,Ai⟩
def D4(k:Nat):Kn:=⟨true,false,⟨k,false,0,[],none⟩⟩
def I0(v:PV):Kn:=⟨true,true,v⟩
def Kn.is(k:Kn)(v:PV):Bool:=if k.whole then v.same k.like else !k.kind||v.k==k.like.k
def Kn.sure(k:Kn)(kd:Nat):Bool:=k.kind&&k.like.k==kd
def G7(b:Dg)(i:Nat):Kn:=
 match b.kinds[i]? with
 | none=>Ds
 | some k=>if k=1 then D4 2 else if k=2 then D4 3 else if k=3 then D4 1 else if k=4 then I0 Ai else if k=5 then D4 4
  else if k=6 then I0 (ofInt ((b.ints[i]?).getD 0)) else Ds
def Jy:List Ad->List Kn->List Kn
 | [],ks=>ks
 | i::r,ks=>Jy r (if i.op=3/\i.arg<ks.length then ks.set i.arg.toNat Ds else ks)
def Ff(params:List Kn)(i:Ad):Kn:=if i.op=1 then(params[i.arg.toNat]?).getD Ds else Ds
def Dx(ab:List Kn):Kn:=ab.getLastD Ds
def Kl(ab:List Kn):Kn:=ab.dropLast.getLastD Ds
def F9(ab:List Kn)(kd:Nat):Bool:=(Dx ab).sure kd&&(Kl ab).sure kd
def Gb(o:Nat):Nat:=
 if o=12 then 13 else if o=15 then 16 else if o=17 then 18 else if o=19 then 20 else if o=21 then 22 else if o=28 then 32 else if o=29 then 33 else if o=30 then 34 else if o=31 then 35 else o
def quick(params ab:List Kn)(i:Ad):Ad:=
 if(Ff params i).whole then⟨0,0,0,(Ff params i).like⟩
 else
  let o1:=if i.op=12/\F9 ab 3=true then 14 else i.op
  let o2:=if o1=23/\(Dx ab).sure 2=true then 24 else o1
  ⟨if F9 ab 2 then Gb o2 else o2,i.arg,i.line,i.v⟩
def Mb(ab:List Kn):Kn:=if(Dx ab).sure 2||(Kl ab).sure 2 then D4 2 else if(Dx ab).sure 3||(Kl ab).sure 3 then D4 3 else Ds
def Th(params ab:List Kn)(i:Ad):Option Kn:=
 if i.op=0 then some (I0 i.v)
 else if i.op=1\/i.op=2\/i.op=42\/i.op=39 then some (Ff params i)
 else if i.op=12 then some (Mb ab)
 else if i.op=15\/i.op=17\/i.op=19\/i.op=21\/i.op=23\/i.op=37 then some (D4 2)
 else if i.op=25\/i.op=26\/i.op=27\/i.op=28\/i.op=29\/i.op=30\/i.op=31\/i.op=11 then some (D4 1)
 else if i.op=36 then some (D4 4)
 else if i.op=38 then some (Dx ab)
 else none
def Gu(P:Db)(i:Ad):Int:=
 if i.op=0\/i.op=1\/i.op=2\/i.op=6\/i.op=43 then 0
 else if i.op=36 then i.arg
 else if i.op=42 then(match P.fns[i.arg.toNat]? with|some f=>(f.params:Nat)|none=>0)
 else if i.op=40 then 3
 else if i.op=12\/i.op=15\/i.op=17\/i.op=19\/i.op=21\/i.op=38\/i.op=39\/i.op=25\/i.op=26\/i.op=28\/i.op=29\/i.op=30\/i.op=31 then 2
 else 1
def Lu(n:Int)(ab:List Kn):List Kn:=if n<0 then ab else ab.take n.toNat
def follow(P:Db)(params ab:List Kn)(i:Ad):List Kn:=
 let c:=Lu ((ab.length:Nat)-Gu P i) ab
 match Th params ab i with
 | some k=>c++[k]
 | none=>c
def Gh(P:Db)(params:List Kn):List Kn->List Ad->List Ad
 | _,[]=>[]
 | ab,i::r=>quick params ab i::Gh P params (follow P params ab i) r
def Ge(P:Db)(b:Dg)(f:Fn):Form:=
 let ks:=(List.range f.params).map (G7 b)
 ⟨f.slots,Gh P (Jy f.steps ks) [] f.steps,ks⟩
def MS.Ke(i:Ad)(m:MS)(k:MS->MS):MS:=if m.fuel=0 then m.fail 8 i else k { m with fuel:=m.fuel-1 }
def taken(n:Nat)(calls:Nat):List Dg->Option Dg
 | []=>none
 | b::r=>match taken n calls r with
  | some x=>some x
  | none=>if b.fn=(n:Nat)/\b.after=(calls:Nat) then some b else none
def J0(m:MS):Int->List Kn->Bool
 | _,[]=>true
 | i,k::r=>k.is (m.at' i)&&J0 m (i+1) r
def Ju(n:Nat):List PV:=List.replicate n Ai
def MS.begin(slots:Nat)(steps:List Ad)(args:Nat)(m:MS):MS:=
 { m with now:=⟨steps,0,(m.vals.length:Nat)-(args:Nat)⟩,vals:=m.vals++Ju (slots-args) }
def MS.Kt(n:Nat)(l:Gs)(m:MS):MS:={ m with lots:=m.lots.set n l }
def MS.body(P:Db)(bets:List Dg)(n:Nat)(f:Fn)(m:MS):MS:=
 match m.lots[n]? with
 | none=>m
 | some l=>
  let fm:=match taken n l.calls bets with
   | some b=>some (Ge P b f)
   | none=>l.form
  match fm with
  | none=>(m.Kt n ⟨l.calls+1,none,l.fast,l.drops⟩).begin f.slots f.steps f.params
  | some fo=>
   if J0 m ((m.vals.length:Nat)-(fo.bet.length:Nat)) fo.bet then(m.Kt n ⟨l.calls+1,some fo,l.fast+1,l.drops⟩).begin fo.slots fo.steps f.params
   else(m.Kt n ⟨l.calls+1,none,l.fast,l.drops+1⟩).begin f.slots f.steps f.params
def wr(n:Int):Int:=RowKit.wrap64 n
def MS.two(m:MS)(k:PV->PV->MS->MS):MS:=k m.pop.top m.top m.pop.pop
def MS.both(m:MS)(kd:Nat):Bool:=m.top.k==kd&&(m.at' ((m.vals.length:Nat)-2)).k==kd
def MS.ints(i:Ad)(m:MS)(k:Int->Int->MS->MS):MS:=if m.both 2 then m.two (fun a b m'=>k a.n b.n m') else m.fail 5 i
def before(a b:PV):Bool:=decide (a.n<b.n)||Op.bytesLess a.t b.t
def sizeOf'(m:MS)(v:PV):Option Nat:=if v.k=3 then some v.t.length else if v.k=4 then some ((m.arr[v.r.getD 0]?).getD []).length else none
def MS.room(n:Int)(i:Ad)(m:MS)(k:MS->MS):MS:=if(500:Int)-m.cells<n then m.fail 10 i else k { m with cells:=m.cells+n.toNat }
def MS.place(of p:PV)(i:Ad)(m:MS)(k:MS->MS):MS:=
 match sizeOf' m of with
 | none=>m.fail 5 i
 | some n=>if p.k≠2 then m.fail 5 i else if p.n<0\/(n:Int)<=p.n then m.fail 7 i else k m
def MS.N7(i:Ad)(m:MS):MS:=
 if 500<(Fk m.arr 4 [] m.top).length\/m.out.length=100 then m.pop.fail 10 i else { m.pop with out:=m.out++[Fk m.arr 4 [] m.top] }
def MS.join(i:Ad)(m:MS):MS:=m.two fun a b m'=>if 100<a.t.length+b.t.length then m'.fail 10 i else m'.push (ofStr (a.t++b.t))
def B2(P:Db)(bets:List Dg)(i:Ad)(m:MS):MS:=
 match i.op with
 | 0=>m.push i.v
 | 1=>m.push (m.at' (m.now.base+i.arg))
 | 2=>m.push ((m.gl[i.arg.toNat]?).getD Ai)
 | 3=>m.pop.put (m.now.base+i.arg) m.top
 | 4=>{ m.pop with gl:=m.gl.set i.arg.toNat m.top }
 | 5=>m.pop
 | 6=>m.jump i.arg
 | 7=>if m.top.y then m.pop.Ke i (fun m'=>if m.top.k=1 then m' else m'.fail 5 i) else if m.top.k=1 then m.pop.jump i.arg else m.pop.fail 5 i
 | 8=>if m.top.k=1 then(if m.top.y then m.pop else m.pop.jump i.arg) else m.pop.fail 5 i
 | 9=>if m.top.k=1 then(if m.top.y then m.pop else m.jump i.arg) else m.fail 5 i
 | 10=>if m.top.k=1 then(if m.top.y then m.jump i.arg else m.pop) else m.fail 5 i
 | 11=>if m.top.k=1 then m else m.fail 5 i
 | 12=>if m.both 3 then m.join i else m.ints i (fun a b m'=>m'.push (ofInt (wr (a+b))))
 | 13=>m.two fun a b m'=>m'.push (ofInt (wr (a.n+b.n)))
 | 14=>m.join i
 | 15=>m.ints i (fun a b m'=>m'.push (ofInt (wr (a-b))))
 | 16=>m.two fun a b m'=>m'.push (ofInt (wr (a.n-b.n)))
 | 17=>m.ints i (fun a b m'=>m'.push (ofInt (wr (a*b))))
 | 18=>m.two fun a b m'=>m'.push (ofInt (wr (a.n*b.n)))
 | 19=>m.ints i (fun a b m'=>if b=0 then m'.fail 6 i else m'.push (ofInt (wr (a.tdiv b))))
 | 20=>m.two fun a b m'=>if b.n=0 then m'.fail 6 i else m'.push (ofInt (wr (a.n.tdiv b.n)))
 | 21=>m.ints i (fun a b m'=>if b=0 then m'.fail 6 i else m'.push (ofInt (a.tmod b)))
 | 22=>m.two fun a b m'=>if b.n=0 then m'.fail 6 i else m'.push (ofInt (a.n.tmod b.n))
 | 23=>if m.top.k=2 then m.pop.push (ofInt (wr (-m.top.n))) else m.fail 5 i
 | 24=>m.pop.push (ofInt (wr (-m.top.n)))
 | 25=>m.two fun a b m'=>m'.push (ofBool (a.same b))
 | 26=>m.two fun a b m'=>m'.push (ofBool (!a.same b))
 | 27=>if m.top.k=1 then m.pop.push (ofBool (!m.top.y)) else m.pop.fail 5 i
 | 28=>if m.both 2||m.both 3 then m.two fun a b m'=>m'.push (ofBool (before b a)) else m.fail 5 i
 | 29=>if m.both 2||m.both 3 then m.two fun a b m'=>m'.push (ofBool (before a b)) else m.fail 5 i
 | 30=>if m.both 2||m.both 3 then m.two fun a b m'=>m'.push (ofBool (!before a b)) else m.fail 5 i
 | 31=>if m.both 2||m.both 3 then m.two fun a b m'=>m'.push (ofBool (!before b a)) else m.fail 5 i
 | 32=>m.two fun a b m'=>m'.push (ofBool (decide (b.n<a.n)))
 | 33=>m.two fun a b m'=>m'.push (ofBool (decide (a.n<b.n)))
 | 34=>m.two fun a b m'=>m'.push (ofBool (decide (b.n<=a.n)))
 | 35=>m.two fun a b m'=>m'.push (ofBool (decide (a.n<=b.n)))
 | 36=>m.room i.arg i fun m'=>
   let f:=(m'.vals.length:Int)-i.arg
   let m2:=m'.cut f
   { m2 with arr:=m'.arr++[(List.range i.arg.toNat).map (fun(j:Nat)=>m'.at' (f+j))] }.push (Ahn m'.arr.length)
 | 37=>match sizeOf' m m.top with
  | some n=>m.pop.push (ofInt (n:Nat))
  | none=>m.pop.fail 5 i
 | 38=>m.two fun a b m'=>if a.k=4 then m'.room 1 i fun m2=>{ m2 with arr:=m2.arr.modify (a.r.getD 0) (·++[b]) }.push b else m'.fail 5 i
 | 39=>m.two fun a b m'=>m'.place a b i fun m2=>m2.push (if a.k=3 then ofStr ((a.t.drop b.n.toNat).take 1) else(((m2.arr[a.r.getD 0]?).getD [])[b.n.toNat]?).getD Ai)
 | 40=>m.pop.two fun a b m'=>if a.k=4 then m'.place a b i fun m2=>{ m2 with arr:=m2.arr.modify (a.r.getD 0) (·.set b.n.toNat m.top) } else m'.fail 5 i
 | 41=>m.N7 i
 | 42=>m.Ke i fun m'=>if m'.calls.length=40 then m'.fail 9 i else
   match P.fns[i.arg.toNat]? with
   | some f=>{ m' with calls:=m'.calls++[m'.now] }.body P bets i.arg.toNat f
   | none=>m'
 | 43=>{ (m.cut m.now.base).push Ai with now:=m.calls.getLastD ⟨[],0,0⟩,calls:=m.calls.dropLast }
 | 44=>{ (m.pop.cut m.now.base).push m.top with now:=m.calls.getLastD ⟨[],0,0⟩,calls:=m.calls.dropLast }
 | _=>m
def Sl(P:Db)(bets:List Dg)(i:Ad)(m:MS):MS:=B2 P bets i { m with now:=⟨m.now.steps,m.now.pc+1,m.now.base⟩ }
def Jv(P:Db)(bets:List Dg):Nat->MS->Option MS
 | 0,_=>none
 | n+1,m=>if m.code≠0 then some m else match m.now.steps[m.now.pc]? with
  | none=>some m
  | some i=>Jv P bets n (Sl P bets i m)
def mstart(P:Db):MS:=
 MS.begin P.slots P.main 0 ⟨[],Ju P.globals,[],⟨[],0,0⟩,2000,0,[],0,0,[],List.replicate P.fns.length ⟨0,none,0,0⟩⟩
def Dp(n:Int):List UInt8:=if n<0 then 40::45::(Lib.decDigits (-(n+1)).toNat++[45,49,41]) else Lib.decDigits n.toNat
def Q0(n:Int):List Tk:=if n<0 then [⟨18,1,[],0⟩,⟨35,1,[],0⟩,⟨2,1,[],-(n+1)⟩,⟨35,1,[],0⟩,⟨2,1,[],1⟩,⟨19,1,[],0⟩] else [⟨2,1,[],n⟩]
def Kh:List Tk->Nat ⊕ List Tk->Nat ⊕ List Tk
 | [],x=>x
 | t::r,x=>match Kh r x with
  | .inl l=>.inl l
  | .inr ts=>.inr (t::ts)
theorem A7c(ys:List Tk):∀ts,Kh ts (.inr ys)=.inr (ts++ys):=by
 intro ts;induction ts with
 | nil=>rfl
 | cons t r ih=>rw[Kh,ih];rfl
theorem A23(b:List Tk)(x:Nat ⊕ List Tk):∀a,Kh (a++b) x=Kh a (Kh b x):=by
 intro a;induction a with
 | nil=>rfl
 | cons t r ih=>rw[List.cons_append,Kh,Kh,ih]
theorem U8:∀(f g:Nat) (l:List UInt8) (line:Nat) (said:Bool),l.length<f->l.length<g->lex f l line said=lex g l line said:=by
 intro f;induction f with
 | zero=>intro g l line said h;omega
 | succ f ih=>
  intro g l line said h1 h2;obtain⟨g,rfl⟩:∃k,g=k+1:=⟨g-1,by omega⟩;cases l with
  | nil=>rfl
  | cons c r=>
   simp only[List.length_cons]at h1 h2;have e1:∀line said,lex f r line said=lex g r line said:=fun line said=>ih g r line said (by omega) (by omega);rw[lex,lex,e1,e1];cases ht:Er (c::r) with
   | none=>rfl
   | some x=>
    obtain⟨t,n⟩:=x;have hn:=(Ru c r t n ht).2.2;have e2:=ih g ((c::r).drop n) line false (by simp;omega) (by simp;omega);simp only[e2]
theorem A0q(u:Nat):∀c∈Lib.decDigits u,D9 c=true:=by
 induction u using Nat.strongRecOn with
 | _ u ih=>
  have hd:∀k,k<10->D9 (UInt8.ofNat (48+k))=true:=by
   intro k hk;have:(UInt8.ofNat (48+k)).toNat=48+k:=by simp;omega
   simp only[D9,this,Bool.and_eq_true,decide_eq_true_eq];omega
  rw[Lib.decDigits];split
  ·intro c hc;simp only[List.mem_singleton]at hc;rw[hc];exact hd u (by assumption)
  ·intro c hc;simp only[List.mem_append,List.mem_singleton]at hc;rcases hc with hc|hc
   ·exact ih (u / 10) (by omega) c hc
   ·rw[hc];exact hd _ (Nat.mod_lt _ (by omega))
theorem A62(c:UInt8):∀(l:List UInt8) (a:Int),Hf a (l++[c])=10*Hf a l+((c.toNat:Int)-48):=by
 intro l;induction l with
 | nil=>intro a;rfl
 | cons d r ih=>intro a;rw[List.cons_append,Hf,Hf,ih]
theorem A73(u:Nat):Hf 0 (Lib.decDigits u)=(u:Int):=by
 induction u using Nat.strongRecOn with
 | _ u ih=>
  rw[Lib.decDigits];split
  ·have:(UInt8.ofNat (48+u)).toNat=48+u:=by simp;omega
   simp only[Hf,this];omega
  ·have:(UInt8.ofNat (48+u % 10)).toNat=48+u % 10:=by simp;omega
   rw[A62,ih (u / 10) (by omega),this];omega
theorem Ty(u:Nat):∃d r,Lib.decDigits u=d::r/\D9 d=true:=by
 have h:=A0q u;have hl:1<=(Lib.decDigits u).length:=by rw[Lib.decDigits_length];exact Lib.nDigits_pos u
 cases hd:Lib.decDigits u with
 | nil=>rw[hd]at hl;simp at hl
 | cons d r=>rw[hd]at h;exact⟨d,r,rfl,h d (by simp)⟩
theorem Acl{α:Type}(p:α->Bool)(c:α)(r:List α)(hc:p c=false):∀l:List α,(∀x∈l,p x=true)->(l++c::r).takeWhile p=l:=by
 intro l;induction l with
 | nil=>intro _;rw[List.nil_append,List.takeWhile_cons,hc];rfl
 | cons d s ih=>intro h;rw[List.cons_append,List.takeWhile_cons,h d (by simp)];simp only[if_true];rw[ih (fun x hx=>h x (by simp[hx]))]
theorem A2i(u:Nat)(hu:(u:Int)<=Qh)(c:UInt8)(r:List UInt8)(hc:D9 c=false)(f line:Nat):lex (f+1) (Lib.decDigits u++c::r) line false=Kh [⟨2,line,[],(u:Nat)⟩] (lex f (c::r) line false):=by
 obtain⟨d,s,hd,hdig⟩:=Ty u;have htw:=Acl D9 c r hc (Lib.decDigits u) (A0q u);have hval:=A73 u;have hlen:((Lib.decDigits u)++c::r).drop (Lib.decDigits u).length=c::r:=List.drop_left;have hdr:48<=d.toNat/\d.toNat<=57:=by simpa [D9]using hdig
 have h10:(d==10)=false:=by rw[beq_eq_false_iff_ne];intro e;rw[e]at hdr;exact absurd hdr.1 (by decide)
 have h9:(d==9)=false:=by rw[beq_eq_false_iff_ne];intro e;rw[e]at hdr;exact absurd hdr.1 (by decide)
 have h32:(d==32)=false:=by rw[beq_eq_false_iff_ne];intro e;rw[e]at hdr;exact absurd hdr.1 (by decide)
 have h47:(d==47)=false:=by rw[beq_eq_false_iff_ne];intro e;rw[e]at hdr;exact absurd hdr.1 (by decide)
 have hp:Gr d=true:=by simp only[Gr,Bool.and_eq_true,decide_eq_true_eq];omega
 rw[hd,List.cons_append]at htw hlen;rw[hd]at hval;rw[hd,List.cons_append,lex];have htok:Er (d::(s++c::r))=some (⟨2,0,[],(u:Nat)⟩,(d::s).length):=by
  rw[Er,if_pos hdig,htw,numOf,hval,if_pos hu]
 simp only[h10,hp,h47,h9,h32,htok,hlen,Bool.not_true,Bool.and_false,Bool.or_false,Bool.false_and,if_false,Bool.false_eq_true];rfl
theorem So(n:Int)(h1:-9223372036854775808<=n)(h2:n<=9223372036854775807)(c:UInt8)(r:List UInt8)(hc:D9 c=false):∃k,∀f,lex (f+k) (Dp n++c::r) 1 false=Kh (Q0 n) (lex f (c::r) 1 false):=by
 unfold Dp Q0;by_cases h:n<0
 ·refine⟨6,fun f=>?_⟩;rw[if_pos h,if_pos h];obtain⟨d,s,hd,hdig⟩:=Ty (-(n+1)).toNat;have e1:lex (f+6) (40::45::(Lib.decDigits (-(n+1)).toNat++[45,49,41])++c::r) 1 false=Kh [⟨18,1,[],0⟩,⟨35,1,[],0⟩] (lex (f+4) (Lib.decDigits (-(n+1)).toNat++45::49::41::c::r) 1 false):=by
   rw[List.cons_append,List.cons_append,List.append_assoc,List.cons_append,List.cons_append,List.cons_append,List.nil_append,hd,List.cons_append];rfl
  have e2:lex (f+3) (45::49::41::c::r) 1 false=Kh [⟨35,1,[],0⟩,⟨2,1,[],1⟩,⟨19,1,[],0⟩] (lex f (c::r) 1 false):=rfl;rw[e1,A2i _ (by unfold Qh;omega) 45 _ (by decide),e2,show(((-(n+1)).toNat:Nat):Int)=-(n+1) by omega,←A23,←A23];rfl
 ·refine⟨1,fun f=>?_⟩;rw[if_neg h,if_neg h,A2i _ (by unfold Qh;omega) c r hc,show((n.toNat:Nat):Int)=n by omega]
theorem Rs(u:Nat)(h:u<10000000000000000000):(Lib.decDigits u).length<=19:=by
 rw[Lib.decDigits_length];rcases Nat.lt_or_ge 19 (Lib.nDigits u) with hk|hk
 ·exfalso;have:∀(k v:Nat),k+1<=Lib.nDigits v->10 ^ k<=v\/k=0:=by
   intro k;induction k with
   | zero=>intro v _;right;rfl
   | succ k ih=>
    intro v hv;left;by_cases h10:v<10
    ·rw[Lib.nDigits_small h10]at hv;omega
    ·rw[Lib.nDigits_big h10]at hv;rcases ih (v / 10) (by omega) with q|q
     ·rw[Nat.pow_succ];omega
     ·rw[q];omega
  rcases this 19 u (by omega) with q|q
  ·omega
  ·omega
 ·exact hk
theorem Py(n:Int)(h1:-9223372036854775808<=n)(h2:n<=9223372036854775807):(Dp n).length<=24:=by
 unfold Dp;split
 ·have:=Rs (-(n+1)).toNat (by omega);simp only[List.length_cons,List.length_append,List.length_nil];omega
 ·have:=Rs n.toNat (by omega);omega
theorem Xn(n:Int)(h1:-9223372036854775808<=n)(h2:n<=9223372036854775807):(Lib.itoa n).length<=20:=by
 unfold Lib.itoa;split
 ·have:=Rs n.natAbs (by omega);simp only[List.length_cons];omega
 ·have:=Rs n.toNat (by omega);omega
end
section
def D7(n:Int):Prop:=-9223372036854775808<=n/\n<=9223372036854775807
theorem M1(n:Int):D7 (wr n):=by unfold D7 wr RowKit.wrap64;omega
theorem Sh{n:Int}(h:D7 n):wr n=n:=by unfold D7 at h;unfold wr RowKit.wrap64;omega
theorem Ti(a b:Int)(ha:D7 a):D7 (a.tmod b):=by
 unfold D7 at *;have:=Int.natAbs_tmod a b;have h3:0<=a->0<=a.tmod b:=fun h=>Int.tmod_nonneg b h;have h4:a<0->a.tmod b<=0:=fun h=>by
  have:=Int.tmod_nonneg b (show 0<=-a by omega);rw[Int.neg_tmod]at this;omega
 have h2:a.natAbs % b.natAbs<=a.natAbs:=Nat.mod_le _ _;omega
end
section
set_option maxRecDepth 100000
open Go.Deep (BT)
def Ss:List UInt8:=[102,110,32,102,40,120,44,32,121,41,32,123,32,112,114,105,110,116,32,120,32,43,32,121,59,32,112,114,105,110,116,32,120,32,45,32,121,59,32,112,114,105,110,116,32,120,32,42,32,121,59,32,112,114,105,110,116,32,45,120,59,32,112,114,105,110,116,32,120,32,60,32,121,59,32,112,114,105,110,116,32,120,32,60,61,32,121,59,32,112,114,105,110,116,32,120,32,61,61,32,121,59,32,112,114,105,110,116,32,120,32,33,61,32,121,59,32,112,114,105,110,116,32,120,32,62,32,121,59,32,112,114,105,110,116,32,120,32,62,61,32,121,59,32,105,102,32,121,32,33,61,32,48,32,123,32,112,114,105,110,116,32,120,32,47,32,121,59,32,112,114,105,110,116,32,120,32,37,32,121,59,32,125,32,114,101,116,117,114,110,32,48,59,32,125,32,102,40]
def Lo(a b:Int):List UInt8:=Ss++(Dp a++44::32::(Dp b++41::59::32::102::40::(Dp a++44::32::(Dp b++[41,59]))))
def Zz:List Tk:=[⟨4,1,[],0⟩,⟨1,1,[102],0⟩,⟨18,1,[],0⟩,⟨1,1,[120],0⟩,⟨24,1,[],0⟩,⟨1,1,[121],0⟩,⟨19,1,[],0⟩,⟨20,1,[],0⟩,⟨12,1,[],0⟩,⟨1,1,[120],0⟩,⟨34,1,[],0⟩,⟨1,1,[121],0⟩,⟨25,1,[],0⟩,⟨12,1,[],0⟩,⟨1,1,[120],0⟩,⟨35,1,[],0⟩,⟨1,1,[121],0⟩,⟨25,1,[],0⟩,⟨12,1,[],0⟩,⟨1,1,[120],0⟩,⟨36,1,[],0⟩,⟨1,1,[121],0⟩,⟨25,1,[],0⟩,⟨12,1,[],0⟩,⟨35,1,[],0⟩,⟨1,1,[120],0⟩,⟨25,1,[],0⟩,⟨12,1,[],0⟩,⟨1,1,[120],0⟩,⟨30,1,[],0⟩,⟨1,1,[121],0⟩,⟨25,1,[],0⟩,⟨12,1,[],0⟩,⟨1,1,[120],0⟩,⟨31,1,[],0⟩,⟨1,1,[121],0⟩,⟨25,1,[],0⟩,⟨12,1,[],0⟩,⟨1,1,[120],0⟩,⟨27,1,[],0⟩,⟨1,1,[121],0⟩,⟨25,1,[],0⟩,⟨12,1,[],0⟩,⟨1,1,[120],0⟩,⟨29,1,[],0⟩,⟨1,1,[121],0⟩,⟨25,1,[],0⟩,⟨12,1,[],0⟩,⟨1,1,[120],0⟩,⟨32,1,[],0⟩,⟨1,1,[121],0⟩,⟨25,1,[],0⟩,⟨12,1,[],0⟩,⟨1,1,[120],0⟩,⟨33,1,[],0⟩,⟨1,1,[121],0⟩,⟨25,1,[],0⟩,⟨6,1,[],0⟩,⟨1,1,[121],0⟩,⟨29,1,[],0⟩,⟨2,1,[],0⟩,⟨20,1,[],0⟩,⟨12,1,[],0⟩,⟨1,1,[120],0⟩,⟨37,1,[],0⟩,⟨1,1,[121],0⟩,⟨25,1,[],0⟩,⟨12,1,[],0⟩,⟨1,1,[120],0⟩,⟨38,1,[],0⟩,⟨1,1,[121],0⟩,⟨25,1,[],0⟩,⟨21,1,[],0⟩,⟨9,1,[],0⟩,⟨2,1,[],0⟩,⟨25,1,[],0⟩,⟨21,1,[],0⟩,⟨1,1,[102],0⟩,⟨18,1,[],0⟩]
def rFt:List Tk:=[⟨19,1,[],0⟩,⟨25,1,[],0⟩,⟨1,1,[102],0⟩,⟨18,1,[],0⟩]
def Fy(a b:List Tk):List Tk:=Zz++(a++⟨24,1,[],0⟩::(b++(rFt++(a++⟨24,1,[],0⟩::(b++[⟨19,1,[],0⟩,⟨25,1,[],0⟩,⟨0,1,[],0⟩])))))
theorem Aed(d:UInt8)(s:List UInt8)(f:Nat):lex (f+138) (Ss++d::s) 1 false=Kh Zz (lex f (d::s) 1 false):=by kernel_rfl
theorem k7(d:UInt8)(s:List UInt8)(f:Nat):lex (f+2) (44::32::d::s) 1 false=Kh [⟨24,1,[],0⟩] (lex f (d::s) 1 false):=by kernel_rfl
theorem Ajm(d:UInt8)(s:List UInt8)(f:Nat):lex (f+5) (41::59::32::102::40::d::s) 1 false=Kh rFt (lex f (d::s) 1 false):=by kernel_rfl
theorem Afn(f:Nat):lex (f+3) [41,59] 1 false=.inr [⟨19,1,[],0⟩,⟨25,1,[],0⟩,⟨0,1,[],0⟩]:=by kernel_rfl
theorem A0f(n:Int):∃d s,Dp n=d::s:=by
 unfold Dp;split
 ·exact⟨_,_,rfl⟩
 ·obtain⟨d,s,h,_⟩:=Ty n.toNat;exact⟨d,s,h⟩
theorem Zd(a b:Int)(ha:D7 a)(hb:D7 b)(f:Nat)(hf:(Lo a b).length<f):lex f (Lo a b) 1 false=.inr (Fy (Q0 a) (Q0 b)):=by
 obtain⟨d,s,hd⟩:=A0f a;obtain⟨d',s',hd'⟩:=A0f b;obtain⟨k1,e1⟩:=So b hb.1 hb.2 41 [59] (by decide);obtain⟨k2,e2⟩:=So a ha.1 ha.2 44 (32::(Dp b++[41,59])) (by decide);obtain⟨k3,e3⟩:=So b hb.1 hb.2 41 (59::32::102::40::(Dp a++44::32::(Dp b++[41,59]))) (by decide);obtain⟨k4,e4⟩:=So a ha.1 ha.2 44 (32::(Dp b++41::59::32::102::40::(Dp a++44::32::(Dp b++[41,59])))) (by decide);have q1:=fun f=>k7 d' (s'++[41,59]) f;have q2:=fun f=>Ajm d (s++44::32::(Dp b++[41,59])) f;have q3:=fun f=>k7 d' (s'++41::59::32::102::40::(Dp a++44::32::(Dp b++[41,59]))) f;have q4:=fun f=>Aed d (s++44::32::(Dp b++41::59::32::102::40::(Dp a++44::32::(Dp b++[41,59])))) f;rw[←List.cons_append,←hd']at q1 q3;rw[←List.cons_append,←hd]at q2 q4;rw[U8 f (f+3+k1+2+k2+5+k3+2+k4+138) _ _ _ hf (by omega)];unfold Lo;rw[q4,e4,q3,e3,q2,e2,q1,e1,Afn];simp only[A7c,Fy,List.cons_append,List.nil_append]
def C0(n:Int):List Ad:=if n<0 then [⟨0,0,0,ofInt (-(n+1))⟩,⟨23,0,1,Ai⟩,⟨0,0,0,ofInt 1⟩,⟨15,0,1,Ai⟩] else [⟨0,0,0,ofInt n⟩]
def Fi:List Ad:=[⟨1,0,0,Ai⟩,⟨1,1,0,Ai⟩,⟨12,0,1,Ai⟩,⟨41,0,1,Ai⟩,⟨1,0,0,Ai⟩,⟨1,1,0,Ai⟩,⟨15,0,1,Ai⟩,⟨41,0,1,Ai⟩,⟨1,0,0,Ai⟩,⟨1,1,0,Ai⟩,⟨17,0,1,Ai⟩,⟨41,0,1,Ai⟩,⟨1,0,0,Ai⟩,⟨23,0,1,Ai⟩,⟨41,0,1,Ai⟩,⟨1,0,0,Ai⟩,⟨1,1,0,Ai⟩,⟨29,0,1,Ai⟩,⟨41,0,1,Ai⟩,⟨1,0,0,Ai⟩,⟨1,1,0,Ai⟩,⟨31,0,1,Ai⟩,⟨41,0,1,Ai⟩,⟨1,0,0,Ai⟩,⟨1,1,0,Ai⟩,⟨25,0,1,Ai⟩,⟨41,0,1,Ai⟩,⟨1,0,0,Ai⟩,⟨1,1,0,Ai⟩,⟨26,0,1,Ai⟩,⟨41,0,1,Ai⟩,⟨1,0,0,Ai⟩,⟨1,1,0,Ai⟩,⟨28,0,1,Ai⟩,⟨41,0,1,Ai⟩,⟨1,0,0,Ai⟩,⟨1,1,0,Ai⟩,⟨30,0,1,Ai⟩,⟨41,0,1,Ai⟩,⟨1,1,0,Ai⟩,⟨0,0,0,ofInt 0⟩,⟨26,0,1,Ai⟩,⟨8,52,1,Ai⟩,⟨1,0,0,Ai⟩,⟨1,1,0,Ai⟩,⟨19,0,1,Ai⟩,⟨41,0,1,Ai⟩,⟨1,0,0,Ai⟩,⟨1,1,0,Ai⟩,⟨21,0,1,Ai⟩,⟨41,0,1,Ai⟩,⟨6,52,0,Ai⟩,⟨0,0,0,ofInt 0⟩,⟨44,0,0,Ai⟩,⟨43,0,0,Ai⟩]
def Oa:Fn:=⟨[102],2,2,Fi⟩
def I1(a b:List Ad):List Ad:=a++(b++[⟨42,0,1,Ai⟩,⟨5,0,0,Ai⟩])
def Kb(a b:List Ad):Db:=⟨0,0,I1 a b++I1 a b,[Oa]⟩
def G1(ts:List Tk):BT A6:=match Af 100000 10 0 .nil ⟨ts,0⟩ with
 | some r=>r.1
 | none=>.nil
theorem j7(a b:Int):Af 100000 10 0 .nil ⟨Fy [⟨2,1,[],a⟩] [⟨2,1,[],b⟩],0⟩=some (G1 (Fy [⟨2,1,[],a⟩] [⟨2,1,[],b⟩]),⟨[⟨0,1,[],0⟩],0⟩):=by kernel_rfl
theorem Aks(a b:Int):nest (Fy [⟨2,1,[],a⟩] [⟨2,1,[],b⟩]) 0=0:=by kernel_rfl
theorem Aci(a b:Int):Ez (Cs (G1 (Fy [⟨2,1,[],a⟩] [⟨2,1,[],b⟩]))) (G1 (Fy [⟨2,1,[],a⟩] [⟨2,1,[],b⟩])) [] [] (0,0)=(0,0):=by kernel_rfl
theorem Aix(a b:Int):Lt (G1 (Fy [⟨2,1,[],a⟩] [⟨2,1,[],b⟩]))=Kb [⟨0,0,0,ofInt a⟩] [⟨0,0,0,ofInt b⟩]:=by kernel_rfl
theorem A15(a b:Int):Af 100000 10 0 .nil ⟨Fy [⟨2,1,[],a⟩] [⟨18,1,[],0⟩,⟨35,1,[],0⟩,⟨2,1,[],b⟩,⟨35,1,[],0⟩,⟨2,1,[],1⟩,⟨19,1,[],0⟩],0⟩=some (G1 (Fy [⟨2,1,[],a⟩] [⟨18,1,[],0⟩,⟨35,1,[],0⟩,⟨2,1,[],b⟩,⟨35,1,[],0⟩,⟨2,1,[],1⟩,⟨19,1,[],0⟩]),⟨[⟨0,1,[],0⟩],0⟩):=by kernel_rfl
theorem A4x(a b:Int):nest (Fy [⟨2,1,[],a⟩] [⟨18,1,[],0⟩,⟨35,1,[],0⟩,⟨2,1,[],b⟩,⟨35,1,[],0⟩,⟨2,1,[],1⟩,⟨19,1,[],0⟩]) 0=0:=by kernel_rfl
theorem Agb(a b:Int):Ez (Cs (G1 (Fy [⟨2,1,[],a⟩] [⟨18,1,[],0⟩,⟨35,1,[],0⟩,⟨2,1,[],b⟩,⟨35,1,[],0⟩,⟨2,1,[],1⟩,⟨19,1,[],0⟩]))) (G1 (Fy [⟨2,1,[],a⟩] [⟨18,1,[],0⟩,⟨35,1,[],0⟩,⟨2,1,[],b⟩,⟨35,1,[],0⟩,⟨2,1,[],1⟩,⟨19,1,[],0⟩])) [] [] (0,0)=(0,0):=by kernel_rfl
theorem Ais(a b:Int):Lt (G1 (Fy [⟨2,1,[],a⟩] [⟨18,1,[],0⟩,⟨35,1,[],0⟩,⟨2,1,[],b⟩,⟨35,1,[],0⟩,⟨2,1,[],1⟩,⟨19,1,[],0⟩]))=Kb [⟨0,0,0,ofInt a⟩] [⟨0,0,0,ofInt b⟩,⟨23,0,1,Ai⟩,⟨0,0,0,ofInt 1⟩,⟨15,0,1,Ai⟩]:=by kernel_rfl
theorem Xg(a b:Int):Af 100000 10 0 .nil ⟨Fy [⟨18,1,[],0⟩,⟨35,1,[],0⟩,⟨2,1,[],a⟩,⟨35,1,[],0⟩,⟨2,1,[],1⟩,⟨19,1,[],0⟩] [⟨2,1,[],b⟩],0⟩=some (G1 (Fy [⟨18,1,[],0⟩,⟨35,1,[],0⟩,⟨2,1,[],a⟩,⟨35,1,[],0⟩,⟨2,1,[],1⟩,⟨19,1,[],0⟩] [⟨2,1,[],b⟩]),⟨[⟨0,1,[],0⟩],0⟩):=by kernel_rfl
theorem Adr(a b:Int):nest (Fy [⟨18,1,[],0⟩,⟨35,1,[],0⟩,⟨2,1,[],a⟩,⟨35,1,[],0⟩,⟨2,1,[],1⟩,⟨19,1,[],0⟩] [⟨2,1,[],b⟩]) 0=0:=by kernel_rfl
theorem Aio(a b:Int):Ez (Cs (G1 (Fy [⟨18,1,[],0⟩,⟨35,1,[],0⟩,⟨2,1,[],a⟩,⟨35,1,[],0⟩,⟨2,1,[],1⟩,⟨19,1,[],0⟩] [⟨2,1,[],b⟩]))) (G1 (Fy [⟨18,1,[],0⟩,⟨35,1,[],0⟩,⟨2,1,[],a⟩,⟨35,1,[],0⟩,⟨2,1,[],1⟩,⟨19,1,[],0⟩] [⟨2,1,[],b⟩])) [] [] (0,0)=(0,0):=by kernel_rfl
theorem Ael(a b:Int):Lt (G1 (Fy [⟨18,1,[],0⟩,⟨35,1,[],0⟩,⟨2,1,[],a⟩,⟨35,1,[],0⟩,⟨2,1,[],1⟩,⟨19,1,[],0⟩] [⟨2,1,[],b⟩]))=Kb [⟨0,0,0,ofInt a⟩,⟨23,0,1,Ai⟩,⟨0,0,0,ofInt 1⟩,⟨15,0,1,Ai⟩] [⟨0,0,0,ofInt b⟩]:=by kernel_rfl
theorem A0y(a b:Int):Af 100000 10 0 .nil ⟨Fy [⟨18,1,[],0⟩,⟨35,1,[],0⟩,⟨2,1,[],a⟩,⟨35,1,[],0⟩,⟨2,1,[],1⟩,⟨19,1,[],0⟩] [⟨18,1,[],0⟩,⟨35,1,[],0⟩,⟨2,1,[],b⟩,⟨35,1,[],0⟩,⟨2,1,[],1⟩,⟨19,1,[],0⟩],0⟩=some (G1 (Fy [⟨18,1,[],0⟩,⟨35,1,[],0⟩,⟨2,1,[],a⟩,⟨35,1,[],0⟩,⟨2,1,[],1⟩,⟨19,1,[],0⟩] [⟨18,1,[],0⟩,⟨35,1,[],0⟩,⟨2,1,[],b⟩,⟨35,1,[],0⟩,⟨2,1,[],1⟩,⟨19,1,[],0⟩]),⟨[⟨0,1,[],0⟩],0⟩):=by kernel_rfl
theorem Ajb(a b:Int):nest (Fy [⟨18,1,[],0⟩,⟨35,1,[],0⟩,⟨2,1,[],a⟩,⟨35,1,[],0⟩,⟨2,1,[],1⟩,⟨19,1,[],0⟩] [⟨18,1,[],0⟩,⟨35,1,[],0⟩,⟨2,1,[],b⟩,⟨35,1,[],0⟩,⟨2,1,[],1⟩,⟨19,1,[],0⟩]) 0=0:=by kernel_rfl
theorem A6w(a b:Int):Ez (Cs (G1 (Fy [⟨18,1,[],0⟩,⟨35,1,[],0⟩,⟨2,1,[],a⟩,⟨35,1,[],0⟩,⟨2,1,[],1⟩,⟨19,1,[],0⟩] [⟨18,1,[],0⟩,⟨35,1,[],0⟩,⟨2,1,[],b⟩,⟨35,1,[],0⟩,⟨2,1,[],1⟩,⟨19,1,[],0⟩]))) (G1 (Fy [⟨18,1,[],0⟩,⟨35,1,[],0⟩,⟨2,1,[],a⟩,⟨35,1,[],0⟩,⟨2,1,[],1⟩,⟨19,1,[],0⟩] [⟨18,1,[],0⟩,⟨35,1,[],0⟩,⟨2,1,[],b⟩,⟨35,1,[],0⟩,⟨2,1,[],1⟩,⟨19,1,[],0⟩])) [] [] (0,0)=(0,0):=by kernel_rfl
theorem A9e(a b:Int):Lt (G1 (Fy [⟨18,1,[],0⟩,⟨35,1,[],0⟩,⟨2,1,[],a⟩,⟨35,1,[],0⟩,⟨2,1,[],1⟩,⟨19,1,[],0⟩] [⟨18,1,[],0⟩,⟨35,1,[],0⟩,⟨2,1,[],b⟩,⟨35,1,[],0⟩,⟨2,1,[],1⟩,⟨19,1,[],0⟩]))=Kb [⟨0,0,0,ofInt a⟩,⟨23,0,1,Ai⟩,⟨0,0,0,ofInt 1⟩,⟨15,0,1,Ai⟩] [⟨0,0,0,ofInt b⟩,⟨23,0,1,Ai⟩,⟨0,0,0,ofInt 1⟩,⟨15,0,1,Ai⟩]:=by kernel_rfl
theorem Q9(l:List UInt8)(ts:List Tk)(hl:l.length<=2000)(h:∀f,l.length<f->lex f l 1 false=.inr ts)(h1:Af 100000 10 0 .nil ⟨ts,0⟩=some (G1 ts,⟨[⟨0,1,[],0⟩],0⟩))(h2:nest ts 0=0)(h3:Ez (Cs (G1 ts)) (G1 ts) [] [] (0,0)=(0,0)):Ho l=((0,0),some (G1 ts)):=by
 unfold Ho;rw[if_neg (by omega),h _ (Nat.lt_succ_self _)];simp only[h1,h2,h3,ne_eq,not_true_eq_false,if_false]
theorem Akv(a b:Int)(ha:D7 a)(hb:D7 b):∃c,Ho (Lo a b)=((0,0),some c)/\Lt c=Kb (C0 a) (C0 b):=by
 have hl:(Lo a b).length<=2000:=by
  have:=Py a ha.1 ha.2;have:=Py b hb.1 hb.2;have h0:Ss.length=198:=by kernel_rfl
  simp only[Lo,List.length_append,List.length_cons,List.length_nil,h0];omega
 have hx:=fun f hf=>Zd a b ha hb f hf;unfold Q0 at hx;unfold C0;by_cases h1:a<0 <;> by_cases h2:b<0
 ·simp only[if_pos h1,if_pos h2]at hx ⊢;exact⟨_,Q9 _ _ hl hx (A0y _ _) (Ajb _ _) (A6w _ _),A9e _ _⟩
 ·simp only[if_pos h1,if_neg h2]at hx ⊢;exact⟨_,Q9 _ _ hl hx (Xg _ _) (Adr _ _) (Aio _ _),Ael _ _⟩
 ·simp only[if_neg h1,if_pos h2]at hx ⊢;exact⟨_,Q9 _ _ hl hx (A15 _ _) (A4x _ _) (Agb _ _),Ais _ _⟩
 ·simp only[if_neg h1,if_neg h2]at hx ⊢;exact⟨_,Q9 _ _ hl hx (j7 _ _) (Aks _ _) (Aci _ _),Aix _ _⟩
theorem Qe(l:List UInt8)(ts:List Tk)(h:∀f,l.length<f->lex f l 1 false=.inr ts)(h1:Af 100000 10 0 .nil ⟨ts,0⟩=some (G1 ts,⟨[⟨0,1,[],0⟩],0⟩))(hb:bsize (G1 ts)<=4002):P9 l:=fun ts' h'=>by
 have:=(h _ (Nat.lt_succ_self _)).symm.trans h';cases this;exact⟨_,h1,fun _=>hb⟩
theorem A6y(a b:Int):bsize (G1 (Fy [⟨2,1,[],a⟩] [⟨2,1,[],b⟩]))<=4002:=of_decide_eq_true (by kernel_rfl)
theorem A5z(a b:Int):bsize (G1 (Fy [⟨2,1,[],a⟩] [⟨18,1,[],0⟩,⟨35,1,[],0⟩,⟨2,1,[],b⟩,⟨35,1,[],0⟩,⟨2,1,[],1⟩,⟨19,1,[],0⟩]))<=4002:=of_decide_eq_true (by kernel_rfl)
theorem A7q(a b:Int):bsize (G1 (Fy [⟨18,1,[],0⟩,⟨35,1,[],0⟩,⟨2,1,[],a⟩,⟨35,1,[],0⟩,⟨2,1,[],1⟩,⟨19,1,[],0⟩] [⟨2,1,[],b⟩]))<=4002:=of_decide_eq_true (by kernel_rfl)
theorem Ad2(a b:Int):bsize (G1 (Fy [⟨18,1,[],0⟩,⟨35,1,[],0⟩,⟨2,1,[],a⟩,⟨35,1,[],0⟩,⟨2,1,[],1⟩,⟨19,1,[],0⟩] [⟨18,1,[],0⟩,⟨35,1,[],0⟩,⟨2,1,[],b⟩,⟨35,1,[],0⟩,⟨2,1,[],1⟩,⟨19,1,[],0⟩]))<=4002:=of_decide_eq_true (by kernel_rfl)
theorem Amv(a b:Int)(ha:D7 a)(hb:D7 b):P9 (Lo a b):=by
 have hx:=fun f hf=>Zd a b ha hb f hf;unfold Q0 at hx;by_cases h1:a<0 <;> by_cases h2:b<0
 ·simp only[if_pos h1,if_pos h2]at hx;exact Qe _ _ hx (A0y _ _) (Ad2 _ _)
 ·simp only[if_pos h1,if_neg h2]at hx;exact Qe _ _ hx (Xg _ _) (A7q _ _)
 ·simp only[if_neg h1,if_pos h2]at hx;exact Qe _ _ hx (A15 _ _) (A5z _ _)
 ·simp only[if_neg h1,if_neg h2]at hx;exact Qe _ _ hx (j7 _ _) (A6y _ _)
end
section
open Go.Deep (BT)
def Jc(v:PV):Prop:=v.t.length<=2000/\D7 v.n/\v.k≠4
def M7(b:Dg):Prop:=∀n∈b.ints,D7 n
def Jr(o:Nat):Prop:=o<=44/\o≠2/\o≠4/\(o<36\/40<o)
def Jp(N:Nat)(i:Ad):Prop:=0<=i.arg/\i.arg<=5000/\i.v.r=none/\i.v.k≠4/\Jc i.v/\(i.op=42->i.arg.toNat<N)/\Jr i.op
def Pj(N B:Nat)(fo:Form):Prop:=fo.slots<=B/\fo.bet.length<=B/\(∀i∈fo.steps,Jp N i)/\∀x∈fo.bet,x.like.r=none
def Mz(N B:Nat)(f:Fn):Prop:=f.slots<=B/\f.params<=f.slots/\∀i∈f.steps,Jp N i
def Oe(N B k:Nat)(f:Fr):Prop:=-(B:Int)<=f.base/\f.base<=k/\∀i∈f.steps,Jp N i
structure Nf (B : Nat) (P : Db) : Prop where
 slots:P.slots<=B
 main:∀i∈P.main,Jp P.fns.length i
 fns:∀f∈P.fns,Mz P.fns.length B f
structure Inv (N B k : Nat) (m : MS) : Prop where
 vals:m.vals.length<=k
 str:∀v∈m.vals,Jc v
 gls:∀v∈m.gl,Jc v
 ars:∀l∈m.arr,∀v∈l,Jc v
 now:Oe N B k m.now
 calls:∀f∈m.calls,Oe N B k f
 lots:∀l∈m.lots,∀fo,l.form=some fo->Pj N B fo
 fuel:m.fuel<=2000
 depth:m.calls.length<=40
 out:m.out.length<=100
 cells:m.cells<=500
 arl:∀l∈m.arr,l.length<=m.cells
 lotn:m.lots.length=N
 lotc:∀l∈m.lots,l.calls<=k/\l.fast<=k/\l.drops<=k
variable {N B k:Nat} {m:MS} {P:Db} {bets:List Dg}
theorem Oe.mono{k':Nat}{f:Fr}(h:Oe N B k f)(hk:k<=k'):Oe N B k' f:=⟨h.1,by have:=h.2.1;omega,h.2.2⟩
theorem Inv.mono{k':Nat}(h:Inv N B k m)(hk:k<=k'):Inv N B k' m:=
 ⟨by have:=h.vals;omega,h.str,h.gls,h.ars,h.now.mono hk,fun f hf=>(h.calls f hf).mono hk,h.lots,h.fuel,h.depth,h.out,h.cells,h.arl,h.lotn,fun l hl=>by have:=h.lotc l hl;omega⟩
theorem S9:D7 0:=⟨by decide,by decide⟩
theorem Pz:Jc Ai:=⟨by simp[Ai],S9,by show(0:Nat)≠4;omega⟩
theorem Qt{n:Int}(h:D7 n):Jc (ofInt n):=⟨by simp[ofInt],h,by show(2:Nat)≠4;omega⟩
theorem Mm(n:Int):Jc (ofInt (wr n)):=Qt (M1 n)
theorem M5(b:Bool):Jc (ofBool b):=⟨by simp[ofBool],S9,by show(1:Nat)≠4;omega⟩
theorem Ts{l:List PV}(h:∀v∈l,Jc v)(i:Nat):Jc ((l[i]?).getD Ai):=by
 rcases Nat.lt_or_ge i l.length with q|q
 ·rw[List.getElem?_eq_getElem q];exact h _ (List.getElem_mem q)
 ·rw[List.getElem?_eq_none q];exact Pz
theorem Inv.at'(h:Inv N B k m)(i:Int):Jc (m.at' i):=by
 unfold MS.at';split
 ·exact Pz
 ·exact Ts h.str _
theorem Inv.top(h:Inv N B k m):Jc m.top:=by
 unfold MS.top;rw[List.getLastD_eq_getLast?,List.getLast?_eq_getElem?];exact Ts h.str _
theorem Inv.push(h:Inv N B k m){v:PV}(hv:Jc v):Inv N B (k+1) (m.push v):=by
 have h':=h.mono (Nat.le_succ k);refine⟨by simp only[MS.push,List.length_append,List.length_singleton];have:=h.vals;omega,?_,h'.gls,h'.ars,h'.now,h'.calls,h'.lots,h'.fuel,h'.depth,h'.out,h'.cells,h'.arl,h'.lotn,h'.lotc⟩;intro u hu;simp only[MS.push,List.mem_append,List.mem_singleton]at hu;rcases hu with hu|rfl
 ·exact h.str u hu
 ·exact hv
theorem Inv.pop(h:Inv N B k m):Inv N B k m.pop:=
 ⟨by have:=h.vals;simp only[MS.pop,List.length_dropLast];omega,fun v hv=>h.str v (List.dropLast_subset _ hv),h.gls,h.ars,h.now,h.calls,h.lots,h.fuel,h.depth,h.out,h.cells,h.arl,h.lotn,h.lotc⟩
theorem Inv.fail(h:Inv N B k m)(c:Nat)(i:Ad):Inv N B k (m.fail c i):=⟨h.vals,h.str,h.gls,h.ars,h.now,h.calls,h.lots,h.fuel,h.depth,h.out,h.cells,h.arl,h.lotn,h.lotc⟩
theorem Inv.jump(h:Inv N B k m)(a:Int):Inv N B k (m.jump a):=⟨h.vals,h.str,h.gls,h.ars,⟨h.now.1,h.now.2.1,h.now.2.2⟩,h.calls,h.lots,h.fuel,h.depth,h.out,h.cells,h.arl,h.lotn,h.lotc⟩
theorem Inv.cut(h:Inv N B k m)(n:Int):Inv N B k (m.cut n):=by
 refine⟨?_,?_,h.gls,h.ars,h.now,h.calls,h.lots,h.fuel,h.depth,h.out,h.cells,h.arl,h.lotn,h.lotc⟩
 ·have:=h.vals;simp only[MS.cut];split
  ·exact this
  ·simp only[List.length_take];omega
 ·intro v hv;simp only[MS.cut]at hv;split at hv
  ·exact h.str v hv
  ·exact h.str v (List.mem_of_mem_take hv)
theorem Inv.put(h:Inv N B k m)(n:Int){v:PV}(hv:Jc v):Inv N B k (m.put n v):=by
 refine⟨?_,?_,h.gls,h.ars,h.now,h.calls,h.lots,h.fuel,h.depth,h.out,h.cells,h.arl,h.lotn,h.lotc⟩
 ·have:=h.vals;simp only[MS.put];split
  ·exact this
  ·simp only[List.length_set];exact this
 ·intro u hu;simp only[MS.put]at hu;split at hu
  ·exact h.str u hu
  ·rcases List.mem_or_eq_of_mem_set hu with q|q
   ·exact h.str u q
   ·rw[q];exact hv
theorem Inv.Ke(h:Inv N B k m)(i:Ad){f:MS->MS}{k':Nat}(hk:k<=k')(hf:∀m',Inv N B k m'->Inv N B k' (f m')):Inv N B k' (m.Ke i f):=by
 unfold MS.Ke;split
 ·exact(h.fail 8 i).mono hk
 ·exact hf _ ⟨h.vals,h.str,h.gls,h.ars,h.now,h.calls,h.lots,by have:=h.fuel;show m.fuel-1<=2000;omega,h.depth,h.out,h.cells,h.arl,h.lotn,h.lotc⟩
theorem Inv.join(h:Inv N B k m)(i:Ad):Inv N B (k+1) (m.join i):=by
 unfold MS.join MS.two;dsimp only;split
 ·exact((h.pop.pop).fail 10 i).mono (Nat.le_succ k)
 ·rename_i hn;refine h.pop.pop.push ⟨?_,S9,by show(3:Nat)≠4;omega⟩;simp only[ofStr,List.length_append];omega
theorem Inv.ints(h:Inv N B k m)(i:Ad){f:Int->Int->MS->MS}(hf:∀a b m',D7 a->Inv N B k m'->Inv N B (k+1) (f a b m')):Inv N B (k+1) (m.ints i f):=by
 unfold MS.ints MS.two;split
 ·exact hf _ _ _ h.pop.top.2.1 h.pop.pop
 ·exact(h.fail 5 i).mono (Nat.le_succ k)
theorem Inv.Qc(h:Inv N B k m){f:Fr}(hf:Oe N B k f):Inv N B k { m with now:=f }:=⟨h.vals,h.str,h.gls,h.ars,hf,h.calls,h.lots,h.fuel,h.depth,h.out,h.cells,h.arl,h.lotn,h.lotc⟩
theorem Inv.begin(h:Inv N B k m){slots args:Nat}{steps:List Ad}(hs:slots<=B)(ha:args<=B)(hi:∀i∈steps,Jp N i):Inv N B (k+B) (m.begin slots steps args):=by
 have h':=h.mono (Nat.le_add_right k B);refine⟨?_,?_,h'.gls,h'.ars,⟨?_,?_,hi⟩,h'.calls,h'.lots,h'.fuel,h'.depth,h'.out,h'.cells,h'.arl,h'.lotn,h'.lotc⟩
 ·have:=h.vals;simp only[MS.begin,Ju,List.length_append,List.length_replicate];omega
 ·intro v hv;simp only[MS.begin,Ju,List.mem_append,List.mem_replicate]at hv;rcases hv with hv|⟨_,rfl⟩
  ·exact h.str v hv
  ·exact Pz
 ·simp only[MS.begin];omega
 ·have:=h.vals;simp only[MS.begin];omega
theorem Inv.Kt(h:Inv N B k m)(n:Nat){l:Gs}(hl:∀fo,l.form=some fo->Pj N B fo)(hc:l.calls<=k/\l.fast<=k/\l.drops<=k):Inv N B k (m.Kt n l):=by
 refine⟨h.vals,h.str,h.gls,h.ars,h.now,h.calls,?_,h.fuel,h.depth,h.out,h.cells,h.arl,by show(m.lots.set n l).length=N;rw[List.length_set];exact h.lotn,fun x hx=>?_⟩
 ·intro x hx;simp only[MS.Kt]at hx;rcases List.mem_or_eq_of_mem_set hx with q|q
  ·exact h.lots x q
  ·rw[q];exact hl
 ·simp only[MS.Kt]at hx;rcases List.mem_or_eq_of_mem_set hx with q|q
  ·exact h.lotc x q
  ·rw[q];exact hc
def Lf(x:Kn):Prop:=x.whole=true->x.like.r=none/\x.like.k≠4/\Jc x.like
theorem Rc:Lf Ds:=by intro h;cases h
theorem Af0(d:Nat):Lf (D4 d):=by intro h;cases h
theorem Amn:Lf (I0 Ai):=fun _=>⟨rfl,by show(0:Nat)≠4;decide,Pz⟩
theorem Adw{n:Int}(h:D7 n):Lf (I0 (ofInt n)):=fun _=>⟨rfl,by show(2:Nat)≠4;decide,Qt h⟩
theorem A3z{b:Dg}(h:M7 b)(i:Nat):D7 ((b.ints[i]?).getD 0):=by
 rcases Nat.lt_or_ge i b.ints.length with q|q
 ·rw[List.getElem?_eq_getElem q];exact h _ (List.getElem_mem q)
 ·rw[List.getElem?_eq_none q];exact S9
theorem Ad5{b:Dg}(hb:M7 b)(i:Nat):Lf (G7 b i):=by
 unfold G7;split
 ·exact Rc
 ·repeat' (first|exact Rc|exact Af0 _|exact Amn|exact Adw (A3z hb _)|split)
theorem Aii{ks:List Kn}(h:∀x∈ks,Lf x)(i:Nat):Lf ((ks[i]?).getD Ds):=by
 rcases Nat.lt_or_ge i ks.length with q|q
 ·rw[List.getElem?_eq_getElem q];exact h _ (List.getElem_mem q)
 ·rw[List.getElem?_eq_none q];exact Rc
theorem Aei:∀(l:List Ad) (ks:List Kn),(∀x∈ks,Lf x)->∀x∈Jy l ks,Lf x:=by
 intro l;induction l with
 | nil=>intro ks h;exact h
 | cons i r ih=>
  intro ks h;rw[Jy];refine ih _ ?_;split
  ·intro x hx;rcases List.mem_or_eq_of_mem_set hx with q|q
   ·exact h x q
   ·rw[q];exact Rc
  ·exact h
theorem Ajd{o:Nat}(h:Gb o=42):o=42:=by
 unfold Gb at h;repeat (first|(split at h;cases h)|exact h)
theorem Aa6{i:Ad}{ab:List Kn}(h:(if F9 ab 2=true then Gb (if(if i.op=12/\F9 ab 3=true then 14 else i.op)=23/\(Dx ab).sure 2=true then 24 else(if i.op=12/\F9 ab 3=true then 14 else i.op)) else(if(if i.op=12/\F9 ab 3=true then 14 else i.op)=23/\(Dx ab).sure 2=true then 24 else(if i.op=12/\F9 ab 3=true then 14 else i.op)))=42):i.op=42:=by
 have h2:(if(if i.op=12/\F9 ab 3=true then 14 else i.op)=23/\(Dx ab).sure 2=true then 24 else(if i.op=12/\F9 ab 3=true then 14 else i.op))=42:=by
  split at h
  ·exact Ajd h
  ·exact h
 clear h;split at h2
 ·cases h2
 ·split at h2
  ·cases h2
  ·exact h2
theorem A3g{o:Nat}(h:Jr o):Jr (Gb o):=by
 unfold Gb;unfold Jr at *;repeat (first|(split;omega)|exact h)
theorem A6j{i:Ad}{ab:List Kn}(h:Jr i.op):Jr (if F9 ab 2=true then Gb (if(if i.op=12/\F9 ab 3=true then 14 else i.op)=23/\(Dx ab).sure 2=true then 24 else(if i.op=12/\F9 ab 3=true then 14 else i.op)) else(if(if i.op=12/\F9 ab 3=true then 14 else i.op)=23/\(Dx ab).sure 2=true then 24 else(if i.op=12/\F9 ab 3=true then 14 else i.op))):=by
 have h1:Jr (if i.op=12/\F9 ab 3=true then 14 else i.op):=by
  split
  ·unfold Jr;omega
  ·exact h
 generalize (if i.op=12/\F9 ab 3=true then 14 else i.op)=o1 at *;have h2:Jr (if o1=23/\(Dx ab).sure 2=true then 24 else o1):=by
  split
  ·unfold Jr;omega
  ·exact h1
 split
 ·exact A3g h2
 ·exact h2
theorem Aid{ps ab:List Kn}{i:Ad}(hp:∀x∈ps,Lf x)(hi:Jp N i):Jp N (quick ps ab i):=by
 have hl:Lf (Ff ps i):=by
  unfold Ff;split
  ·exact Aii hp _
  ·exact Rc
 unfold quick;split
 ·rename_i hw;obtain⟨h1,h2,h3⟩:=hl hw;exact⟨by simp,by simp,h1,h2,h3,fun q=>(by cases q),(by unfold Jr;dsimp only;omega)⟩
 ·exact⟨hi.1,hi.2.1,hi.2.2.1,hi.2.2.2.1,hi.2.2.2.2.1,fun q=>hi.2.2.2.2.2.1 (Aa6 q),A6j hi.2.2.2.2.2.2⟩
theorem A7v{ps:List Kn}(hp:∀x∈ps,Lf x):∀(l:List Ad) (ab:List Kn),(∀i∈l,Jp N i)->∀i∈Gh P ps ab l,Jp N i:=by
 intro l;induction l with
 | nil=>intro ab _ i hi;simp[Gh]at hi
 | cons j r ih=>
  intro ab h i hi;rw[Gh,List.mem_cons]at hi;rcases hi with rfl|hi
  ·exact Aid hp (h j (by simp))
  ·exact ih _ (fun x hx=>h x (by simp[hx])) i hi
theorem Ug(b:Dg)(i:Nat):(G7 b i).like.r=none:=by
 unfold G7;split
 ·rfl
 ·repeat' (first|rfl|split)
theorem A5s{f:Fn}(hf:Mz N B f){b:Dg}(hb:M7 b):Pj N B (Ge P b f):=by
 unfold Ge;dsimp only;refine⟨hf.1,by simp only[List.length_map,List.length_range];have:=hf.1;have:=hf.2.1;omega,?_⟩;refine⟨A7v (Aei _ _ ?_) _ _ hf.2.2,fun x hx=>?_⟩;rotate_left
 ·simp only[List.mem_map]at hx;obtain⟨i,_,rfl⟩:=hx;exact Ug b i
 intro x hx;simp only[List.mem_map]at hx;obtain⟨i,_,rfl⟩:=hx;exact Ad5 hb i
theorem Inv.A2f(h:Inv N B k m)(n:Nat)(l:Gs)(hlc:l.calls<=k/\l.fast<=k/\l.drops<=k){f:Fn}(hf:Mz N B f)(d:Nat)(hd:d<=k+1):Inv N B (k+B+1) ((m.Kt n ⟨l.calls+1,none,l.fast,d⟩).begin f.slots f.steps f.params):=by
 have:=((h.mono (Nat.le_succ k)).Kt n (l:=⟨l.calls+1,none,l.fast,d⟩) (by intro fo q;cases q) ⟨by dsimp only;omega,by dsimp only;omega,hd⟩).begin hf.1 (by have:=hf.1;have:=hf.2.1;omega) hf.2.2 (args:=f.params);rw[show k+B+1=k+1+B by omega];exact this
theorem Inv.A2r(h:Inv N B k m)(n:Nat)(l:Gs)(hlc:l.calls<=k/\l.fast<=k/\l.drops<=k){f:Fn}(hf:Mz N B f){fo:Form}(q:Pj N B fo):Inv N B (k+B+1) (if J0 m ((m.vals.length:Nat)-(fo.bet.length:Nat)) fo.bet then(m.Kt n ⟨l.calls+1,some fo,l.fast+1,l.drops⟩).begin fo.slots fo.steps f.params else(m.Kt n ⟨l.calls+1,none,l.fast,l.drops+1⟩).begin f.slots f.steps f.params):=by
 split
 ·have:=((h.mono (Nat.le_succ k)).Kt n (l:=⟨l.calls+1,some fo,l.fast+1,l.drops⟩) (by intro fo' q';injection q' with q';rw[←q'];exact q) ⟨by dsimp only;omega,by dsimp only;omega,by dsimp only;omega⟩).begin q.1 (by have:=hf.1;have:=hf.2.1;omega) q.2.2.1 (args:=f.params);rw[show k+B+1=k+1+B by omega];exact this
 ·exact h.A2f n l hlc hf _ (by omega)
theorem Aar{n c:Nat}:∀{l:List Dg} {b:Dg},taken n c l=some b->b∈l:=by
 intro l;induction l with
 | nil=>intro b h;simp[taken]at h
 | cons x r ih=>
  intro b h;rw[taken]at h;cases hq:taken n c r with
  | some y=>rw[hq]at h;injection h with h;rw[←h];exact List.mem_cons_of_mem _ (ih hq)
  | none=>
   rw[hq]at h;dsimp only at h;split at h
   ·injection h with h;rw[←h];exact List.mem_cons_self
   ·cases h
theorem Inv.body(h:Inv N B k m)(hbt:∀x∈bets,M7 x)(n:Nat){f:Fn}(hf:Mz N B f):Inv N B (k+B+1) (m.body P bets n f):=by
 unfold MS.body;cases hl:m.lots[n]? with
 | none=>exact h.mono (by omega)
 | some l=>
  have hlc:=h.lotc l (List.mem_of_getElem? hl);dsimp only;cases ht:taken n l.calls bets with
  | none=>
   cases hx:l.form with
   | none=>exact h.A2f n l hlc hf _ (by omega)
   | some fo=>exact h.A2r n l hlc hf (h.lots l (List.mem_of_getElem? hl) fo hx)
  | some b=>exact h.A2r n l hlc hf (A5s hf (hbt b (Aar ht)))
theorem Inv.N7(h:Inv N B k m)(i:Ad):Inv N B k (m.N7 i):=by
 unfold MS.N7;split
 ·exact h.pop.fail 10 i
 ·rename_i hn;have:=h.out;exact⟨h.pop.vals,h.pop.str,h.gls,h.ars,h.now,h.calls,h.lots,h.fuel,h.depth,by simp only[List.length_append,List.length_singleton];show m.out.length+1<=100;omega,h.cells,h.arl,h.lotn,h.lotc⟩
theorem Inv.leave(h:Inv N B k m){v:PV}(hv:Jc v):Inv N B (k+1) { (m.cut m.now.base).push v with now:=m.calls.getLastD ⟨[],0,0⟩,calls:=m.calls.dropLast }:=by
 have q:=(h.cut m.now.base).push hv;have hl:Oe N B k (m.calls.getLastD ⟨[],0,0⟩):=by
  rw[List.getLastD_eq_getLast?];cases hc:m.calls.getLast? with
  | none=>exact⟨by simp,by simp,by simp⟩
  | some f=>exact h.calls f (List.mem_of_getLast? hc)
 exact⟨q.vals,q.str,q.gls,q.ars,hl.mono (Nat.le_succ k),fun f hf=>q.calls f (List.dropLast_subset _ hf),q.lots,q.fuel,by have:=h.depth;show m.calls.dropLast.length<=40;simp only[List.length_dropLast];omega,q.out,q.cells,q.arl,q.lotn,q.lotc⟩
theorem Inv.act(h:Inv N B k m)(hN:P.fns.length=N)(hP:Nf B P)(hbt:∀x∈bets,M7 x)(i:Ad)(hi:Jp N i):Inv N B (k+B+1) (B2 P bets i m):=by
 have k1:∀{m'},Inv N B (k+1) m'->Inv N B (k+B+1) m':=fun q=>q.mono (by omega);have k0:∀{m'},Inv N B k m'->Inv N B (k+B+1) m':=fun q=>q.mono (by omega);have k2:∀{m'},Inv N B k m'->Inv N B (k+1) m':=fun q=>q.mono (by omega);unfold B2;split
 ·exact k1 (h.push hi.2.2.2.2.1)
 ·exact k1 (h.push (h.at' _))
 ·exact k1 (h.push (Ts h.gls _))
 ·exact k0 (h.pop.put _ h.top)
 ·refine k0 ⟨h.pop.vals,h.pop.str,?_,h.ars,h.now,h.calls,h.lots,h.fuel,h.depth,h.out,h.cells,h.arl,h.lotn,h.lotc⟩;intro v hv;rcases List.mem_or_eq_of_mem_set hv with q|q
  ·exact h.gls v q
  ·rw[q];exact h.top
 ·exact k0 h.pop
 ·exact k0 (h.jump _)
 ·split
  ·refine k0 (h.pop.Ke i (Nat.le_refl _) (fun m' h'=>?_));split
   ·exact h'
   ·exact h'.fail 5 i
  ·split
   ·exact k0 (h.pop.jump _)
   ·exact k0 (h.pop.fail 5 i)
 ·split
  ·split
   ·exact k0 h.pop
   ·exact k0 (h.pop.jump _)
  ·exact k0 (h.pop.fail 5 i)
 ·split
  ·split
   ·exact k0 h.pop
   ·exact k0 (h.jump _)
  ·exact k0 (h.fail 5 i)
 ·split
  ·split
   ·exact k0 (h.jump _)
   ·exact k0 h.pop
  ·exact k0 (h.fail 5 i)
 ·split
  ·exact k0 h
  ·exact k0 (h.fail 5 i)
 ·split
  ·exact k1 (h.join i)
  ·exact k1 (h.ints i (fun a b m' _ h'=>h'.push (Mm _)))
 ·exact k1 (h.pop.pop.push (Mm _))
 ·exact k1 (h.join i)
 ·exact k1 (h.ints i (fun a b m' _ h'=>h'.push (Mm _)))
 ·exact k1 (h.pop.pop.push (Mm _))
 ·exact k1 (h.ints i (fun a b m' _ h'=>h'.push (Mm _)))
 ·exact k1 (h.pop.pop.push (Mm _))
 ·exact k1 (h.ints i (fun a b m' _ h'=>by split;exact k2 (h'.fail 6 i);exact h'.push (Mm _)))
 ·unfold MS.two;dsimp only;split
  ·exact k0 (h.pop.pop.fail 6 i)
  ·exact k1 (h.pop.pop.push (Mm _))
 ·exact k1 (h.ints i (fun a b m' ha h'=>by split;exact k2 (h'.fail 6 i);exact h'.push (Qt (Ti a b ha))))
 ·unfold MS.two;dsimp only;split
  ·exact k0 (h.pop.pop.fail 6 i)
  ·exact k1 (h.pop.pop.push (Qt (Ti _ _ h.pop.top.2.1)))
 ·split
  ·exact k1 (h.pop.push (Mm _))
  ·exact k0 (h.fail 5 i)
 ·exact k1 (h.pop.push (Mm _))
 ·exact k1 (h.pop.pop.push (M5 _))
 ·exact k1 (h.pop.pop.push (M5 _))
 ·split
  ·exact k1 (h.pop.push (M5 _))
  ·exact k0 (h.pop.fail 5 i)
 ·split
  ·exact k1 (h.pop.pop.push (M5 _))
  ·exact k0 (h.fail 5 i)
 ·split
  ·exact k1 (h.pop.pop.push (M5 _))
  ·exact k0 (h.fail 5 i)
 ·split
  ·exact k1 (h.pop.pop.push (M5 _))
  ·exact k0 (h.fail 5 i)
 ·split
  ·exact k1 (h.pop.pop.push (M5 _))
  ·exact k0 (h.fail 5 i)
 ·exact k1 (h.pop.pop.push (M5 _))
 ·exact k1 (h.pop.pop.push (M5 _))
 ·exact k1 (h.pop.pop.push (M5 _))
 ·exact k1 (h.pop.pop.push (M5 _))
 ·exact absurd hi.2.2.2.2.2.2 (by rename_i e;rw[e];unfold Jr;omega)
 ·exact absurd hi.2.2.2.2.2.2 (by rename_i e;rw[e];unfold Jr;omega)
 ·exact absurd hi.2.2.2.2.2.2 (by rename_i e;rw[e];unfold Jr;omega)
 ·exact absurd hi.2.2.2.2.2.2 (by rename_i e;rw[e];unfold Jr;omega)
 ·exact absurd hi.2.2.2.2.2.2 (by rename_i e;rw[e];unfold Jr;omega)
 ·exact k0 (h.N7 i)
 ·refine h.Ke i (by omega) (fun m' h'=>?_);split
  ·exact(h'.fail 9 i).mono (by omega)
  ·rename_i hd;split
   ·rename_i f hf;have hff:=hP.fns f (List.mem_of_getElem? hf);rw[hN]at hff;refine Inv.body ?_ hbt _ hff;refine⟨h'.vals,h'.str,h'.gls,h'.ars,h'.now,?_,h'.lots,h'.fuel,by have:=h'.depth;simp only[List.length_append,List.length_singleton];omega,h'.out,h'.cells,h'.arl,h'.lotn,h'.lotc⟩;intro x hx;simp only[List.mem_append,List.mem_singleton]at hx;rcases hx with hx|rfl
    ·exact h'.calls x hx
    ·exact h'.now
   ·exact h'.mono (by omega)
 ·exact k1 (h.leave Pz)
 ·exact k1 (Inv.leave h.pop h.top)
 ·exact k0 h
theorem Inv.step(h:Inv N B k m)(hN:P.fns.length=N)(hP:Nf B P)(hbt:∀x∈bets,M7 x)(i:Ad)(hi:i∈m.now.steps):Inv N B (k+B+1) (Sl P bets i m):=by
 have q:Inv N B k { m with now:=⟨m.now.steps,m.now.pc+1,m.now.base⟩ }:=h.Qc ⟨h.now.1,h.now.2.1,h.now.2.2⟩;exact q.act hN hP hbt i (h.now.2.2 i hi)
structure E7 (P : Db) (i : Ad) (m : MS) : Prop where
 ins:Jp P.fns.length i
 vals:m.vals.length<=80000
 base:-1000<=m.now.base/\m.now.base<=80000
 fuel:m.fuel<=2000
 depth:m.calls.length<=40
 out:m.out.length<=100
 str:∀v∈m.vals,Jc v
 lotn:m.lots.length=P.fns.length
 lots:∀l∈m.lots,∀fo,l.form=some fo->Pj P.fns.length 1000 fo
 lotc:∀l∈m.lots,l.calls<=80000/\l.fast<=80000/\l.drops<=80000
 fns:∀f∈P.fns,Mz P.fns.length 1000 f
def Nw(P:Db)(bets:List Dg):Nat->MS->Prop
 | 0,_=>True
 | n+1,m=>m.code=0->∀i,m.now.steps[m.now.pc]?=some i->E7 P i m/\Nw P bets n (Sl P bets i m)
theorem Zu(hP:Nf B P)(hbt:∀x∈bets,M7 x)(hB:B<=1000):∀(n k:Nat) (m:MS),Inv P.fns.length B k m->k+n*(B+1)<=80000->Nw P bets n m:=by
 intro n;induction n with
 | zero=>intro k m _ _;trivial
 | succ n ih=>
  intro k m h hk hc i hi;have hm:=List.mem_of_getElem? hi;have e:(n+1)*(B+1)=n*(B+1)+B+1:=by rw[Nat.add_mul];omega
  refine⟨⟨h.now.2.2 i hm,by have:=h.vals;omega,⟨by have:=h.now.1;omega,by have:=h.now.2.1;omega⟩,h.fuel,h.depth,h.out,h.str,h.lotn,fun l hl fo hfo=>?_,fun l hl=>by have:=h.lotc l hl;omega,fun f hf=>?_⟩,ih (k+B+1) _ (h.step rfl hP hbt i hm) (by omega)⟩
  ·obtain⟨q1,q2,q3⟩:=h.lots l hl fo hfo;exact⟨by omega,by omega,q3⟩
  ·obtain⟨q1,q2,q3⟩:=hP.fns f hf;exact⟨by omega,q2,q3⟩
theorem Wo(hP:Nf B P):Inv P.fns.length B B (mstart P):=by
 have h0:Inv P.fns.length B 0 ⟨[],Ju P.globals,[],⟨[],0,0⟩,2000,0,[],0,0,[],List.replicate P.fns.length ⟨0,none,0,0⟩⟩:=by
  refine⟨by simp,by simp,?_,by simp,⟨by simp,by simp,by simp⟩,by simp,?_,by simp,by simp,by simp,by simp,by simp,by simp,fun l hl=>by simp only[List.mem_replicate]at hl;rw[hl.2];simp⟩
  ·intro v hv;simp only[Ju,List.mem_replicate]at hv;rw[hv.2];exact Pz
  ·intro l hl fo hfo;simp only[List.mem_replicate]at hl;rw[hl.2]at hfo;cases hfo
 have:=h0.begin hP.slots (Nat.zero_le _) hP.main (args:=0);rw[Nat.zero_add]at this;exact this
end
section
set_option maxRecDepth 100000
open Go.Deep (BT)
def K4(a b:Int):List Ad:=[⟨0,0,0,ofInt a⟩,⟨0,0,0,ofInt b⟩,⟨13,0,1,Ai⟩,⟨41,0,1,Ai⟩,⟨0,0,0,ofInt a⟩,⟨0,0,0,ofInt b⟩,⟨16,0,1,Ai⟩,⟨41,0,1,Ai⟩,⟨0,0,0,ofInt a⟩,⟨0,0,0,ofInt b⟩,⟨18,0,1,Ai⟩,⟨41,0,1,Ai⟩,⟨0,0,0,ofInt a⟩,⟨24,0,1,Ai⟩,⟨41,0,1,Ai⟩,⟨0,0,0,ofInt a⟩,⟨0,0,0,ofInt b⟩,⟨33,0,1,Ai⟩,⟨41,0,1,Ai⟩,⟨0,0,0,ofInt a⟩,⟨0,0,0,ofInt b⟩,⟨35,0,1,Ai⟩,⟨41,0,1,Ai⟩,⟨0,0,0,ofInt a⟩,⟨0,0,0,ofInt b⟩,⟨25,0,1,Ai⟩,⟨41,0,1,Ai⟩,⟨0,0,0,ofInt a⟩,⟨0,0,0,ofInt b⟩,⟨26,0,1,Ai⟩,⟨41,0,1,Ai⟩,⟨0,0,0,ofInt a⟩,⟨0,0,0,ofInt b⟩,⟨32,0,1,Ai⟩,⟨41,0,1,Ai⟩,⟨0,0,0,ofInt a⟩,⟨0,0,0,ofInt b⟩,⟨34,0,1,Ai⟩,⟨41,0,1,Ai⟩,⟨0,0,0,ofInt b⟩,⟨0,0,0,ofInt 0⟩,⟨26,0,1,Ai⟩,⟨8,52,1,Ai⟩,⟨0,0,0,ofInt a⟩,⟨0,0,0,ofInt b⟩,⟨20,0,1,Ai⟩,⟨41,0,1,Ai⟩,⟨0,0,0,ofInt a⟩,⟨0,0,0,ofInt b⟩,⟨22,0,1,Ai⟩,⟨41,0,1,Ai⟩,⟨6,52,0,Ai⟩,⟨0,0,0,ofInt 0⟩,⟨44,0,0,Ai⟩,⟨43,0,0,Ai⟩]
def Kf:List Bool->List Ad->List Ad->List Ad
 | m::ms,x::xs,y::ys=>(if m then y else x)::Kf ms xs ys
 | _,xs,_=>xs
theorem A9x:∀(ms:List Bool) (xs ys:List Ad),xs.length=ys.length->∀(p:Nat) (x y:Ad),xs[p]?=some x->ys[p]?=some y->(Kf ms xs ys)[p]?=some x\/(Kf ms xs ys)[p]?=some y:=by
 intro ms;induction ms with
 | nil=>intro xs ys _ p x y hx _;exact .inl (by rw[Kf];exact hx;simp)
 | cons m ms ih=>
  intro xs ys hl p x y hx hy;cases xs with
  | nil=>simp at hx
  | cons u us=>cases ys with
   | nil=>simp at hy
   | cons v vs=>
    rw[Kf];cases p with
    | zero=>
     simp only[List.getElem?_cons_zero,Option.some.injEq]at hx hy ⊢;rw[←hx,←hy];cases m
     ·exact .inl rfl
     ·exact .inr rfl
    | succ p=>
     simp only[List.getElem?_cons_succ]at hx hy ⊢;exact ih us vs (by simpa using hl) p x y hx hy
def Du(P:Db)(bets:List Dg)(k:Nat)(m m':MS):Prop:=∀n,Jv P bets (n+k) m=Jv P bets n m'
variable {P:Db} {bets:List Dg} {m0:MS} {a b:Int} {S:List Ad}
theorem Du.trans{k j:Nat}{x y z:MS}(h1:Du P bets k x y)(h2:Du P bets j y z):Du P bets (j+k) x z:=by
 intro n;rw[←Nat.add_assoc,h1,h2]
theorem Du.one{m:MS}{i:Ad}(hc:m.code=0)(hi:m.now.steps[m.now.pc]?=some i):Du P bets 1 m (Sl P bets i m):=by
 intro n;rw[Jv,if_neg (by rw[hc];simp),hi]
def Bf(m0:MS)(S:List Ad)(V:List PV)(o:List (List UInt8))(pc:Nat):MS:={ m0 with vals:=V,now:=⟨S,pc,0⟩,out:=o }
theorem Jz{V:List PV}{o:List (List UInt8)}{pc:Nat}{x y:Ad}{m':MS}(hc:m0.code=0)(hi:S[pc]?=some x\/S[pc]?=some y)(hx:B2 P bets x (Bf m0 S V o (pc+1))=m')(hy:B2 P bets y (Bf m0 S V o (pc+1))=m'):Du P bets 1 (Bf m0 S V o pc) m':=by
 rcases hi with h|h
 ·rw[←hx];exact Du.one hc h
 ·rw[←hy];exact Du.one hc h
theorem Ns(arr:List (List PV))(n:Int):Fk arr 4 [] (ofInt n)=Lib.itoa n:=by simp[Fk,ofInt]
def E8(c:Bool):List UInt8:=if c then [116,114,117,101] else [102,97,108,115,101]
theorem Q5(arr:List (List PV))(c:Bool):Fk arr 4 [] (ofBool c)=E8 c:=by cases c <;> simp[Fk,ofBool,E8]
theorem P0(c:Bool):(E8 c).length<=500:=by cases c <;> decide
theorem R4{V:List PV}{v:PV}{o:List (List UInt8)}{pc:Nat}{l:List UInt8}(ht:Fk m0.arr 4 [] v=l)(hl:l.length<=500)(ho:o.length<100):B2 P bets ⟨41,0,1,Ai⟩ (Bf m0 S (V++[v]) o pc)=Bf m0 S V (o++[l]) pc:=by
 show MS.N7 _ _=_;have e:(Bf m0 S (V++[v]) o pc).top=v:=by simp[MS.top,Bf]
 unfold MS.N7;rw[e];have e2:(Bf m0 S (V++[v]) o pc).arr=m0.arr:=rfl;have e3:(Bf m0 S (V++[v]) o pc).out=o:=rfl;rw[e2,e3,ht,if_neg (by omega)];simp[MS.pop,Bf]
def Nq(S:List Ad)(a b:Int):Prop:=∀(p:Nat) (x y:Ad),Fi[p]?=some x->(K4 a b)[p]?=some y->S[p]?=some x\/S[p]?=some y
theorem M4(hc:m0.code=0)(hS:Nq S a b)(p:Nat){op fop:Nat}{v:PV}{l:List UInt8}{o:List (List UInt8)}
  (h0:Fi[p]?=some ⟨1,0,0,Ai⟩) (g0:(K4 a b)[p]?=some ⟨0,0,0,ofInt a⟩) (h1:Fi[p+1]?=some ⟨1,1,0,Ai⟩) (g1:(K4 a b)[p+1]?=some ⟨0,0,0,ofInt b⟩)
  (h2:Fi[p+2]?=some ⟨op,0,1,Ai⟩) (g2:(K4 a b)[p+2]?=some ⟨fop,0,1,Ai⟩) (h3:Fi[p+3]?=some ⟨41,0,1,Ai⟩) (g3:(K4 a b)[p+3]?=some ⟨41,0,1,Ai⟩)
  (hx:∀pc,B2 P bets ⟨op,0,1,Ai⟩ (Bf m0 S [ofInt a,ofInt b,ofInt a,ofInt b] o pc)=Bf m0 S [ofInt a,ofInt b,v] o pc)
  (hy:∀pc,B2 P bets ⟨fop,0,1,Ai⟩ (Bf m0 S [ofInt a,ofInt b,ofInt a,ofInt b] o pc)=Bf m0 S [ofInt a,ofInt b,v] o pc)
  (ht:Fk m0.arr 4 [] v=l) (hl:l.length<=500) (ho:o.length<100):Du P bets 4 (Bf m0 S [ofInt a,ofInt b] o p) (Bf m0 S [ofInt a,ofInt b] (o++[l]) (p+4)):=by
 have s0:Du P bets 1 (Bf m0 S [ofInt a,ofInt b] o p) (Bf m0 S [ofInt a,ofInt b,ofInt a] o (p+1)):=Jz hc (hS _ _ _ h0 g0) rfl rfl;have s1:Du P bets 1 (Bf m0 S [ofInt a,ofInt b,ofInt a] o (p+1)) (Bf m0 S [ofInt a,ofInt b,ofInt a,ofInt b] o (p+2)):=Jz hc (hS _ _ _ h1 g1) rfl rfl;have s2:Du P bets 1 (Bf m0 S [ofInt a,ofInt b,ofInt a,ofInt b] o (p+2)) (Bf m0 S [ofInt a,ofInt b,v] o (p+3)):=Jz hc (hS _ _ _ h2 g2) (hx _) (hy _);have e3:=R4 (P:=P) (bets:=bets) (S:=S) (m0:=m0) (V:=[ofInt a,ofInt b]) (o:=o) (pc:=p+4) ht hl ho;have s3:Du P bets 1 (Bf m0 S [ofInt a,ofInt b,v] o (p+3)) (Bf m0 S [ofInt a,ofInt b] (o++[l]) (p+4)):=Jz hc (hS _ _ _ h3 g3) e3 e3;exact((s0.trans s1).trans s2).trans s3
def Oh(a b:Int):List (List UInt8):=[Lib.itoa (wr (a+b)),Lib.itoa (wr (a-b)),Lib.itoa (wr (a*b)),Lib.itoa (wr (-a)),E8 (decide (a<b)),E8 (decide (a<=b)),E8 (decide (a=b)),E8 (!decide (a=b)),E8 (decide (b<a)),E8 (decide (b<=a))]
def Hp(a b:Int):List (List UInt8):=Oh a b++if b=0 then [] else [Lib.itoa (wr (a.tdiv b)),Lib.itoa (a.tmod b)]
theorem T0(a b:Int):(ofInt a).same (ofInt b)=decide (a=b):=by
 simp only[PV.same,ofInt,beq_self_eq_true,Bool.true_and,Bool.and_true];by_cases h:a=b
 ·simp[h]
 ·simp[h]
theorem Tq(a b:Int):before (ofInt a) (ofInt b)=decide (a<b):=by unfold before;exact Bool.or_false _
theorem Xh(a b:Int):(!decide (b<a))=decide (a<=b):=by
 by_cases h:b<a
 ·rw[decide_eq_true h,decide_eq_false (by omega)];rfl
 ·rw[decide_eq_false h,decide_eq_true (by omega)];rfl
theorem i20{n:Int}(h:D7 n):(Lib.itoa n).length<=500:=by have:=Xn n h.1 h.2;omega
theorem Aja(o:List (List UInt8))(pc:Nat):B2 P bets ⟨29,0,1,Ai⟩ (Bf m0 S [ofInt a,ofInt b,ofInt a,ofInt b] o pc)=Bf m0 S [ofInt a,ofInt b,ofBool (decide (a<b))] o pc:=by rw[←Tq];rfl
theorem Ade(o:List (List UInt8))(pc:Nat):B2 P bets ⟨31,0,1,Ai⟩ (Bf m0 S [ofInt a,ofInt b,ofInt a,ofInt b] o pc)=Bf m0 S [ofInt a,ofInt b,ofBool (decide (a<=b))] o pc:=by rw[←Xh,←Tq];rfl
theorem Y1(o:List (List UInt8))(pc:Nat):B2 P bets ⟨25,0,1,Ai⟩ (Bf m0 S [ofInt a,ofInt b,ofInt a,ofInt b] o pc)=Bf m0 S [ofInt a,ofInt b,ofBool (decide (a=b))] o pc:=by rw[←T0];rfl
theorem A0r(o:List (List UInt8))(pc:Nat):B2 P bets ⟨26,0,1,Ai⟩ (Bf m0 S [ofInt a,ofInt b,ofInt a,ofInt b] o pc)=Bf m0 S [ofInt a,ofInt b,ofBool (!decide (a=b))] o pc:=by rw[←T0];rfl
theorem A64(o:List (List UInt8))(pc:Nat):B2 P bets ⟨28,0,1,Ai⟩ (Bf m0 S [ofInt a,ofInt b,ofInt a,ofInt b] o pc)=Bf m0 S [ofInt a,ofInt b,ofBool (decide (b<a))] o pc:=by rw[←Tq];rfl
theorem Am1(o:List (List UInt8))(pc:Nat):B2 P bets ⟨30,0,1,Ai⟩ (Bf m0 S [ofInt a,ofInt b,ofInt a,ofInt b] o pc)=Bf m0 S [ofInt a,ofInt b,ofBool (decide (b<=a))] o pc:=by rw[←Xh,←Tq];rfl
theorem Aaq(hc:m0.code=0)(hS:Nq S a b)(o:List (List UInt8))(ho:o.length<=50):Du P bets 39 (Bf m0 S [ofInt a,ofInt b] o 0) (Bf m0 S [ofInt a,ofInt b] (o++Oh a b) 39):=by
 have b0:=M4 (P:=P) (bets:=bets) (v:=ofInt (wr (a+b))) (l:=Lib.itoa (wr (a+b))) (o:=o) hc hS 0 rfl rfl rfl rfl (op:=12) rfl (fop:=13) rfl rfl rfl (fun _=>rfl) (fun _=>rfl) (Ns _ _) (i20 (M1 _)) (by first|omega|(simp;omega));have b1:=M4 (P:=P) (bets:=bets) (v:=ofInt (wr (a-b))) (l:=Lib.itoa (wr (a-b))) (o:=(o++[Lib.itoa (wr (a+b))])) hc hS 4 rfl rfl rfl rfl (op:=15) rfl (fop:=16) rfl rfl rfl (fun _=>rfl) (fun _=>rfl) (Ns _ _) (i20 (M1 _)) (by first|omega|(simp;omega));have b2:=M4 (P:=P) (bets:=bets) (v:=ofInt (wr (a*b))) (l:=Lib.itoa (wr (a*b))) (o:=(o++[Lib.itoa (wr (a+b))]++[Lib.itoa (wr (a-b))])) hc hS 8 rfl rfl rfl rfl (op:=17) rfl (fop:=18) rfl rfl rfl (fun _=>rfl) (fun _=>rfl) (Ns _ _) (i20 (M1 _)) (by first|omega|(simp;omega));have n0:Du P bets 1 (Bf m0 S [ofInt a,ofInt b] (o++[Lib.itoa (wr (a+b))]++[Lib.itoa (wr (a-b))]++[Lib.itoa (wr (a*b))]) 12) (Bf m0 S [ofInt a,ofInt b,ofInt a] (o++[Lib.itoa (wr (a+b))]++[Lib.itoa (wr (a-b))]++[Lib.itoa (wr (a*b))]) 13):=Jz hc (hS 12 ⟨1,0,0,Ai⟩ ⟨0,0,0,ofInt a⟩ rfl rfl) rfl rfl;have n1:Du P bets 1 (Bf m0 S [ofInt a,ofInt b,ofInt a] (o++[Lib.itoa (wr (a+b))]++[Lib.itoa (wr (a-b))]++[Lib.itoa (wr (a*b))]) 13) (Bf m0 S [ofInt a,ofInt b,ofInt (wr (-a))] (o++[Lib.itoa (wr (a+b))]++[Lib.itoa (wr (a-b))]++[Lib.itoa (wr (a*b))]) 14):=Jz hc (hS 13 ⟨23,0,1,Ai⟩ ⟨24,0,1,Ai⟩ rfl rfl) rfl rfl;have e3:=R4 (P:=P) (bets:=bets) (S:=S) (m0:=m0) (V:=[ofInt a,ofInt b]) (v:=ofInt (wr (-a))) (o:=(o++[Lib.itoa (wr (a+b))]++[Lib.itoa (wr (a-b))]++[Lib.itoa (wr (a*b))])) (pc:=15) (Ns _ _) (i20 (M1 _)) (by first|omega|(simp;omega));have n2:Du P bets 1 (Bf m0 S [ofInt a,ofInt b,ofInt (wr (-a))] (o++[Lib.itoa (wr (a+b))]++[Lib.itoa (wr (a-b))]++[Lib.itoa (wr (a*b))]) 14) (Bf m0 S [ofInt a,ofInt b] ((o++[Lib.itoa (wr (a+b))]++[Lib.itoa (wr (a-b))]++[Lib.itoa (wr (a*b))])++[Lib.itoa (wr (-a))]) 15):=Jz hc (hS 14 ⟨41,0,1,Ai⟩ ⟨41,0,1,Ai⟩ rfl rfl) e3 e3;have b3:=M4 (P:=P) (bets:=bets) (v:=ofBool (decide (a<b))) (l:=E8 (decide (a<b))) (o:=(o++[Lib.itoa (wr (a+b))]++[Lib.itoa (wr (a-b))]++[Lib.itoa (wr (a*b))]++[Lib.itoa (wr (-a))])) hc hS 15 rfl rfl rfl rfl (op:=29) rfl (fop:=33) rfl rfl rfl (fun _=>Aja _ _) (fun _=>rfl) (Q5 _ _) (P0 _) (by first|omega|(simp;omega));have b4:=M4 (P:=P) (bets:=bets) (v:=ofBool (decide (a<=b))) (l:=E8 (decide (a<=b))) (o:=(o++[Lib.itoa (wr (a+b))]++[Lib.itoa (wr (a-b))]++[Lib.itoa (wr (a*b))]++[Lib.itoa (wr (-a))]++[E8 (decide (a<b))])) hc hS 19 rfl rfl rfl rfl (op:=31) rfl (fop:=35) rfl rfl rfl (fun _=>Ade _ _) (fun _=>rfl) (Q5 _ _) (P0 _) (by first|omega|(simp;omega));have b5:=M4 (P:=P) (bets:=bets) (v:=ofBool (decide (a=b))) (l:=E8 (decide (a=b))) (o:=(o++[Lib.itoa (wr (a+b))]++[Lib.itoa (wr (a-b))]++[Lib.itoa (wr (a*b))]++[Lib.itoa (wr (-a))]++[E8 (decide (a<b))]++[E8 (decide (a<=b))])) hc hS 23 rfl rfl rfl rfl (op:=25) rfl (fop:=25) rfl rfl rfl (fun _=>Y1 _ _) (fun _=>Y1 _ _) (Q5 _ _) (P0 _) (by first|omega|(simp;omega));have b6:=M4 (P:=P) (bets:=bets) (v:=ofBool (!decide (a=b))) (l:=E8 (!decide (a=b))) (o:=(o++[Lib.itoa (wr (a+b))]++[Lib.itoa (wr (a-b))]++[Lib.itoa (wr (a*b))]++[Lib.itoa (wr (-a))]++[E8 (decide (a<b))]++[E8 (decide (a<=b))]++[E8 (decide (a=b))])) hc hS 27 rfl rfl rfl rfl (op:=26) rfl (fop:=26) rfl rfl rfl (fun _=>A0r _ _) (fun _=>A0r _ _) (Q5 _ _) (P0 _) (by first|omega|(simp;omega));have b7:=M4 (P:=P) (bets:=bets) (v:=ofBool (decide (b<a))) (l:=E8 (decide (b<a))) (o:=(o++[Lib.itoa (wr (a+b))]++[Lib.itoa (wr (a-b))]++[Lib.itoa (wr (a*b))]++[Lib.itoa (wr (-a))]++[E8 (decide (a<b))]++[E8 (decide (a<=b))]++[E8 (decide (a=b))]++[E8 (!decide (a=b))])) hc hS 31 rfl rfl rfl rfl (op:=28) rfl (fop:=32) rfl rfl rfl (fun _=>A64 _ _) (fun _=>rfl) (Q5 _ _) (P0 _) (by first|omega|(simp;omega))
 have b8:=M4 (P:=P) (bets:=bets) (v:=ofBool (decide (b<=a))) (l:=E8 (decide (b<=a))) (o:=(o++[Lib.itoa (wr (a+b))]++[Lib.itoa (wr (a-b))]++[Lib.itoa (wr (a*b))]++[Lib.itoa (wr (-a))]++[E8 (decide (a<b))]++[E8 (decide (a<=b))]++[E8 (decide (a=b))]++[E8 (!decide (a=b))]++[E8 (decide (b<a))])) hc hS 35 rfl rfl rfl rfl (op:=30) rfl (fop:=34) rfl rfl rfl (fun _=>Am1 _ _) (fun _=>rfl) (Q5 _ _) (P0 _) (by first|omega|(simp;omega));have q:=((((((((((b0.trans b1).trans b2).trans n0).trans n1).trans n2).trans b3).trans b4).trans b5).trans b6).trans b7).trans b8;simp only[List.append_assoc,List.cons_append,List.nil_append]at q;exact q
theorem An7(hc:m0.code=0)(hS:Nq S a b)(ha:D7 a)(o:List (List UInt8))(ho:o.length<=70):∃k,k<=20/\Du P bets k (Bf m0 S [ofInt a,ofInt b] o 39) { m0 with vals:=[ofInt 0],now:=m0.calls.getLastD ⟨[],0,0⟩,calls:=m0.calls.dropLast,out:=o++if b=0 then [] else [Lib.itoa (wr (a.tdiv b)),Lib.itoa (a.tmod b)] }:=by
 have c0:Du P bets 1 (Bf m0 S [ofInt a,ofInt b] o 39) (Bf m0 S [ofInt a,ofInt b,ofInt b] o 40):=Jz hc (hS 39 ⟨1,1,0,Ai⟩ ⟨0,0,0,ofInt b⟩ rfl rfl) rfl rfl;have c1:Du P bets 1 (Bf m0 S [ofInt a,ofInt b,ofInt b] o 40) (Bf m0 S [ofInt a,ofInt b,ofInt b,ofInt 0] o 41):=Jz hc (hS 40 ⟨0,0,0,ofInt 0⟩ ⟨0,0,0,ofInt 0⟩ rfl rfl) rfl rfl;have e2:B2 P bets ⟨26,0,1,Ai⟩ (Bf m0 S [ofInt a,ofInt b,ofInt b,ofInt 0] o 42)=Bf m0 S [ofInt a,ofInt b,ofBool (!decide (b=0))] o 42:=by rw[←T0];rfl
 have c2:Du P bets 1 (Bf m0 S [ofInt a,ofInt b,ofInt b,ofInt 0] o 41) (Bf m0 S [ofInt a,ofInt b,ofBool (!decide (b=0))] o 42):=Jz hc (hS 41 ⟨26,0,1,Ai⟩ ⟨26,0,1,Ai⟩ rfl rfl) e2 e2;have cc:=(c0.trans c1).trans c2;have fin:∀o',Du P bets 2 (Bf m0 S [ofInt a,ofInt b] o' 52) { m0 with vals:=[ofInt 0],now:=m0.calls.getLastD ⟨[],0,0⟩,calls:=m0.calls.dropLast,out:=o' }:=by
  intro o';have r0:Du P bets 1 (Bf m0 S [ofInt a,ofInt b] o' 52) (Bf m0 S [ofInt a,ofInt b,ofInt 0] o' 53):=Jz hc (hS 52 ⟨0,0,0,ofInt 0⟩ ⟨0,0,0,ofInt 0⟩ rfl rfl) rfl rfl;exact r0.trans (Jz hc (hS 53 ⟨44,0,0,Ai⟩ ⟨44,0,0,Ai⟩ rfl rfl) rfl rfl)
 by_cases hb:b=0
 ·rw[if_pos hb,List.append_nil];have hd:ofBool (!decide (b=0))=ofBool false:=by rw[decide_eq_true hb];rfl
  rw[hd]at cc;have c3:Du P bets 1 (Bf m0 S [ofInt a,ofInt b,ofBool false] o 42) (Bf m0 S [ofInt a,ofInt b] o 52):=Jz hc (hS 42 ⟨8,52,1,Ai⟩ ⟨8,52,1,Ai⟩ rfl rfl) rfl rfl;exact⟨_,by decide,(cc.trans c3).trans (fin o)⟩
 ·rw[if_neg hb];have hd:ofBool (!decide (b=0))=ofBool true:=by rw[decide_eq_false hb];rfl
  rw[hd]at cc;have c3:Du P bets 1 (Bf m0 S [ofInt a,ofInt b,ofBool true] o 42) (Bf m0 S [ofInt a,ofInt b] o 43):=Jz hc (hS 42 ⟨8,52,1,Ai⟩ ⟨8,52,1,Ai⟩ rfl rfl) rfl rfl;have f1:∀o' pc,B2 P bets ⟨19,0,1,Ai⟩ (Bf m0 S [ofInt a,ofInt b,ofInt a,ofInt b] o' pc)=Bf m0 S [ofInt a,ofInt b,ofInt (wr (a.tdiv b))] o' pc:=fun _ _=>if_neg hb;have f2:∀o' pc,B2 P bets ⟨20,0,1,Ai⟩ (Bf m0 S [ofInt a,ofInt b,ofInt a,ofInt b] o' pc)=Bf m0 S [ofInt a,ofInt b,ofInt (wr (a.tdiv b))] o' pc:=fun _ _=>if_neg hb;have f3:∀o' pc,B2 P bets ⟨21,0,1,Ai⟩ (Bf m0 S [ofInt a,ofInt b,ofInt a,ofInt b] o' pc)=Bf m0 S [ofInt a,ofInt b,ofInt (a.tmod b)] o' pc:=fun _ _=>if_neg hb;have f4:∀o' pc,B2 P bets ⟨22,0,1,Ai⟩ (Bf m0 S [ofInt a,ofInt b,ofInt a,ofInt b] o' pc)=Bf m0 S [ofInt a,ofInt b,ofInt (a.tmod b)] o' pc:=fun _ _=>if_neg hb;have d0:=M4 (P:=P) (bets:=bets) (v:=ofInt (wr (a.tdiv b))) (o:=o) hc hS 43 rfl rfl rfl rfl (op:=19) rfl (fop:=20) rfl rfl rfl (f1 _) (f2 _) (Ns _ _) (i20 (M1 _)) (by omega);have d1:=M4 (P:=P) (bets:=bets) (v:=ofInt (a.tmod b)) (o:=o++[Lib.itoa (wr (a.tdiv b))]) hc hS 47 rfl rfl rfl rfl (op:=21) rfl (fop:=22) rfl rfl rfl (f3 _) (f4 _) (Ns _ _) (i20 (Ti a b ha)) (by first|omega|(simp;omega));have j0:∀o',Du P bets 1 (Bf m0 S [ofInt a,ofInt b] o' 51) (Bf m0 S [ofInt a,ofInt b] o' 52):=fun o'=>Jz hc (hS 51 ⟨6,52,0,Ai⟩ ⟨6,52,0,Ai⟩ rfl rfl) rfl rfl;rw[List.append_assoc]at d1;exact⟨_,by decide,((((cc.trans c3).trans d0).trans d1).trans (j0 _)).trans (fin _)⟩
theorem Ame(hc:m0.code=0)(hS:Nq S a b)(ha:D7 a)(o:List (List UInt8))(ho:o.length<=50):∃k,k<=59/\Du P bets k (Bf m0 S [ofInt a,ofInt b] o 0) { m0 with vals:=[ofInt 0],now:=m0.calls.getLastD ⟨[],0,0⟩,calls:=m0.calls.dropLast,out:=o++Hp a b }:=by
 obtain⟨k,hk,h⟩:=An7 (P:=P) (bets:=bets) hc hS ha (o++Oh a b) (by simp[Oh];omega);have q:=(Aaq (P:=P) (bets:=bets) hc hS o ho).trans h;rw[List.append_assoc]at q;exact⟨_,by omega,q⟩
theorem Aec(P:Db)(a b:Int):Gh P [Ds,Ds] [] Fi=Kf [false,false,false,false,false,false,false,false,false,false,false,false,false,false,false,false,false,false,false,false,false,false,false,false,false,false,false,false,false,false,false,false,false,false,false,false,false,false,false,false,false,false,false,false,false,false,false,false,false,false,false,false,false,false,false] Fi (K4 a b):=by kernel_rfl
theorem Akc(P:Db)(a b:Int):Gh P [Ds,D4 2] [] Fi=Kf [false,false,false,false,false,false,false,false,false,false,false,false,false,false,false,false,false,false,false,false,false,false,false,false,false,false,false,false,false,false,false,false,false,false,false,false,false,false,false,false,false,false,false,false,false,false,false,false,false,false,false,false,false,false,false] Fi (K4 a b):=by kernel_rfl
theorem An8(P:Db)(a b:Int):Gh P [Ds,I0 (ofInt b)] [] Fi=Kf [false,true,false,false,false,true,false,false,false,true,false,false,false,false,false,false,true,false,false,false,true,false,false,false,true,false,false,false,true,false,false,false,true,false,false,false,true,false,false,true,false,false,false,false,true,false,false,false,true,false,false,false,false,false,false] Fi (K4 a b):=by kernel_rfl
theorem Aat(P:Db)(a b:Int):Gh P [D4 2,Ds] [] Fi=Kf [false,false,false,false,false,false,false,false,false,false,false,false,false,true,false,false,false,false,false,false,false,false,false,false,false,false,false,false,false,false,false,false,false,false,false,false,false,false,false,false,false,false,false,false,false,false,false,false,false,false,false,false,false,false,false] Fi (K4 a b):=by kernel_rfl
theorem A9j(P:Db)(a b:Int):Gh P [D4 2,D4 2] [] Fi=Kf [false,false,true,false,false,false,true,false,false,false,true,false,false,true,false,false,false,true,false,false,false,true,false,false,false,false,false,false,false,false,false,false,false,true,false,false,false,true,false,false,false,false,false,false,false,true,false,false,false,true,false,false,false,false,false] Fi (K4 a b):=by kernel_rfl
theorem Ae4(P:Db)(a b:Int):Gh P [D4 2,I0 (ofInt b)] [] Fi=Kf [false,true,true,false,false,true,true,false,false,true,true,false,false,true,false,false,true,true,false,false,true,true,false,false,true,false,false,false,true,false,false,false,true,true,false,false,true,true,false,true,false,false,false,false,true,true,false,false,true,true,false,false,false,false,false] Fi (K4 a b):=by kernel_rfl
theorem Aeg(P:Db)(a b:Int):Gh P [I0 (ofInt a),Ds] [] Fi=Kf [true,false,false,false,true,false,false,false,true,false,false,false,true,true,false,true,false,false,false,true,false,false,false,true,false,false,false,true,false,false,false,true,false,false,false,true,false,false,false,false,false,false,false,true,false,false,false,true,false,false,false,false,false,false,false] Fi (K4 a b):=by kernel_rfl
theorem Ae2(P:Db)(a b:Int):Gh P [I0 (ofInt a),D4 2] [] Fi=Kf [true,false,true,false,true,false,true,false,true,false,true,false,true,true,false,true,false,true,false,true,false,true,false,true,false,false,false,true,false,false,false,true,false,true,false,true,false,true,false,false,false,false,false,true,false,true,false,true,false,true,false,false,false,false,false] Fi (K4 a b):=by kernel_rfl
theorem Ale(P:Db)(a b:Int):Gh P [I0 (ofInt a),I0 (ofInt b)] [] Fi=Kf [true,true,true,false,true,true,true,false,true,true,true,false,true,true,false,true,true,true,false,true,true,true,false,true,true,false,false,true,true,false,false,true,true,true,false,true,true,true,false,true,false,false,false,true,true,true,false,true,true,true,false,false,false,false,false] Fi (K4 a b):=by kernel_rfl
theorem An0(x y:Kn):Jy Fi [x,y]=[x,y]:=by kernel_rfl
theorem N0{S:List Ad}(a b:Int){ms:List Bool}(h:S=Kf ms Fi (K4 a b)):Nq S a b:=by
 intro p x y hx hy;rw[h];exact A9x ms Fi (K4 a b) rfl p x y hx hy
def Wp(n:Int)(x:Kn):Prop:=x=Ds\/x=D4 2\/x=I0 (ofInt n)
theorem A84{x y:Kn}(hx:Wp a x)(hy:Wp b y):Nq (Gh P [x,y] [] Fi) a b:=by
 rcases hx with rfl|rfl|rfl <;> rcases hy with rfl|rfl|rfl
 ·exact N0 a b (Aec P a b)
 ·exact N0 a b (Akc P a b)
 ·exact N0 a b (An8 P a b)
 ·exact N0 a b (Aat P a b)
 ·exact N0 a b (A9j P a b)
 ·exact N0 a b (Ae4 P a b)
 ·exact N0 a b (Aeg P a b)
 ·exact N0 a b (Ae2 P a b)
 ·exact N0 a b (Ale P a b)
theorem Acb:Nq Fi a b:=fun _ _ _ hx _=>.inl hx
theorem s6(bt:Dg)(j:Nat)(n:Int)(h:(G7 bt j).is (ofInt n)=true):Wp n (G7 bt j):=by
 unfold G7 at h ⊢;cases hk:bt.kinds[j]? with
 | none=>exact .inl rfl
 | some k=>
  rw[hk]at h;dsimp only at h ⊢;by_cases h1:k=1
  ·rw[if_pos h1];exact .inr (.inl rfl)
  rw[if_neg h1]at h ⊢;by_cases h2:k=2
  ·rw[if_pos h2]at h;cases h
  rw[if_neg h2]at h ⊢;by_cases h3:k=3
  ·rw[if_pos h3]at h;cases h
  rw[if_neg h3]at h ⊢;by_cases h4:k=4
  ·rw[if_pos h4]at h;simp[Kn.is,I0,PV.same,ofInt,Ai]at h
  rw[if_neg h4]at h ⊢;by_cases h5:k=5
  ·rw[if_pos h5]at h;cases h
  rw[if_neg h5]at h ⊢;by_cases h6:k=6
  ·rw[if_pos h6]at h ⊢;have h':(ofInt n).same (ofInt ((bt.ints[j]?).getD 0))=true:=h;rw[T0,decide_eq_true_eq]at h';rw[←h'];exact .inr (.inr rfl)
  ·rw[if_neg h6];exact .inl rfl
end
section
open Go.Deep (BT)
variable {P:Db} {bets:List Dg} {a b:Int} {M:List Ad}
def Om(M:List Ad)(p:Nat)(l:List Ad):Prop:=∀(j:Nat) (i:Ad),l[j]?=some i->M[p+j]?=some i
theorem Yl(pre l post:List Ad):Om (pre++(l++post)) pre.length l:=by
 intro j i h;have hj:j<l.length:=by
  rcases Nat.lt_or_ge j l.length with q|q
  ·exact q
  ·rw[List.getElem?_eq_none q]at h;cases h
 rw[List.getElem?_append_right (by omega),show pre.length+j-pre.length=j by omega,List.getElem?_append_left hj];exact h
theorem Ks{m0:MS}{V:List PV}{o:List (List UInt8)}{pc:Nat}{x:Ad}{m':MS}(hc:m0.code=0)(hi:M[pc]?=some x)(hx:B2 P bets x (Bf m0 M V o (pc+1))=m'):Du P bets 1 (Bf m0 M V o pc) m':=Jz hc (.inl hi) hx hx
theorem p8{m0:MS}(hc:m0.code=0){p:Nat}(h:Om M p (C0 a))(ha:D7 a)(V:List PV)(hV:V=[]\/∃y,V=[y])(o:List (List UInt8)):Du P bets (C0 a).length (Bf m0 M V o p) (Bf m0 M (V++[ofInt a]) o (p+(C0 a).length)):=by
 unfold C0 at h ⊢;by_cases hn:a<0
 ·rw[if_pos hn]at h ⊢;have e1:wr (-(-(a+1)))=a+1:=by rw[Sh] <;> unfold D7 at*<;> omega
  have e2:wr (wr (-(-(a+1)))-1)=a:=by rw[e1,Sh] <;> unfold D7 at*<;> omega
  rcases hV with rfl|⟨y,rfl⟩
  ·have s0:Du P bets 1 (Bf m0 M [] o p) (Bf m0 M [ofInt (-(a+1))] o (p+1)):=Ks hc (h 0 _ rfl) rfl;have s1:Du P bets 1 (Bf m0 M [ofInt (-(a+1))] o (p+1)) (Bf m0 M [ofInt (wr (-(-(a+1))))] o (p+2)):=Ks hc (h 1 _ rfl) rfl;have s2:Du P bets 1 (Bf m0 M [ofInt (wr (-(-(a+1))))] o (p+2)) (Bf m0 M [ofInt (wr (-(-(a+1)))),ofInt 1] o (p+3)):=Ks hc (h 2 _ rfl) rfl;have s3:Du P bets 1 (Bf m0 M [ofInt (wr (-(-(a+1)))),ofInt 1] o (p+3)) (Bf m0 M [ofInt (wr (wr (-(-(a+1)))-1))] o (p+4)):=Ks hc (h 3 _ rfl) rfl;rw[e2]at s3;exact((s0.trans s1).trans s2).trans s3
  ·have s0:Du P bets 1 (Bf m0 M [y] o p) (Bf m0 M [y,ofInt (-(a+1))] o (p+1)):=Ks hc (h 0 _ rfl) rfl;have s1:Du P bets 1 (Bf m0 M [y,ofInt (-(a+1))] o (p+1)) (Bf m0 M [y,ofInt (wr (-(-(a+1))))] o (p+2)):=Ks hc (h 1 _ rfl) rfl;have s2:Du P bets 1 (Bf m0 M [y,ofInt (wr (-(-(a+1))))] o (p+2)) (Bf m0 M [y,ofInt (wr (-(-(a+1)))),ofInt 1] o (p+3)):=Ks hc (h 2 _ rfl) rfl;have s3:Du P bets 1 (Bf m0 M [y,ofInt (wr (-(-(a+1)))),ofInt 1] o (p+3)) (Bf m0 M [y,ofInt (wr (wr (-(-(a+1)))-1))] o (p+4)):=Ks hc (h 3 _ rfl) rfl;rw[e2]at s3;exact((s0.trans s1).trans s2).trans s3
 ·rw[if_neg hn]at h ⊢;exact Ks hc (h 0 _ rfl) rfl
theorem p7(a:Int):(C0 a).length<=4:=by unfold C0;split <;> simp
def bs(f:Nat)(l:Gs)(calls:List Fr):MS:=⟨[],[],calls,⟨[],0,0⟩,f,0,[],0,0,[],[l]⟩
theorem Ze(m:MS)(i:Ad)(ho:i.op=42)(hf:m.fuel≠0)(hd:m.calls.length≠40){f:Fn}(hp:P.fns[i.arg.toNat]?=some f):B2 P bets i m=MS.body P bets i.arg.toNat f { m with fuel:=m.fuel-1,calls:=m.calls++[m.now] }:=by
 unfold B2;rw[ho];show MS.Ke _ _ _=_;unfold MS.Ke;rw[if_neg hf];dsimp only;rw[if_neg hd,hp]
theorem A83(m:MS){n:Nat}{f:Fn}{l:Gs}{bt:Dg}(hl:m.lots[n]?=some l)(ht:taken n l.calls bets=some bt):MS.body P bets n f m=if J0 m ((m.vals.length:Nat)-((Ge P bt f).bet.length:Nat)) (Ge P bt f).bet then(m.Kt n ⟨l.calls+1,some (Ge P bt f),l.fast+1,l.drops⟩).begin (Ge P bt f).slots (Ge P bt f).steps f.params else(m.Kt n ⟨l.calls+1,none,l.fast,l.drops+1⟩).begin f.slots f.steps f.params:=by
 unfold MS.body;rw[hl];dsimp only;rw[ht]
theorem A4s(hP:P.fns=[Oa]){f:Nat}{l:Gs}{bt:Dg}(ht:taken 0 l.calls bets=some bt)(o:List (List UInt8))(pc:Nat) :
  ∃S l',Nq S a b/\l'.calls=l.calls+1/\B2 P bets ⟨42,0,1,Ai⟩ (Bf (bs (f+1) l []) M [ofInt a,ofInt b] o pc)=Bf (bs f l' [⟨M,pc,0⟩]) S [ofInt a,ofInt b] o 0:=by
 have e:B2 P bets ⟨42,0,1,Ai⟩ (Bf (bs (f+1) l []) M [ofInt a,ofInt b] o pc)=MS.body P bets 0 Oa (Bf (bs f l [⟨M,pc,0⟩]) M [ofInt a,ofInt b] o pc):=by
  refine(Ze _ _ rfl (by show f+1≠0;omega) (by show(0:Nat)≠40;omega) (f:=Oa) (by rw[hP];rfl)).trans ?_;rfl
 have e2:MS.body P bets 0 Oa (Bf (bs f l [⟨M,pc,0⟩]) M [ofInt a,ofInt b] o pc)=if J0 (Bf (bs f l [⟨M,pc,0⟩]) M [ofInt a,ofInt b] o pc) 0 [G7 bt 0,G7 bt 1] then Bf (bs f ⟨l.calls+1,some (Ge P bt Oa),l.fast+1,l.drops⟩ [⟨M,pc,0⟩]) (Gh P (Jy Fi [G7 bt 0,G7 bt 1]) [] Fi) [ofInt a,ofInt b] o 0 else Bf (bs f ⟨l.calls+1,none,l.fast,l.drops+1⟩ [⟨M,pc,0⟩]) Fi [ofInt a,ofInt b] o 0:=by
  refine(A83 _ rfl ht).trans ?_;rfl
 rw[e,e2];by_cases hf:J0 (Bf (bs f l [⟨M,pc,0⟩]) M [ofInt a,ofInt b] o pc) 0 [G7 bt 0,G7 bt 1]=true
 ·rw[if_pos hf,An0];have h0:((G7 bt 0).is (ofInt a)&&((G7 bt 1).is (ofInt b)&&true))=true:=hf;simp only[Bool.and_true,Bool.and_eq_true]at h0;exact⟨_,_,A84 (s6 bt 0 a h0.1) (s6 bt 1 b h0.2),rfl,rfl⟩
 ·rw[if_neg hf];exact⟨_,_,Acb,rfl,rfl⟩
theorem A2q(hP:P.fns=[Oa])(ha:D7 a)(hb:D7 b){f:Nat}{l:Gs}{bt:Dg}(ht:taken 0 l.calls bets=some bt){p:Nat}(h:Om M p (I1 (C0 a) (C0 b)))(o:List (List UInt8))(ho:o.length<=50) :
  ∃k l',k<=69/\l'.calls=l.calls+1/\Du P bets k (Bf (bs (f+1) l []) M [] o p) (Bf (bs f l' []) M [] (o++Hp a b) (p+(I1 (C0 a) (C0 b)).length)):=by
 have hA:Om M p (C0 a):=fun j i q=>h j i (by unfold I1;rw[List.getElem?_append_left];exact q;exact(List.getElem?_eq_some_iff.1 q).1);have hB:Om M (p+(C0 a).length) (C0 b):=fun j i q=>by
  rw[Nat.add_assoc];exact h _ i (by unfold I1;rw[List.getElem?_append_right (by omega),show(C0 a).length+j-(C0 a).length=j by omega,List.getElem?_append_left];exact q;exact(List.getElem?_eq_some_iff.1 q).1)
 have hC:∀j i,[(⟨42,0,1,Ai⟩:Ad),⟨5,0,0,Ai⟩][j]?=some i->M[p+(C0 a).length+(C0 b).length+j]?=some i:=fun j i q=>by
  rw[Nat.add_assoc,Nat.add_assoc];exact h _ i (by unfold I1;rw[List.getElem?_append_right (by omega),show(C0 a).length+((C0 b).length+j)-(C0 a).length=(C0 b).length+j by omega,List.getElem?_append_right (by omega),show(C0 b).length+j-(C0 b).length=j by omega];exact q)
 have s0:=p8 (P:=P) (bets:=bets) (m0:=bs (f+1) l []) rfl hA ha [] (.inl rfl) o;have s1:=p8 (P:=P) (bets:=bets) (m0:=bs (f+1) l []) rfl hB hb [ofInt a] (.inr ⟨_,rfl⟩) o;obtain⟨S,l',hS,hl,e⟩:=A4s (P:=P) (bets:=bets) (a:=a) (b:=b) (M:=M) hP (f:=f) ht o (p+(C0 a).length+(C0 b).length+1);have s2:Du P bets 1 (Bf (bs (f+1) l []) M [ofInt a,ofInt b] o (p+(C0 a).length+(C0 b).length)) _:=Ks rfl (hC 0 _ rfl) e;obtain⟨k,hk,s3⟩:=Ame (P:=P) (bets:=bets) (m0:=bs f l' [⟨M,p+(C0 a).length+(C0 b).length+1,0⟩]) rfl hS ha o ho;have s4:Du P bets 1 (Bf (bs f l' []) M [ofInt 0] (o++Hp a b) (p+(C0 a).length+(C0 b).length+1)) (Bf (bs f l' []) M [] (o++Hp a b) (p+(C0 a).length+(C0 b).length+1+1)):=Ks rfl (hC 1 _ rfl) rfl;have hlen:p+(I1 (C0 a) (C0 b)).length=p+(C0 a).length+(C0 b).length+1+1:=by simp[I1];omega
 rw[hlen];have:=p7 a;have:=p7 b;exact⟨_,l',by omega,hl,(((s0.trans s1).trans s2).trans s3).trans s4⟩
def K6(a b:Int)(kinds ints:List Int):List Dg:=[⟨0,0,kinds,ints⟩,⟨0,1,[6,6],[a,b]⟩]
theorem A3u(a b:Int)(ha:D7 a)(hb:D7 b)(kinds ints:List Int):∃n m',n<=200/\Jv (Kb (C0 a) (C0 b)) (K6 a b kinds ints) n (mstart (Kb (C0 a) (C0 b)))=some m'/\m'.code=0/\m'.out=Hp a b++Hp a b:=by
 generalize hP:Kb (C0 a) (C0 b)=P;have hfn:P.fns=[Oa]:=by rw[←hP];rfl
 have hm:P.main=I1 (C0 a) (C0 b)++I1 (C0 a) (C0 b):=by rw[←hP];rfl
 have h0:mstart P=Bf (bs 2000 ⟨0,none,0,0⟩ []) P.main [] [] 0:=by rw[←hP];rfl
 have p0:Om P.main 0 (I1 (C0 a) (C0 b)):=by rw[hm];exact Yl [] _ _
 have p1:Om P.main (I1 (C0 a) (C0 b)).length (I1 (C0 a) (C0 b)):=by
  rw[hm];have:=Yl (I1 (C0 a) (C0 b)) (I1 (C0 a) (C0 b)) [];rw[List.append_nil]at this;exact this
 have hw:(Hp a b).length<=12:=by unfold Hp Oh;split <;> simp
 obtain⟨k1,l1,hk1,hl1,g1⟩:=A2q (P:=P) (bets:=K6 a b kinds ints) hfn ha hb (f:=1999) (l:=⟨0,none,0,0⟩) (bt:=⟨0,0,kinds,ints⟩) (by simp[taken,K6]) p0 [] (by simp);obtain⟨k2,l2,Cj,Gi,g2⟩:=A2q (P:=P) (bets:=K6 a b kinds ints) hfn ha hb (f:=1998) (l:=l1) (bt:=⟨0,1,[6,6],[a,b]⟩) (by rw[hl1];simp[taken,K6]) p1 ([]++Hp a b) (by simp;omega);rw[Nat.zero_add]at g1;have g:=g1.trans g2;rw[←h0]at g;refine⟨1+(k2+k1),Bf (bs 1998 l2 []) P.main [] ([]++Hp a b++Hp a b) ((I1 (C0 a) (C0 b)).length+(I1 (C0 a) (C0 b)).length),by omega,?_,rfl,rfl⟩;rw[g 1];have hno:P.main[(I1 (C0 a) (C0 b)).length+(I1 (C0 a) (C0 b)).length]?=none:=by rw[List.getElem?_eq_none];rw[hm,List.length_append];exact Nat.le_refl _
 rw[Jv,if_neg (by show ¬((0:Nat)≠0);simp)];show(match P.main[(I1 (C0 a) (C0 b)).length+(I1 (C0 a) (C0 b)).length]? with|none=>_|some i=>_)=_;rw[hno]
def U4(i:Ad):Bool:=decide (0<=i.arg)&&decide (i.arg<=5000)&&i.v.r.isNone&&decide (i.v.k≠4)&&decide (i.v.t.length<=2000)&&decide (-9223372036854775808<=i.v.n)&&decide (i.v.n<=9223372036854775807)&&decide (i.op=42->i.arg.toNat<1)&&decide (i.op<=44)&&decide (i.op≠2)&&decide (i.op≠4)&&(decide (i.op<36)||decide (40<i.op))
theorem Tt{i:Ad}(h:U4 i=true):Jp 1 i:=by
 simp only[U4,Bool.and_eq_true,Bool.or_eq_true,decide_eq_true_eq,Option.isNone_iff_eq_none]at h;obtain⟨⟨⟨⟨h,o1⟩,o2⟩,o3⟩,o4⟩:=h;exact⟨h.1.1.1.1.1.1.1,h.1.1.1.1.1.1.2,h.1.1.1.1.1.2,h.1.1.1.1.2,⟨h.1.1.1.2,⟨h.1.1.2,h.1.2⟩,h.1.1.1.1.2⟩,h.2,o1,o2,o3,o4⟩
theorem Ri{l:List Ad}(h:l.all U4=true):∀i∈l,Jp 1 i:=fun i hi=>Tt (List.all_eq_true.1 h i hi)
theorem Uj(n:Int)(h:D7 n):Jp 1 ⟨0,0,0,ofInt n⟩:=⟨Int.le_refl 0,by show(0:Int)<=5000;decide,rfl,by show(2:Nat)≠4;decide,Qt h,fun q=>(by cases q),(by unfold Jr;dsimp only;omega)⟩
theorem Z9(a:Int)(ha:D7 a):∀i∈C0 a,Jp 1 i:=by
 unfold C0;unfold D7 at ha;split
 ·intro i hi;simp only[List.mem_cons,List.not_mem_nil,or_false]at hi;rcases hi with rfl|rfl|rfl|rfl
  ·exact Uj _ ⟨by omega,by omega⟩
  ·exact Tt (by rfl)
  ·exact Uj _ ⟨by omega,by omega⟩
  ·exact Tt (by rfl)
 ·intro i hi;simp only[List.mem_singleton]at hi;rw[hi];exact Uj _ ha
theorem Tu(a b:Int)(ha:D7 a)(hb:D7 b):Nf 2 (Kb (C0 a) (C0 b)):=by
 have hc:∀i∈I1 (C0 a) (C0 b),Jp 1 i:=by
  intro i hi;simp only[I1,List.mem_append]at hi;rcases hi with hi|hi|hi
  ·exact Z9 a ha i hi
  ·exact Z9 b hb i hi
  ·exact Ri (by rfl) i hi
 refine⟨by show(0:Nat)<=2;omega,?_,?_⟩
 ·intro i hi;simp only[Kb,List.mem_append]at hi;rcases hi with hi|hi
  ·exact hc i hi
  ·exact hc i hi
 ·intro f hf;simp only[Kb,List.mem_singleton]at hf;rw[hf];exact⟨Nat.le_refl 2,Nat.le_refl 2,Ri (by rfl)⟩
theorem Ab5(a b:Int)(ha:D7 a)(hb:D7 b)(bets:List Dg)(hbt:∀x∈bets,M7 x)(n:Nat)(hn:n<=20000):Nw (Kb (C0 a) (C0 b)) bets n (mstart (Kb (C0 a) (C0 b))):=Zu (Tu a b ha hb) hbt (by omega) n 2 _ (Wo (Tu a b ha hb)) (by omega)
end
section
set_option maxRecDepth 100000
open Go.Deep (BT)
def M3:List UInt8:=[102,110,32,102,40,120,41,32,123,32,114,101,116,117,114,110,32,120,32,43,32,120,59,32,125,32,112,114,105,110,116,32,102,40,50,41,59,32,112,114,105,110,116,32,102,40,34,97,34,41,59,32,112,114,105,110,116,32,102,40,51,41,59]
def Mx:List Tk:=[⟨4,1,[],0⟩,⟨1,1,[102],0⟩,⟨18,1,[],0⟩,⟨1,1,[120],0⟩,⟨19,1,[],0⟩,⟨20,1,[],0⟩,⟨9,1,[],0⟩,⟨1,1,[120],0⟩,⟨34,1,[],0⟩,⟨1,1,[120],0⟩,⟨25,1,[],0⟩,⟨21,1,[],0⟩,⟨12,1,[],0⟩,⟨1,1,[102],0⟩,⟨18,1,[],0⟩,⟨2,1,[],2⟩,⟨19,1,[],0⟩,⟨25,1,[],0⟩,⟨12,1,[],0⟩,⟨1,1,[102],0⟩,⟨18,1,[],0⟩,⟨3,1,[97],0⟩,⟨19,1,[],0⟩,⟨25,1,[],0⟩,⟨12,1,[],0⟩,⟨1,1,[102],0⟩,⟨18,1,[],0⟩,⟨2,1,[],3⟩,⟨19,1,[],0⟩,⟨25,1,[],0⟩,⟨0,1,[],0⟩]
def A5r:List Ad:=[⟨1,0,0,Ai⟩,⟨1,0,0,Ai⟩,⟨12,0,1,Ai⟩,⟨44,0,0,Ai⟩,⟨43,0,0,Ai⟩]
def fnA:Fn:=⟨[102],1,1,A5r⟩
def K9:List Ad:=[⟨0,0,0,ofInt 2⟩,⟨42,0,1,Ai⟩,⟨41,0,1,Ai⟩,⟨0,0,0,ofStr [97]⟩,⟨42,0,1,Ai⟩,⟨41,0,1,Ai⟩,⟨0,0,0,ofInt 3⟩,⟨42,0,1,Ai⟩,⟨41,0,1,Ai⟩]
def J7:Db:=⟨0,0,K9,[fnA]⟩
theorem A1n:lex 2001 M3 1 false=.inr Mx:=by kernel_rfl
theorem u6:Af 100000 10 0 .nil ⟨Mx,0⟩=some (G1 Mx,⟨[⟨0,1,[],0⟩],0⟩):=by kernel_rfl
theorem Aex:nest Mx 0=0:=by kernel_rfl
theorem Ai5:Ez (Cs (G1 Mx)) (G1 Mx) [] [] (0,0)=(0,0):=by kernel_rfl
theorem emA:Lt (G1 Mx)=J7:=by kernel_rfl
theorem Ajh:∃c,Ho M3=((0,0),some c)/\Lt c=J7:=by
 have hl:M3.length=63:=by kernel_rfl
 exact⟨_,Q9 M3 Mx (by omega) (fun f hf=>by rw[U8 f 2001 _ _ _ hf (by omega),A1n]) u6 Aex Ai5,emA⟩
theorem Abc:P9 M3:=Qe M3 Mx (fun f hf=>by rw[U8 f 2001 _ _ _ hf (show M3.length<2001 by rw[show M3.length=63 by kernel_rfl];omega),A1n]) u6 (of_decide_eq_true (by kernel_rfl))
def Ly(n:Nat):Gs:=⟨n,none,0,0⟩
theorem An4:Du J7 [] 6 (mstart J7) (Bf (bs 1999 (Ly 1) []) K9 [ofInt (wr (2+2))] [] 2):=fun n=>by kernel_rfl
theorem A8k(o:List (List UInt8)):Du J7 [] 6 (Bf (bs 1999 (Ly 1) []) K9 [] o 3) (Bf (bs 1998 (Ly 2) []) K9 [ofStr [97,97]] o 5):=fun n=>by kernel_rfl
theorem Afh(o:List (List UInt8)):Du J7 [] 6 (Bf (bs 1998 (Ly 2) []) K9 [] o 6) (Bf (bs 1997 (Ly 3) []) K9 [ofInt (wr (3+3))] o 8):=fun n=>by kernel_rfl
theorem A3p(arr:List (List PV))(t:List UInt8):Fk arr 4 [] (ofStr t)=t:=by simp[Fk,ofStr]
def O3:List (List UInt8):=[[52],[97,97],[54]]
theorem Ada:∃m',Jv J7 [] 22 (mstart J7)=some m'/\m'.code=0/\m'.out=O3:=by
 have i4:Lib.itoa (wr (2+2))=[52]:=by
  have:wr (2+2)=4:=Sh ⟨by decide,by decide⟩;rw[this];simp[Lib.itoa,Lib.decDigits]
 have i6:Lib.itoa (wr (3+3))=[54]:=by
  have:wr (3+3)=6:=Sh ⟨by decide,by decide⟩;rw[this];simp[Lib.itoa,Lib.decDigits]
 have s0:Du J7 [] 1 (Bf (bs 1999 (Ly 1) []) K9 [ofInt (wr (2+2))] [] 2) (Bf (bs 1999 (Ly 1) []) K9 [] ([]++[[52]]) 3):=Ks (P:=J7) (bets:=[]) rfl (show K9[2]?=some ⟨41,0,1,Ai⟩ from rfl) (R4 (V:=[]) ((Ns _ _).trans i4) (by simp) (by simp));have s1:Du J7 [] 1 (Bf (bs 1998 (Ly 2) []) K9 [ofStr [97,97]] ([]++[[52]]) 5) (Bf (bs 1998 (Ly 2) []) K9 [] ([]++[[52]]++[[97,97]]) 6):=Ks (P:=J7) (bets:=[]) rfl (show K9[5]?=some ⟨41,0,1,Ai⟩ from rfl) (R4 (V:=[]) (A3p _ _) (by simp) (by simp));have s2:Du J7 [] 1 (Bf (bs 1997 (Ly 3) []) K9 [ofInt (wr (3+3))] ([]++[[52]]++[[97,97]]) 8) (Bf (bs 1997 (Ly 3) []) K9 [] ([]++[[52]]++[[97,97]]++[[54]]) 9):=Ks (P:=J7) (bets:=[]) rfl (show K9[8]?=some ⟨41,0,1,Ai⟩ from rfl) (R4 (V:=[]) ((Ns _ _).trans i6) (by simp) (by simp));have g:=((((An4.trans s0).trans (A8k _)).trans s1).trans (Afh _)).trans s2;exact⟨_,g 1,rfl,rfl⟩
theorem Ve:Nf 1 J7:=by
 refine⟨by show(0:Nat)<=1;omega,Ri (by rfl),?_⟩;intro f hf;simp only[J7,List.mem_singleton]at hf;rw[hf];exact⟨Nat.le_refl 1,Nat.le_refl 1,Ri (by rfl)⟩
theorem A3n(n:Nat)(hn:n<=20000):Nw J7 [] n (mstart J7):=Zu Ve (fun x h=>by cases h) (by omega) n 1 _ (Wo Ve) (by omega)
end
section
def Tp(k:Nat):List UInt8:=[UInt8.ofNat (48+k)]
theorem A2y{n:Int}(h0:0<=n)(h:n<10):Dp n=Tp (n.tmod 10).toNat:=by
 unfold Dp;rw[if_neg (by omega),Lib.decDigits,dif_pos (by omega)];rw[Int.tmod_eq_of_lt h0 h];rfl
theorem Ac5{n:Int}(h:10<=n):Dp n=Dp (n.tdiv 10)++Tp (n.tmod 10).toNat:=by
 obtain⟨u,rfl⟩:∃u:Nat,n=(u:Int):=⟨n.toNat,by omega⟩;have e1:(u:Int).tdiv 10=((u / 10:Nat):Int):=rfl;have e2:(u:Int).tmod 10=((u % 10:Nat):Int):=rfl;rw[e1,e2];unfold Dp;rw[if_neg (by omega),if_neg (by omega),Int.toNat_natCast,Int.toNat_natCast,Int.toNat_natCast,Lib.decDigits,dif_neg (by omega)];rfl
theorem Aby{n:Int}(h:n<0):Dp n=[40,45]++Dp (-(n+1))++[45,49,41]:=by
 have e:Dp (-(n+1))=Lib.decDigits (-(n+1)).toNat:=by unfold Dp;rw[if_neg (by omega)]
 rw[e];unfold Dp;rw[if_pos h];rfl
theorem Aiq{n:Int}(h:0<=n):Lib.itoa n=Dp n:=by
 unfold Lib.itoa Dp;rw[if_neg (by omega),if_neg (by omega)]
theorem itoa_neg{n:Int}(h:n<0):Lib.itoa n=(if n.tdiv 10<0 then Lib.itoa (n.tdiv 10) else [45])++Tp (-(n.tmod 10)).toNat:=by
 obtain⟨u,rfl,hu⟩:∃u:Nat,n=-(u:Int)/\0<u:=⟨n.natAbs,by omega,by omega⟩;have e1:(-(u:Int)).tdiv 10=-((u / 10:Nat):Int):=by rw[Int.neg_tdiv];rfl
 have e2:-((-(u:Int)).tmod 10)=((u % 10:Nat):Int):=by rw[Int.neg_tmod,Int.neg_neg];rfl
 rw[e1,e2,Int.toNat_natCast];by_cases h10:u<10
 ·rw[if_neg (by omega)];unfold Lib.itoa;rw[if_pos h,Int.natAbs_neg,Int.natAbs_natCast,Lib.decDigits,dif_pos h10,Nat.mod_eq_of_lt h10];rfl
 ·rw[if_pos (by omega)];unfold Lib.itoa;rw[if_pos h,if_pos (by omega),Int.natAbs_neg,Int.natAbs_natCast,Int.natAbs_neg,Int.natAbs_natCast,Lib.decDigits,dif_neg h10];rfl
end
section
open Go.Deep (BT)
variable {N B k:Nat} {m:MS} {P:Db} {bets:List Dg}
theorem Agw(hP:Nf B P)(hbt:∀x∈bets,M7 x):∀(n k:Nat) (m m':MS),Inv P.fns.length B k m->Jv P bets n m=some m'->∃k',Inv P.fns.length B k' m':=by
 intro n;induction n with
 | zero=>intro k m m' h e;rw[Jv]at e;cases e
 | succ n ih=>
  intro k m m' h e;rw[Jv]at e;split at e
  ·cases e;exact⟨k,h⟩
  ·split at e
   ·cases e;exact⟨k,h⟩
   ·rename_i i hi;exact ih _ _ _ (h.step rfl hP hbt i (List.mem_of_getElem? hi)) e
theorem A0l(hP:Nf B P)(hbt:∀x∈bets,M7 x){n:Nat}{m':MS}(h:Jv P bets n (mstart P)=some m'):m'.lots.length=P.fns.length:=by
 obtain⟨k',hk⟩:=Agw hP hbt n B _ _ (Wo hP) h;exact hk.lotn
end
end Go.Proofs.YtjdlndhfaaolaaaGreatDoor
