import Derived.Test.YtjdlndhfaaolaaaGreatDoorQ06
import Derived.Test.YtjdlndhfaaolaaaGreatDoorQ41
import Derived.Test.YtjdlndhfaaolaaaGreatDoorQ49
set_option maxHeartbeats 20000000
namespace Go.Proofs.YtjdlndhfaaolaaaGreatDoor
section
open Go.RowKit
open Go.Deep (BT)
variable {C:MC} {D X:Nat->Prop} {w w':World} {m:MS} {β:Nat->Nat} {bets:List Dg}
theorem Uo(n:Nat):Dy n Ai:=by show(0:Nat)≠4;omega
theorem Xk{n:Nat}{l:List PV}(h:∀v∈l,Dy n v)(i:Nat):Dy n ((l[i]?).getD Ai):=by
 rcases Nat.lt_or_ge i l.length with q|q
 ·rw[List.getElem?_eq_getElem q];exact h _ (List.getElem_mem q)
 ·rw[List.getElem?_eq_none q];exact Uo n
theorem Xx{n:Nat}{l:List PV}(h:∀v∈l,Dy n v):Dy n (l.getLastD Ai):=by
 rw[List.getLastD_eq_getLast?,List.getLast?_eq_getElem?];exact Xk h _
theorem MC.Ms.vv(h:C.Ms D X β w m):∀v∈m.vals,Dy m.arr.length v:=by
 obtain⟨ρ,s,x,fv,ab,lp,h⟩:=h;exact h.vv.1
theorem MC.Ms.Td(h:C.Ms D X β w m):Dy m.arr.length m.top:=Xx h.vv
theorem MC.Ms.A00(h:C.Ms D X β w m):Dy m.arr.length m.pop.top:=Xx (fun v hv=>h.vv v (List.dropLast_subset _ hv))
theorem MC.Ms.vat(h:C.Ms D X β w m)(i:Int):Dy m.arr.length (m.at' i):=by
 unfold MS.at';split
 ·exact Uo _
 ·exact Xk h.vv _
theorem Qp{l:List PV}(h:∀v∈l,Jc v):Jc (l.getLastD Ai):=by
 rw[List.getLastD_eq_getLast?,List.getLast?_eq_getElem?];exact Ts h _
theorem Qn:∀(args:Array Value) (W:World),(callFunc 212 args).run Tryz.prog W=.ok (.enter 212 args) W:=Go.Proofs.enters_of Tryz.func212 (by kernel_rfl) rfl
theorem Aev:∀(args:Array Value) (W:World),(callFunc 157 args).run Tryz.prog W=.ok (.enter 157 args) W:=Go.Proofs.enters_of Tryz.func157 (by kernel_rfl) rfl
theorem U9:∀(args:Array Value) (W:World),(callFunc 159 args).run Tryz.prog W=.ok (.enter 159 args) W:=Go.Proofs.enters_of Tryz.func159 (by kernel_rfl) rfl
theorem Ln:∀(args:Array Value) (W:World),(callFunc 221 args).run Tryz.prog W=.ok (.enter 221 args) W:=Go.Proofs.enters_of Tryz.func221 (by kernel_rfl) rfl
theorem Tc:∀(args:Array Value) (W:World),(callFunc 222 args).run Tryz.prog W=.ok (.enter 222 args) W:=Go.Proofs.enters_of Tryz.func222 (by kernel_rfl) rfl
theorem Abd:∀(args:Array Value) (W:World),(callFunc 148 args).run Tryz.prog W=.ok (.enter 148 args) W:=Go.Proofs.enters_of Tryz.func148 (by kernel_rfl) rfl
theorem Pe:∀(args:Array Value) (W:World),(callFunc 156 args).run Tryz.prog W=.ok (.enter 156 args) W:=Go.Proofs.enters_of Tryz.func156 (by kernel_rfl) rfl
theorem Uc:∀(args:Array Value) (W:World),(callFunc 216 args).run Tryz.prog W=.ok (.enter 216 args) W:=Go.Proofs.enters_of Tryz.func216 (by kernel_rfl) rfl
theorem Ag5:∀(args:Array Value) (W:World),(callFunc 153 args).run Tryz.prog W=.ok (.enter 153 args) W:=Go.Proofs.enters_of Tryz.func153 (by kernel_rfl) rfl
theorem Agk:∀(args:Array Value) (W:World),(callFunc 219 args).run Tryz.prog W=.ok (.enter 219 args) W:=Go.Proofs.enters_of Tryz.func219 (by kernel_rfl) rfl
theorem Xq:∀(args:Array Value) (W:World),(callFunc 213 args).run Tryz.prog W=.ok (.enter 213 args) W:=Go.Proofs.enters_of Tryz.func213 (by kernel_rfl) rfl
theorem A5y:∀(args:Array Value) (W:World),(callFunc 154 args).run Tryz.prog W=.ok (.enter 154 args) W:=Go.Proofs.enters_of Tryz.func154 (by kernel_rfl) rfl
theorem Y6:∀(args:Array Value) (W:World),(callFunc 160 args).run Tryz.prog W=.ok (.enter 160 args) W:=Go.Proofs.enters_of Tryz.func160 (by kernel_rfl) rfl
theorem A4q:∀(args:Array Value) (W:World),(callFunc 149 args).run Tryz.prog W=.ok (.enter 149 args) W:=Go.Proofs.enters_of Tryz.func149 (by kernel_rfl) rfl
theorem Xl:∀(args:Array Value) (W:World),(callFunc 215 args).run Tryz.prog W=.ok (.enter 215 args) W:=Go.Proofs.enters_of Tryz.func215 (by kernel_rfl) rfl
theorem Wj:∀(args:Array Value) (W:World),(callFunc 218 args).run Tryz.prog W=.ok (.enter 218 args) W:=Go.Proofs.enters_of Tryz.func218 (by kernel_rfl) rfl
theorem W5:∀(args:Array Value) (W:World),(callFunc 220 args).run Tryz.prog W=.ok (.enter 220 args) W:=Go.Proofs.enters_of Tryz.func220 (by kernel_rfl) rfl
theorem Tw:∀(args:Array Value) (W:World),(callFunc 217 args).run Tryz.prog W=.ok (.enter 217 args) W:=Go.Proofs.enters_of Tryz.func217 (by kernel_rfl) rfl
theorem Agj:∀(args:Array Value) (W:World),(callFunc 151 args).run Tryz.prog W=.ok (.enter 151 args) W:=Go.Proofs.enters_of Tryz.func151 (by kernel_rfl) rfl
theorem Zx:∀(args:Array Value) (W:World),(callFunc 214 args).run Tryz.prog W=.ok (.enter 214 args) W:=Go.Proofs.enters_of Tryz.func214 (by kernel_rfl) rfl
theorem U7:∀(args:Array Value) (W:World),(callFunc 158 args).run Tryz.prog W=.ok (.enter 158 args) W:=Go.Proofs.enters_of Tryz.func158 (by kernel_rfl) rfl
theorem Nl:∀(args:Array Value) (W:World),(callFunc 155 args).run Tryz.prog W=.ok (.enter 155 args) W:=Go.Proofs.enters_of Tryz.func155 (by kernel_rfl) rfl
def SA(C:MC)(D X:Nat->Prop)(β:Nat->Nat)(w:World)(i:Ad)(m':MS):Prop:=∃k,(∀W:World,Calls Tryz.prog 100 #[.int .i64 (i.op:Nat)] W fun e w'=>e=.returned (.func (.func k) #[] #[])/\w'=W)/\(∀(args:Array Value) (W:World),(callFunc k args).run Tryz.prog W=.ok (.enter k args) W)/\Calls Tryz.prog k #[.pointer (some ⟨C.mb,0,none⟩),Ac i] w (MQ C D X β w m' (.tuple #[]))
theorem SA.of{i:Ad}{m':MS}{k:FuncId}{o:Nat}(ho:i.op=o)(ha:∀W:World,Calls Tryz.prog 100 #[.int .i64 (o:Nat)] W fun e w'=>e=.returned (.func (.func k) #[] #[])/\w'=W)(he:∀(args:Array Value) (W:World),(callFunc k args).run Tryz.prog W=.ok (.enter k args) W)(h:Calls Tryz.prog k #[.pointer (some ⟨C.mb,0,none⟩),Ac i] w (MP C D X β w m' (.tuple #[]))):SA C D X β w i m':=⟨k,by rw[ho];exact ha,he,h.mono (fun _ _ q=>MQ.of q)⟩
theorem Af4(h:C.Ms D X β w m)(i:Ad)(hf:E7 C.P i m)(ho:i.op=0):SA C D X β w i (B2 C.P bets i m):=by
 have hn:m.vals.length+1<=100000:=by have:=hf.vals;omega
 have e:B2 C.P bets i m=m.push i.v:=by unfold B2;rw[ho] <;> rfl
 rw[e];exact SA.of ho A6t Abd (aconst h i hf.ins.2.2.1 hf.ins.2.2.2.1 hn)
theorem Af7(h:C.Ms D X β w m)(i:Ad)(hf:E7 C.P i m)(ho:i.op=1):SA C D X β w i (B2 C.P bets i m):=by
 have hn:m.vals.length+1<=100000:=by have:=hf.vals;omega
 have e:B2 C.P bets i m=m.push (m.at' (m.now.base+i.arg)):=by unfold B2;rw[ho] <;> rfl
 rw[e];exact SA.of ho Ahy A4q (Al8 h i ⟨by have:=hf.base.1;omega,by have:=hf.base.2;omega⟩ ⟨by have:=hf.ins.1;omega,by have:=hf.ins.2.1;omega⟩ hn (h.vat _))
theorem Aki(h:C.Ms D X β w m)(i:Ad)(hf:E7 C.P i m)(ho:i.op=3):SA C D X β w i (B2 C.P bets i m):=by
 have hn:m.vals.length+1<=100000:=by have:=hf.vals;omega
 have e:B2 C.P bets i m=m.pop.put (m.now.base+i.arg) m.top:=by unfold B2;rw[ho] <;> rfl
 rw[e];exact SA.of ho A3k Agj (Aag h i ⟨by have:=hf.base.1;omega,by have:=hf.base.2;omega⟩ ⟨by have:=hf.ins.1;omega,by have:=hf.ins.2.1;omega⟩ h.Td)
theorem Abw(h:C.Ms D X β w m)(i:Ad)(hf:E7 C.P i m)(ho:i.op=5):SA C D X β w i (B2 C.P bets i m):=by
 have hn:m.vals.length+1<=100000:=by have:=hf.vals;omega
 have e:B2 C.P bets i m=m.pop:=by unfold B2;rw[ho] <;> rfl
 rw[e];exact SA.of ho Ahi Ag5 (A45 h i)
theorem Ah3(h:C.Ms D X β w m)(i:Ad)(hf:E7 C.P i m)(ho:i.op=6):SA C D X β w i (B2 C.P bets i m):=by
 have hn:m.vals.length+1<=100000:=by have:=hf.vals;omega
 have e:B2 C.P bets i m=m.jump i.arg:=by unfold B2;rw[ho] <;> rfl
 rw[e];exact SA.of ho Ak1 A5y (A7h h i hf.ins.1)
theorem A8g(h:C.Ms D X β w m)(i:Ad)(hf:E7 C.P i m)(ho:i.op=7):SA C D X β w i (B2 C.P bets i m):=by
 have hn:m.vals.length+1<=100000:=by have:=hf.vals;omega
 have e:B2 C.P bets i m=(if m.top.y then m.pop.Ke i (fun m'=>if m.top.k=1 then m' else m'.fail 5 i) else if m.top.k=1 then m.pop.jump i.arg else m.pop.fail 5 i):=by unfold B2;rw[ho] <;> rfl
 rw[e];have hfu:m.fuel<=100000:=by have:=hf.fuel;omega
 cases hy:m.top.y
 ·rw[if_neg (by simp)];by_cases hk:m.top.k=1
  ·rw[if_pos hk];exact SA.of ho Q8 Nl (Aa3 h i ho hk hy hf.ins.1)
  ·rw[if_neg hk];exact SA.of ho Q8 Nl (A47 h i ho hk hy)
 ·rw[if_pos rfl];unfold MS.Ke;by_cases hz:m.fuel=0
  ·rw[if_pos (by exact hz)];exact SA.of ho Q8 Nl (Ajs h i ho hy hz)
  ·rw[if_neg (by exact hz)];by_cases hk:m.top.k=1
   ·simp only[if_pos hk];exact SA.of ho Q8 Nl (Ad1 h i ho hk hy hz hfu)
   ·simp only[if_neg hk];exact SA.of ho Q8 Nl (Aam h i ho hk hy hz hfu)
theorem Afq(h:C.Ms D X β w m)(i:Ad)(hf:E7 C.P i m)(ho:i.op=8):SA C D X β w i (B2 C.P bets i m):=by
 have hn:m.vals.length+1<=100000:=by have:=hf.vals;omega
 have e:B2 C.P bets i m=(if m.top.k=1 then(if m.top.y then m.pop else m.pop.jump i.arg) else m.pop.fail 5 i):=by unfold B2;rw[ho] <;> rfl
 rw[e];by_cases hk:m.top.k=1
 ·rw[if_pos hk];cases hy:m.top.y
  ·rw[if_neg (by simp)];exact SA.of ho U1 Nl (Ags h i ho hk hy hf.ins.1)
  ·rw[if_pos rfl];exact SA.of ho U1 Nl (Ak3 h i ho hk hy)
 ·rw[if_neg hk];exact SA.of ho U1 Nl (A79 h i ho hk)
theorem A8m(h:C.Ms D X β w m)(i:Ad)(hf:E7 C.P i m)(ho:i.op=9):SA C D X β w i (B2 C.P bets i m):=by
 have hn:m.vals.length+1<=100000:=by have:=hf.vals;omega
 have e:B2 C.P bets i m=(if m.top.k=1 then(if m.top.y then m.pop else m.jump i.arg) else m.fail 5 i):=by unfold B2;rw[ho] <;> rfl
 rw[e];by_cases hk:m.top.k=1
 ·rw[if_pos hk];cases hy:m.top.y
  ·rw[if_neg (by simp)];exact SA.of ho U5 Pe (Ajt h i ho hk hy hf.ins.1)
  ·rw[if_pos rfl];exact SA.of ho U5 Pe (A4t h i ho hk hy)
 ·rw[if_neg hk];exact SA.of ho U5 Pe (Zj h i hk)
theorem Agd(h:C.Ms D X β w m)(i:Ad)(hf:E7 C.P i m)(ho:i.op=10):SA C D X β w i (B2 C.P bets i m):=by
 have hn:m.vals.length+1<=100000:=by have:=hf.vals;omega
 have e:B2 C.P bets i m=(if m.top.k=1 then(if m.top.y then m.jump i.arg else m.pop) else m.fail 5 i):=by unfold B2;rw[ho] <;> rfl
 rw[e];by_cases hk:m.top.k=1
 ·rw[if_pos hk];cases hy:m.top.y
  ·rw[if_neg (by simp)];exact SA.of ho U3 Pe (Adt h i ho hk hy)
  ·rw[if_pos rfl];exact SA.of ho U3 Pe (Ail h i ho hk hy hf.ins.1)
 ·rw[if_neg hk];exact SA.of ho U3 Pe (Zj h i hk)
theorem Ad6(h:C.Ms D X β w m)(i:Ad)(hf:E7 C.P i m)(ho:i.op=11):SA C D X β w i (B2 C.P bets i m):=by
 have hn:m.vals.length+1<=100000:=by have:=hf.vals;omega
 have e:B2 C.P bets i m=(if m.top.k=1 then m else m.fail 5 i):=by unfold B2;rw[ho] <;> rfl
 rw[e];exact SA.of ho A5q Aev (A78 h i)
theorem A91(h:C.Ms D X β w m)(i:Ad)(hf:E7 C.P i m)(ho:i.op=12):SA C D X β w i (B2 C.P bets i m):=by
 have hn:m.vals.length+1<=100000:=by have:=hf.vals;omega
 have e:B2 C.P bets i m=(if m.both 3 then m.join i else m.ints i (fun a b m'=>m'.push (ofInt (wr (a+b))))):=by unfold B2;rw[ho] <;> rfl
 rw[e];have t1:m.top.t.length<=100000:=by have:=(Qp hf.str).1;unfold MS.top;omega
 have t2:m.pop.top.t.length<=100000:=Nat.le_trans (Qp (fun v hv=>hf.str v (List.dropLast_subset _ hv))).1 (by omega);cases h3:m.both 3
 ·rw[if_neg (by simp)];unfold MS.ints;cases h2:m.both 2
  ·rw[if_neg (by simp)];exact SA.of ho Rv Qn (Ai1 h i ho h3 h2)
  ·rw[if_pos rfl];exact SA.of ho Rv Qn (A8r h i ho h3 h2 hn)
 ·rw[if_pos rfl];unfold MS.join MS.two;dsimp only;by_cases hz:100<m.pop.top.t.length+m.top.t.length
  ·rw[if_pos hz];exact SA.of ho Rv Qn (Agg h i ho h3 t2 t1 hz)
  ·rw[if_neg hz];exact SA.of ho Rv Qn (Ahq h i ho h3 (by omega) hn)
theorem Ah5(h:C.Ms D X β w m)(i:Ad)(hf:E7 C.P i m)(ho:i.op=13):SA C D X β w i (B2 C.P bets i m):=by
 have hn:m.vals.length+1<=100000:=by have:=hf.vals;omega
 have e:B2 C.P bets i m=m.two fun a b m'=>m'.push (ofInt (wr (a.n+b.n))):=by unfold B2;rw[ho] <;> rfl
 rw[e];exact SA.of ho A2v Qn (A8s h i ho hn)
theorem Al7(h:C.Ms D X β w m)(i:Ad)(hf:E7 C.P i m)(ho:i.op=14):SA C D X β w i (B2 C.P bets i m):=by
 have hn:m.vals.length+1<=100000:=by have:=hf.vals;omega
 have e:B2 C.P bets i m=m.join i:=by unfold B2;rw[ho] <;> rfl
 rw[e];have t1:m.top.t.length<=100000:=by have:=(Qp hf.str).1;unfold MS.top;omega
 have t2:m.pop.top.t.length<=100000:=Nat.le_trans (Qp (fun v hv=>hf.str v (List.dropLast_subset _ hv))).1 (by omega);unfold MS.join MS.two;dsimp only;by_cases hz:100<m.pop.top.t.length+m.top.t.length
 ·rw[if_pos hz];exact SA.of ho Yu Xq (Wy h i t2 t1 hz)
 ·rw[if_neg hz];exact SA.of ho Yu Xq (A21 h i (by omega) hn)
theorem Afw(h:C.Ms D X β w m)(i:Ad)(hf:E7 C.P i m)(ho:i.op=15):SA C D X β w i (B2 C.P bets i m):=by
 have hn:m.vals.length+1<=100000:=by have:=hf.vals;omega
 have e:B2 C.P bets i m=m.ints i (fun a b m'=>m'.push (ofInt (wr (a-b)))):=by unfold B2;rw[ho] <;> rfl
 rw[e];exact SA.of ho A80 Zx (Akf h i ho hn)
theorem Afs(h:C.Ms D X β w m)(i:Ad)(hf:E7 C.P i m)(ho:i.op=16):SA C D X β w i (B2 C.P bets i m):=by
 have hn:m.vals.length+1<=100000:=by have:=hf.vals;omega
 have e:B2 C.P bets i m=m.two fun a b m'=>m'.push (ofInt (wr (a.n-b.n))):=by unfold B2;rw[ho] <;> rfl
 rw[e];exact SA.of ho Aie Zx (A8y h i ho hn)
theorem Aco(h:C.Ms D X β w m)(i:Ad)(hf:E7 C.P i m)(ho:i.op=17):SA C D X β w i (B2 C.P bets i m):=by
 have hn:m.vals.length+1<=100000:=by have:=hf.vals;omega
 have e:B2 C.P bets i m=m.ints i (fun a b m'=>m'.push (ofInt (wr (a*b)))):=by unfold B2;rw[ho] <;> rfl
 rw[e];exact SA.of ho A58 Xl (A2w h i ho hn)
theorem Ady(h:C.Ms D X β w m)(i:Ad)(hf:E7 C.P i m)(ho:i.op=18):SA C D X β w i (B2 C.P bets i m):=by
 have hn:m.vals.length+1<=100000:=by have:=hf.vals;omega
 have e:B2 C.P bets i m=m.two fun a b m'=>m'.push (ofInt (wr (a.n*b.n))):=by unfold B2;rw[ho] <;> rfl
 rw[e];exact SA.of ho A69 Xl (Aho h i ho hn)
theorem Akd(h:C.Ms D X β w m)(i:Ad)(hf:E7 C.P i m)(ho:i.op=19):SA C D X β w i (B2 C.P bets i m):=by
 have hn:m.vals.length+1<=100000:=by have:=hf.vals;omega
 have e:B2 C.P bets i m=m.ints i (fun a b m'=>if b=0 then m'.fail 6 i else m'.push (ofInt (wr (a.tdiv b)))):=by unfold B2;rw[ho] <;> rfl
 rw[e];exact SA.of ho Ag7 Uc (A9d h i ho hn)
theorem Abt(h:C.Ms D X β w m)(i:Ad)(hf:E7 C.P i m)(ho:i.op=20):SA C D X β w i (B2 C.P bets i m):=by
 have hn:m.vals.length+1<=100000:=by have:=hf.vals;omega
 have e:B2 C.P bets i m=m.two fun a b m'=>if b.n=0 then m'.fail 6 i else m'.push (ofInt (wr (a.n.tdiv b.n))):=by unfold B2;rw[ho] <;> rfl
 rw[e];unfold MS.two;dsimp only;by_cases hz:m.top.n=0
 ·rw[if_pos hz];exact SA.of ho n8 Uc (Afr h i ho hz)
 ·rw[if_neg hz];exact SA.of ho n8 Uc (Acq h i ho hz hn)
theorem A39(h:C.Ms D X β w m)(i:Ad)(hf:E7 C.P i m)(ho:i.op=21):SA C D X β w i (B2 C.P bets i m):=by
 have hn:m.vals.length+1<=100000:=by have:=hf.vals;omega
 have e:B2 C.P bets i m=m.ints i (fun a b m'=>if b=0 then m'.fail 6 i else m'.push (ofInt (a.tmod b))):=by unfold B2;rw[ho] <;> rfl
 rw[e];exact SA.of ho Ama Tw (A6m h i ho hn)
theorem Ae6(h:C.Ms D X β w m)(i:Ad)(hf:E7 C.P i m)(ho:i.op=22):SA C D X β w i (B2 C.P bets i m):=by
 have hn:m.vals.length+1<=100000:=by have:=hf.vals;omega
 have e:B2 C.P bets i m=m.two fun a b m'=>if b.n=0 then m'.fail 6 i else m'.push (ofInt (a.n.tmod b.n)):=by unfold B2;rw[ho] <;> rfl
 rw[e];unfold MS.two;dsimp only;by_cases hz:m.top.n=0
 ·rw[if_pos hz];exact SA.of ho A14 Tw (A6c h i ho hz)
 ·rw[if_neg hz];exact SA.of ho A14 Tw (A3o h i ho hz hn)
theorem Ahw(h:C.Ms D X β w m)(i:Ad)(hf:E7 C.P i m)(ho:i.op=23):SA C D X β w i (B2 C.P bets i m):=by
 have hn:m.vals.length+1<=100000:=by have:=hf.vals;omega
 have e:B2 C.P bets i m=(if m.top.k=2 then m.pop.push (ofInt (wr (-m.top.n))) else m.fail 5 i):=by unfold B2;rw[ho] <;> rfl
 rw[e];by_cases hk:m.top.k=2
 ·rw[if_pos hk];exact SA.of ho Xv Wj (Aau h i ho hk hn)
 ·rw[if_neg hk];exact SA.of ho Xv Wj (Ab0 h i ho hk)
theorem A8u(h:C.Ms D X β w m)(i:Ad)(hf:E7 C.P i m)(ho:i.op=24):SA C D X β w i (B2 C.P bets i m):=by
 have hn:m.vals.length+1<=100000:=by have:=hf.vals;omega
 have e:B2 C.P bets i m=m.pop.push (ofInt (wr (-m.top.n))):=by unfold B2;rw[ho] <;> rfl
 rw[e];exact SA.of ho Aiv Wj (Akl h i ho hn)
theorem Acz(h:C.Ms D X β w m)(i:Ad)(hf:E7 C.P i m)(ho:i.op=25):SA C D X β w i (B2 C.P bets i m):=by
 have hn:m.vals.length+1<=100000:=by have:=hf.vals;omega
 have e:B2 C.P bets i m=m.pop.pop.push (ofBool (m.pop.top.same m.top)):=by unfold B2;rw[ho] <;> rfl
 rw[e];exact SA.of ho Akh Agk (Yq h i h.A00 h.Td hn)
theorem Akb(h:C.Ms D X β w m)(i:Ad)(hf:E7 C.P i m)(ho:i.op=26):SA C D X β w i (B2 C.P bets i m):=by
 have hn:m.vals.length+1<=100000:=by have:=hf.vals;omega
 have e:B2 C.P bets i m=m.pop.pop.push (ofBool (!m.pop.top.same m.top)):=by unfold B2;rw[ho] <;> rfl
 rw[e];exact SA.of ho A9b W5 (Akq h i ho h.A00 h.Td hn)
theorem A36(h:C.Ms D X β w m)(i:Ad)(hf:E7 C.P i m)(ho:i.op=27):SA C D X β w i (B2 C.P bets i m):=by
 have hn:m.vals.length+1<=100000:=by have:=hf.vals;omega
 have e:B2 C.P bets i m=(if m.top.k=1 then m.pop.push (ofBool (!m.top.y)) else m.pop.fail 5 i):=by unfold B2;rw[ho] <;> rfl
 rw[e];by_cases hk:m.top.k=1
 ·rw[if_pos hk];exact SA.of ho Xs W5 (Aeu h i ho hk hn)
 ·rw[if_neg hk];exact SA.of ho Xs W5 (Amh h i ho hk)
theorem Agm(h:C.Ms D X β w m)(i:Ad)(hf:E7 C.P i m)(ho:i.op=28):SA C D X β w i (B2 C.P bets i m):=by
 have hn:m.vals.length+1<=100000:=by have:=hf.vals;omega
 have e:B2 C.P bets i m=(if m.both 2||m.both 3 then m.two fun a b m'=>m'.push (ofBool (before b a)) else m.fail 5 i):=by unfold B2;rw[ho] <;> rfl
 rw[e];cases h2:m.both 2
 ·cases h3:m.both 3
  ·rw[if_neg (by simp)];exact SA.of ho Wm Ln (Su h i h2 h3)
  ·rw[if_pos (by simp)];exact SA.of ho Wm Ln (A72 h i ho h2 h3 hn)
 ·rw[if_pos (by simp)];exact SA.of ho Wm Ln (A9y h i ho h2 hn)
theorem Af6(h:C.Ms D X β w m)(i:Ad)(hf:E7 C.P i m)(ho:i.op=29):SA C D X β w i (B2 C.P bets i m):=by
 have hn:m.vals.length+1<=100000:=by have:=hf.vals;omega
 have e:B2 C.P bets i m=(if m.both 2||m.both 3 then m.two fun a b m'=>m'.push (ofBool (before a b)) else m.fail 5 i):=by unfold B2;rw[ho] <;> rfl
 rw[e];cases h2:m.both 2
 ·cases h3:m.both 3
  ·rw[if_neg (by simp)];exact SA.of ho Vf Ln (Su h i h2 h3)
  ·rw[if_pos (by simp)];exact SA.of ho Vf Ln (Aic h i ho h2 h3 hn)
 ·rw[if_pos (by simp)];exact SA.of ho Vf Ln (Ac9 h i ho h2 hn)
theorem Abg(h:C.Ms D X β w m)(i:Ad)(hf:E7 C.P i m)(ho:i.op=30):SA C D X β w i (B2 C.P bets i m):=by
 have hn:m.vals.length+1<=100000:=by have:=hf.vals;omega
 have e:B2 C.P bets i m=(if m.both 2||m.both 3 then m.two fun a b m'=>m'.push (ofBool (!before a b)) else m.fail 5 i):=by unfold B2;rw[ho] <;> rfl
 rw[e];cases h2:m.both 2
 ·cases h3:m.both 3
  ·rw[if_neg (by simp)];exact SA.of ho V7 Ln (Su h i h2 h3)
  ·rw[if_pos (by simp)];exact SA.of ho V7 Ln (Akw h i ho h2 h3 hn)
 ·rw[if_pos (by simp)];exact SA.of ho V7 Ln (Afx h i ho h2 hn)
theorem Ads(h:C.Ms D X β w m)(i:Ad)(hf:E7 C.P i m)(ho:i.op=31):SA C D X β w i (B2 C.P bets i m):=by
 have hn:m.vals.length+1<=100000:=by have:=hf.vals;omega
 have e:B2 C.P bets i m=(if m.both 2||m.both 3 then m.two fun a b m'=>m'.push (ofBool (!before b a)) else m.fail 5 i):=by unfold B2;rw[ho] <;> rfl
 rw[e];cases h2:m.both 2
 ·cases h3:m.both 3
  ·rw[if_neg (by simp)];exact SA.of ho Wg Ln (Su h i h2 h3)
  ·rw[if_pos (by simp)];exact SA.of ho Wg Ln (A8p h i ho h2 h3 hn)
 ·rw[if_pos (by simp)];exact SA.of ho Wg Ln (Alh h i ho h2 hn)
theorem A6k(h:C.Ms D X β w m)(i:Ad)(hf:E7 C.P i m)(ho:i.op=32):SA C D X β w i (B2 C.P bets i m):=by
 have hn:m.vals.length+1<=100000:=by have:=hf.vals;omega
 have e:B2 C.P bets i m=m.two fun a b m'=>m'.push (ofBool (decide (b.n<a.n))):=by unfold B2;rw[ho] <;> rfl
 rw[e];exact SA.of ho Aij Tc (A9l h i ho hn)
theorem A93(h:C.Ms D X β w m)(i:Ad)(hf:E7 C.P i m)(ho:i.op=33):SA C D X β w i (B2 C.P bets i m):=by
 have hn:m.vals.length+1<=100000:=by have:=hf.vals;omega
 have e:B2 C.P bets i m=m.two fun a b m'=>m'.push (ofBool (decide (a.n<b.n))):=by unfold B2;rw[ho] <;> rfl
 rw[e];exact SA.of ho Alb Tc (A7o h i ho hn)
theorem Ah6(h:C.Ms D X β w m)(i:Ad)(hf:E7 C.P i m)(ho:i.op=34):SA C D X β w i (B2 C.P bets i m):=by
 have hn:m.vals.length+1<=100000:=by have:=hf.vals;omega
 have e:B2 C.P bets i m=m.two fun a b m'=>m'.push (ofBool (decide (b.n<=a.n))):=by unfold B2;rw[ho] <;> rfl
 rw[e];exact SA.of ho A9v Tc (A6u h i ho hn)
theorem Afz(h:C.Ms D X β w m)(i:Ad)(hf:E7 C.P i m)(ho:i.op=35):SA C D X β w i (B2 C.P bets i m):=by
 have hn:m.vals.length+1<=100000:=by have:=hf.vals;omega
 have e:B2 C.P bets i m=m.two fun a b m'=>m'.push (ofBool (decide (a.n<=b.n))):=by unfold B2;rw[ho] <;> rfl
 rw[e];exact SA.of ho Acw Tc (Al9 h i ho hn)
theorem A7z(h:C.Ms D X β w m)(i:Ad)(hf:E7 C.P i m)(ho:i.op=43):SA C D X β w i (B2 C.P bets i m):=by
 have hn:m.vals.length+1<=100000:=by have:=hf.vals;omega
 have e:B2 C.P bets i m={ (m.cut m.now.base).push Ai with now:=m.calls.getLastD ⟨[],0,0⟩,calls:=m.calls.dropLast }:=by unfold B2;rw[ho] <;> rfl
 rw[e];exact SA.of ho Aj0 Y6 (A8c h i ho hn)
theorem A57(h:C.Ms D X β w m)(i:Ad)(hf:E7 C.P i m)(ho:i.op=44):SA C D X β w i (B2 C.P bets i m):=by
 have hn:m.vals.length+1<=100000:=by have:=hf.vals;omega
 have e:B2 C.P bets i m={ (m.pop.cut m.now.base).push m.top with now:=m.calls.getLastD ⟨[],0,0⟩,calls:=m.calls.dropLast }:=by unfold B2;rw[ho] <;> rfl
 rw[e];exact SA.of ho A7a Y6 (A5u h i ho h.Td hn)
theorem Acn(h:C.Ms D X β w m)(i:Ad)(hf:E7 C.P i m)(ht:G8 w)(hD:D Js)(ho:i.op=41):SA C D X β w i (B2 C.P bets i m):=by
 have hn:m.vals.length+1<=100000:=by have:=hf.vals;omega
 have e:B2 C.P bets i m=m.N7 i:=by unfold B2;rw[ho] <;> rfl
 rw[e];have hft:Rn m.top:=by
  have:=Qp hf.str;exact⟨this.2.2,this.2.1,by have:=this.1;unfold MS.top;omega⟩
 unfold MS.N7;by_cases hz:500<(Fk m.arr 4 [] m.top).length
 ·rw[if_pos (.inl hz)];exact SA.of ho U2 U7 (A42 h i hft ht hD hz)
 ·by_cases hq:m.out.length=100
  ·rw[if_pos (.inr hq)];exact SA.of ho U2 U7 (Akx h i hft ht hD (by omega) hq)
  ·rw[if_neg (by omega)];exact SA.of ho U2 U7 (A8b h i hft ht hD (by omega) (by have:=hf.out;omega))
theorem Aem(h:C.Ms D X β w m)(i:Ad)(hf:E7 C.P i m)(hb:It X w (.slice C.ba C.bn C.bc) bets)(hbl:bets.length<=1000)(hst:∀f∈C.P.fns,f.steps.length<=90000)(hN:C.P.fns.length<=1000000)(ho:i.op=42):SA C D X β w i (B2 C.P bets i m):=by
 have hfu:m.fuel<=100000:=by have:=hf.fuel;omega
 have hlt:=hf.ins.2.2.2.2.2.1 ho;have hfn:=List.getElem?_eq_getElem hlt;have hll:i.arg.toNat<m.lots.length:=by rw[hf.lotn];exact hlt
 have hl:=List.getElem?_eq_getElem hll;by_cases hz:m.fuel=0
 ·have e:B2 C.P bets i m=m.fail 8 i:=by
   unfold B2;rw[ho];show MS.Ke _ _ _=_;unfold MS.Ke;rw[if_pos hz]
  rw[e];exact SA.of ho Ux U9 (Aef h i hz)
 by_cases hd:m.calls.length=40
 ·have e:B2 C.P bets i m={ m with fuel:=m.fuel-1 }.fail 9 i:=by
   unfold B2;rw[ho];show MS.Ke _ _ _=_;unfold MS.Ke;rw[if_neg hz];dsimp only;rw[if_pos hd]
  rw[e];exact SA.of ho Ux U9 (Ami h i hz hfu hd)
 ·rw[Ze m i ho hz hd hfn];have hm:=List.getElem_mem hlt;refine⟨_,by rw[ho];exact Ux,U9,Acj h i hz hfu (by have:=hf.depth;omega) (j:=i.arg.toNat) (by have:=hf.ins.1;omega) hfn hl hb hbl hf.fns (hst _ hm) hN (fun fo hfo=>hf.lots _ (List.getElem_mem hll) fo hfo) hf.vals (hf.lotc _ (List.getElem_mem hll))⟩
theorem Ajg(h:C.Ms D X β w m)(i:Ad)(hf:E7 C.P i m)(ht:G8 w)(hD:D Js)(hb:It X w (.slice C.ba C.bn C.bc) bets)(hbl:bets.length<=1000)(hst:∀f∈C.P.fns,f.steps.length<=90000)(hN:C.P.fns.length<=1000000):SA C D X β w i (B2 C.P bets i m):=by
 have hop:=hf.ins.2.2.2.2.2.2;have ho:i.op=0\/i.op=1\/i.op=3\/i.op=5\/i.op=6\/i.op=7\/i.op=8\/i.op=9\/i.op=10\/i.op=11\/i.op=12\/i.op=13\/i.op=14\/i.op=15\/i.op=16\/i.op=17\/i.op=18\/i.op=19\/i.op=20\/i.op=21\/i.op=22\/i.op=23\/i.op=24\/i.op=25\/i.op=26\/i.op=27\/i.op=28\/i.op=29\/i.op=30\/i.op=31\/i.op=32\/i.op=33\/i.op=34\/i.op=35\/i.op=41\/i.op=42\/i.op=43\/i.op=44:=by unfold Jr at hop;omega
 rcases ho with ho|ho|ho|ho|ho|ho|ho|ho|ho|ho|ho|ho|ho|ho|ho|ho|ho|ho|ho|ho|ho|ho|ho|ho|ho|ho|ho|ho|ho|ho|ho|ho|ho|ho|ho|ho|ho|ho
 ·exact Af4 h i hf ho
 ·exact Af7 h i hf ho
 ·exact Aki h i hf ho
 ·exact Abw h i hf ho
 ·exact Ah3 h i hf ho
 ·exact A8g h i hf ho
 ·exact Afq h i hf ho
 ·exact A8m h i hf ho
 ·exact Agd h i hf ho
 ·exact Ad6 h i hf ho
 ·exact A91 h i hf ho
 ·exact Ah5 h i hf ho
 ·exact Al7 h i hf ho
 ·exact Afw h i hf ho
 ·exact Afs h i hf ho
 ·exact Aco h i hf ho
 ·exact Ady h i hf ho
 ·exact Akd h i hf ho
 ·exact Abt h i hf ho
 ·exact A39 h i hf ho
 ·exact Ae6 h i hf ho
 ·exact Ahw h i hf ho
 ·exact A8u h i hf ho
 ·exact Acz h i hf ho
 ·exact Akb h i hf ho
 ·exact A36 h i hf ho
 ·exact Agm h i hf ho
 ·exact Af6 h i hf ho
 ·exact Abg h i hf ho
 ·exact Ads h i hf ho
 ·exact A6k h i hf ho
 ·exact A93 h i hf ho
 ·exact Ah6 h i hf ho
 ·exact Afz h i hf ho
 ·exact Acn h i hf ht hD ho
 ·exact Aem h i hf hb hbl hst hN ho
 ·exact A7z h i hf ho
 ·exact A57 h i hf ho
end
section
set_option maxRecDepth 100000
open Go.RowKit
open Go.Deep (BT)
variable {C:MC} {D X:Nat->Prop} {w w':World} {m:MS} {β:Nat->Nat} {bets:List Dg}
theorem MC.Ms.Aj3(h:C.Ms D X β w m):∃x,Jh D w x m.now/\w.cell? ⟨C.mb,6,none⟩=some (.slice x.a x.n x.c)/\w.cell? ⟨C.mb,7,none⟩=some (.int .i64 (x.pc:Nat))/\w.cell? ⟨C.mb,12,none⟩=some (.int .i64 (m.code:Nat))/\(∀o,w.frozen? ⟨C.mb,o,none⟩=false)/\(∀g,D g->g<w.heap.size/\C.mb≠g):=by
 obtain⟨ρ,s,x,fv,ab,lp,h⟩:=h;exact⟨x,h.now,A2 h.cell 6 _ rfl,A2 h.cell 7 _ rfl,A2 h.cell 12 _ rfl,Bd h.cell,fun g hg=>⟨(h.prot g (.inl hg)).1,fun e=>h.lo.2 (by rw[e];exact .inl hg)⟩⟩
theorem Ag1{w:World}{b:Nat}{T:TypeId}{sz:Nat}{v:Value}{n:Nat}{xs:List Value}(h:w.ownsRow b T sz v n xs):n<=9223372036854775807:=by
 rcases h.2 with⟨_,h0⟩|⟨g,cap,cur,_,_,_,h1,h2,_⟩
 ·omega
 ·unfold maxLen at h2;omega
theorem E7.pc{P:Db}{i:Ad}(h:E7 P i m)(p:Nat):E7 P i { m with now:=⟨m.now.steps,p,m.now.base⟩ }:=⟨h.ins,h.vals,h.base,h.fuel,h.depth,h.out,h.str,h.lotn,h.lots,h.lotc,h.fns⟩
theorem Aab{P:Program}{ops:Array Oper}{o:Oper}{a:Act}{w:World}{K:Act->World->Prop}{Q:Exit->Act->World->Prop}{E:Prop}(hg:o.guard=none)(f:FuncId)(args:Array Value)
  (hrun:(execOp a.eval o).run P w=.ok (.enter f args) w) {R:Ending->World->Prop} (hC:Calls P f args w R)
  (h:∀e w',R e w'->∃u,e=.returned u/\K (a.put o.dst u) w'):if Region.wanted o (yielded ops a.tmps)=true then Oper.wp P o a w K Q else E:=by
 have hw:Region.wanted o (yielded ops a.tmps)=true:=by simp[Region.wanted,hg]
 rw[if_pos hw];unfold Oper.wp;rw[hrun,Oper.upon_enter];refine hC.mono ?_;intro e w' hR;obtain⟨u,rfl,hK⟩:=h e w' hR;exact hK
theorem Ab1(h:C.Ms D X β w m){n:Nat}{m':MS}(hr:Jv C.P bets n m=some m')(hok:Nw C.P bets n m)(ht:G8 w)(hD:D Js)(hb:It X w (.slice C.ba C.bn C.bc) bets)(hbl:bets.length<=1000)(hst:∀f∈C.P.fns,f.steps.length<=90000)(hN:C.P.fns.length<=1000000) :
  Calls Tryz.prog 58 #[.pointer (some ⟨C.mb,0,none⟩)] w (MQ C D X β w m' (.tuple #[])):=by
 have HS:=A0 h;have HR:=A0 hr;have HO:=A0 hok;have HT:=A0 ht;have HB:=A0 hb;clear h hr hok ht hb;go_enter Tryz.func58,Tryz.ntmps58;go_wp2;go_loopg [] n (fun k wr=>∃(D2:Nat->Prop) (m2:MS),(∀g,D g->D2 g)/\C.Ms D2 X β wr m2/\A3 (dx D X) w wr/\Jv C.P bets k m2=some m'/\Nw C.P bets k m2)
 case atStart=>exact⟨D,m,fun _ h=>h,HS.o,A3.refl _ _,HR.o,HO.o⟩
 case round=>
  obtain⟨D2,m2,hDD,Au,A8,B0,hok2⟩:=hrel;obtain⟨x,hx,g6,g7,g12,gz,hlo⟩:=Au.Aj3;have lb:=Au.B7;have Ak:=A0 Au;have Aa:=A0 A8;have hxn:x.n=m2.now.steps.length:=(C8 hx.row.1).1;have hxp:=hx.pc;cases gk with
  | zero=>rw[Jv]at B0;cases B0
  | succ k=>
   rw[Jv]at B0;by_cases hc:m2.code=0
   ·rw[if_neg (by rw[hc];simp)]at B0;have tc:((m2.code:Int)==0)=true:=by rw[hc];rfl
    cases hi:m2.now.steps[m2.now.pc]? with
    | none=>
     rw[hi]at B0;injection B0 with B0;have hle:m2.now.steps.length<=m2.now.pc:=by
      rcases Nat.lt_or_ge m2.now.pc m2.now.steps.length with q|q
      ·rw[List.getElem?_eq_getElem q]at hi;cases hi
      ·exact q
     have tl:¬((x.pc:Nat):Int)<((x.n:Nat):Int):=by omega
     have HE:=A0 B0;clear Au A8 hok2 B0 hx;go_wp2;go_region
     all_goals go_wp2
     all_goals go_end0
     all_goals rw[←HE.o]
     all_goals exact⟨rfl,⟨D2,hDD,Ak.o.Jo⟩,Aa.o.trans (E6 _ _ 1)⟩
    | some i=>
     rw[hi]at B0;obtain⟨hfit,hok3⟩:=hok2 hc i hi;obtain⟨hlt,hie⟩:=List.getElem?_eq_some_iff.1 hi;have tl:((m2.now.pc:Nat):Int)<((x.n:Nat):Int):=by omega
     have hmx:=Ag1 hx.row.1;obtain⟨g,k1,_,hcap,lg,hcell⟩:=Gj hx.row.1 (by omega);have hgD:=hx.row.2 g (by rw[k1];rfl);have hng:=(hlo g hgD).2;rw[k1]at g6;rw[hxp]at g7;clear hxp;have d0:=hcell (m2.now.pc*8+0) _ ((Cv (f:=Ej) (sz:=8) (fun _=>rfl) m2.now.steps m2.now.pc 0 hlt (by omega)).trans rfl);have d1:=hcell (m2.now.pc*8+1) _ ((Cv (f:=Ej) (sz:=8) (fun _=>rfl) m2.now.steps m2.now.pc 1 hlt (by omega)).trans rfl);have d2:=hcell (m2.now.pc*8+2) _ ((Cv (f:=Ej) (sz:=8) (fun _=>rfl) m2.now.steps m2.now.pc 2 hlt (by omega)).trans rfl);have d3:=hcell (m2.now.pc*8+3) _ ((Cv (f:=Ej) (sz:=8) (fun _=>rfl) m2.now.steps m2.now.pc 3 hlt (by omega)).trans rfl);have d4:=hcell (m2.now.pc*8+4) _ ((Cv (f:=Ej) (sz:=8) (fun _=>rfl) m2.now.steps m2.now.pc 4 hlt (by omega)).trans rfl);have d5:=hcell (m2.now.pc*8+5) _ ((Cv (f:=Ej) (sz:=8) (fun _=>rfl) m2.now.steps m2.now.pc 5 hlt (by omega)).trans rfl);have d6:=hcell (m2.now.pc*8+6) _ ((Cv (f:=Ej) (sz:=8) (fun _=>rfl) m2.now.steps m2.now.pc 6 hlt (by omega)).trans rfl);have d7:=hcell (m2.now.pc*8+7) _ ((Cv (f:=Ej) (sz:=8) (fun _=>rfl) m2.now.steps m2.now.pc 7 hlt (by omega)).trans rfl);replace d0:wr.cell? ⟨g,m2.now.pc*8,none⟩=some (.int .i64 (m2.now.steps[m2.now.pc].op:Nat)):=d0;rw[hie]at d0 d1 d2 d3 d4 d5 d6;obtain⟨s1,s2⟩:=Au.Ra ((m2.now.pc:Int)+1) (by omega);have hbA:Below (wr.setCell ⟨C.mb,7,none⟩ (.int .i64 ((m2.now.pc:Int)+1))).heap.size (wr.setCell ⟨C.mb,7,none⟩ (.int .i64 ((m2.now.pc:Int)+1))) ((wr.setCell ⟨C.mb,7,none⟩ (.int .i64 ((m2.now.pc:Int)+1))).alloc (.cells #[.int .i64 (i.op:Nat),.int .i64 i.arg,.int .i64 (i.line:Nat),.int .i64 (i.v.k:Nat),.bool i.v.y,.int .i64 i.v.n,.string ⟨i.v.t.toArray⟩,.pointer none] 251)):=Jn _ _;have hiA:=heap_alloc_new (wr.setCell ⟨C.mb,7,none⟩ (.int .i64 ((m2.now.pc:Int)+1))) (.cells #[.int .i64 (i.op:Nat),.int .i64 i.arg,.int .i64 (i.line:Nat),.int .i64 (i.v.k:Nat),.bool i.v.y,.int .i64 i.v.n,.string ⟨i.v.t.toArray⟩,.pointer none] 251);rw[show(wr.setCell ⟨C.mb,7,none⟩ (.int .i64 ((m2.now.pc:Int)+1))).heap.size=wr.heap.size by simp]at hiA;obtain⟨s3,s4⟩:=s1.below hbA;have hj:m2.jump ((m2.now.pc:Int)+1)={ m2 with now:=⟨m2.now.steps,m2.now.pc+1,m2.now.base⟩ }:=by unfold MS.jump;rw[show((m2.now.pc:Int)+1).toNat=m2.now.pc+1 by omega]
     rw[hj]at s3;obtain⟨w0,Cq⟩:∃w0,w0=((wr.setCell ⟨C.mb,7,none⟩ (.int .i64 ((m2.now.pc:Int)+1))).alloc (.cells #[.int .i64 (i.op:Nat),.int .i64 i.arg,.int .i64 (i.line:Nat),.int .i64 (i.v.k:Nat),.bool i.v.y,.int .i64 i.v.n,.string ⟨i.v.t.toArray⟩,.pointer none] 251)).drew.drew:=⟨_,rfl⟩;have hi0:w0.heap[wr.heap.size]?=some (.cells #[.int .i64 (i.op:Nat),.int .i64 i.arg,.int .i64 (i.line:Nat),.int .i64 (i.v.k:Nat),.bool i.v.y,.int .i64 i.v.n,.string ⟨i.v.t.toArray⟩,.pointer none] 251 (0,0)):=by rw[Cq];exact hiA
     have s5:C.Ms D2 X β w0 { m2 with now:=⟨m2.now.steps,m2.now.pc+1,m2.now.base⟩ }:=by rw[Cq];exact s3.Jo.Jo
     have hBel0:A3 (dx D X) w w0:=by rw[Cq];exact A8.trans (((s2.trans s4).trans (E6 _ _ 2)).weak (fun g hg=>hg.imp (fun q=>hDD g q) id))
     have hBel:A3 (dx D X) w w0.drew:=hBel0.trans (E6 _ _ 1);obtain⟨k9,hka,hke,hkc⟩:=Ajg (bets:=bets) s5.Jo i (hfit.pc _) (HT.o.Bn hD hBel) (hDD _ hD) (HB.o.keep (K':=X) (fun g hg _=>⟨hBel.block g (.inr hg),hg⟩) hBel.size) hbl hst hN;have HKA:=A0 hka;have HKE:=A0 hke;have HKC:=A0 hkc;have HBel:=A0 hBel;have C1:=A0 B0;have Cg:=A0 hok3;have Aq:=A0 Cq;have Aw:=A0 hi0;have Ce:=s5.B7;unfold Ac at HKC;clear Au A8 hok2 B0 hx hok3 s1 s2 s3 s4 s5 hj hbA hBel hBel0 hka hke hkc hcell hie hi hfit hiA hi0 Cq;go_wp2_with fail
     go_region
     all_goals go_wp2_with fail
     go_region
     all_goals go_wp2_with fail
     rw[←Aq.o];have q0:=A2 Aw.o 0 _ rfl;have q1:=A2 Aw.o 1 _ rfl;have q2:=A2 Aw.o 2 _ rfl;have q3:=A2 Aw.o 3 _ rfl;have q4:=A2 Aw.o 4 _ rfl;have q5:=A2 Aw.o 5 _ rfl;have q6:=A2 Aw.o 6 _ rfl;have q7:=A2 Aw.o 7 _ rfl;have lq:=A4 Aw.o;clear d0 d1 d2 d3 d4 d5 d6 d7 g6 g7 g12 gz Aw Aq;go_region_law (first
      | (refine Fj rfl 100 _ _ rfl #[.int .i64 (i.op:Nat)] (by kernel_rfl) (HKA.o _) ?_;rintro e w9 ⟨rfl,Dj⟩;subst Dj;refine⟨_,rfl,?_⟩)
      | (refine Aab rfl k9 #[.pointer (some ⟨C.mb,0,none⟩),.agg #[.int .i64 (i.op:Nat),.int .i64 i.arg,.int .i64 (i.line:Nat),.int .i64 (i.v.k:Nat),.bool i.v.y,.int .i64 i.v.n,.string ⟨i.v.t.toArray⟩,.pointer none]] (Eq.trans (b:=(callFunc k9 #[.pointer (some ⟨C.mb,0,none⟩),.agg #[.int .i64 (i.op:Nat),.int .i64 i.arg,.int .i64 (i.line:Nat),.int .i64 (i.v.k:Nat),.bool i.v.y,.int .i64 i.v.n,.string ⟨i.v.t.toArray⟩,.pointer none]]).run Tryz.prog w0.drew) (by kernel_rfl) (HKE.o _ _)) HKC.o ?_;rintro e w3 ⟨rfl,⟨D3,hD3,h3⟩,k3⟩;refine⟨_,rfl,?_⟩;have HD3:Hid (∀g,D g->D3 g):=fun g hg=>hD3 g (hDD g hg);have Bh:=A0 h3;have At:Hid (A3 (dx D X) w w3):=HBel.o.trans (k3.weak (fun g hg=>hg.imp (fun q=>hDD g q) id));have lb3:=h3.B7;clear h3 k3 hD3))
     all_goals
      go_wp2;go_roundg k
      case measure=>omega
      case rel=>exact⟨D3,_,HD3.o,Bh.o,At.o,C1.o,Cg.o⟩
   ·rw[if_pos hc]at B0;injection B0 with B0;have tc:((m2.code:Int)==0)=false:=by rw[beq_eq_false_iff_ne];omega
    have HE:=A0 B0;clear Au A8 hok2 B0 hx;go_wp2;go_region
    all_goals go_wp2
    all_goals go_end0
    all_goals rw[←HE.o]
    all_goals exact⟨rfl,⟨D2,hDD,Ak.o.Jo⟩,Aa.o.trans (E6 _ _ 1)⟩
end
section
open Go.RowKit
open Go.Deep (BT)
def Oq(lb n gb k:Nat):Oz:=⟨some ⟨lb,0,none⟩,n,n,some ⟨gb,0,none⟩,k,k,none,0,0,none,0,0,none,0,0⟩
def Ny(P:Db):MS:=⟨[],Ju P.globals,[],⟨[],0,0⟩,2000,0,[],0,0,[],List.replicate P.fns.length ⟨0,none,0,0⟩⟩
theorem A1s{C:MC}{E D:Nat->Prop}{w W:World}{lb gb:Nat}(hP:Jx E w C.pb C.P)(hE:∀g,E g->D g)(hDl:∀g,D g->g<w.heap.size)
  (hm:W.heap[C.mb]?=some (.cells (C.cells (Oq lb C.P.fns.length gb C.P.globals) Nd 2000 0 0 0) 167 (0,0)))
  (hl:W.heap[lb]?=some (.cells (madeCells #[.int .i64 0,.pointer none,.int .i64 0,.int .i64 0] (C.P.fns.length*4)) 172 (0,0)))
  (hg:W.heap[gb]?=some (.cells (madeCells #[.int .i64 0,.bool false,.int .i64 0,.string ⟨#[]⟩,.pointer none] (C.P.globals*5)) 225 (0,0)))
  (hk:∀g,g<w.heap.size->W.heap[g]?=w.heap[g]?) (hs:w.heap.size<=W.heap.size) (h1:w.heap.size<=C.mb) (h2:w.heap.size<=lb) (h3:w.heap.size<=gb) (h12:C.mb≠lb) (h13:C.mb≠gb) (h23:lb≠gb) (hn:C.P.fns.length<=1000000) (hgn:C.P.globals<=1000000) (β:Nat->Nat) :
  C.Ms D (fun g=>g<w.heap.size) β W (Ny C.P):=by
 have hkD:∀g,E g->g<w.heap.size->W.heap[g]?=w.heap[g]?/\D g:=fun g hg' hlt=>⟨hk g hlt,hE g hg'⟩;have hlots:=z8 (f:=I7) (sz:=4) (fun _=>rfl) (by omega) _ ((none,⟨0,none,0,0⟩):Option Addr×Gs) rfl C.P.fns.length hn hl;have hgls:=z8 (f:=Fc β) (sz:=5) (fun _=>rfl) (by omega) _ Ai rfl C.P.globals hgn hg;refine⟨fun g=>if g=C.mb then 1 else if g=lb then 2 else if g=gb then 3 else if g<w.heap.size then 0 else 6,Oq lb C.P.fns.length gb C.P.globals,Nd,[],[],List.replicate C.P.fns.length (none,⟨0,none,0,0⟩),hm,hP.keep hkD,?_,?_,?_,?_,?_,?_,⟨rfl,.inl ⟨rfl,rfl⟩⟩,?_,⟨rfl,.inl ⟨rfl,rfl⟩⟩,?_,trivial,⟨⟨⟨rfl,.inl ⟨rfl,rfl⟩⟩,fun g hg'=>by simp[Nd,Value.ownBlock]at hg'⟩,rfl,rfl⟩,⟨rfl,.inl ⟨rfl,rfl⟩⟩,?_,⟨rfl,fun i h=>by simp at h⟩,?_,⟨?_,?_⟩,⟨by simp[Ny],by simp[Ny],by simp[Ny]⟩,⟨by simp[Ny],?_,by simp[Ny]⟩⟩
 ·rw[List.length_replicate];exact hlots
 ·intro g hg';simp only[Oq,Value.ownBlock,Option.some.injEq]at hg';subst hg';rw[if_neg (fun e=>h12 e.symm),if_pos rfl]
 ·simp[Ny]
 ·intro q hq;rw[List.mem_replicate]at hq;rw[hq.2];rfl
 ·have:(Ju C.P.globals).length=C.P.globals:=by simp[Ju]
  show W.ownsRow 0 _ 5 _ (Ju C.P.globals).length (C6 (Fc β) (Ju C.P.globals));rw[this];exact hgls
 ·intro g hg';simp only[Oq,Value.ownBlock,Option.some.injEq]at hg';subst hg';rw[if_neg (fun e=>h13 e.symm),if_neg (fun e=>h23 e.symm),if_pos rfl]
 ·intro g hg';simp[Oq,Value.ownBlock]at hg'
 ·intro g hg';simp[Oq,Value.ownBlock]at hg'
 ·intro g hg';simp[Oq,Value.ownBlock]at hg'
 ·intro g hg';have hlt:g<w.heap.size:=by
   rcases hg' with q|q
   ·exact hDl g q
   ·exact q
  refine⟨by omega,?_⟩;rw[if_neg (by omega),if_neg (by omega),if_neg (by omega),if_pos hlt]
 ·rw[if_pos rfl]
 ·intro g hg';by_cases e:g=C.mb
  ·exact e
  ·rw[if_neg e]at hg';split at hg'
   ·cases hg'
   ·split at hg'
    ·cases hg'
    ·split at hg' <;> cases hg'
 ·intro v hv;simp only[Ny,Ju,List.mem_replicate]at hv;rw[hv.2];exact Uo _
end
end Go.Proofs.YtjdlndhfaaolaaaGreatDoor
