import Derived.Test.YtjdlndhfaaolaaaGreatDoorV37
import Derived.Test.YtjdlndhfaaolaaaGreatDoorV43
set_option maxHeartbeats 20000000
namespace Go.Proofs.YtjdlndhfaaolaaaGreatDoor
section
open Go.RowKit
open Go.Deep (BT)
variable {C:MC} {D X:Nat->Prop} {w w':World} {m:MS} {β:Nat->Nat} {bets:List Cx}
theorem Acv:∀(args:Array Value) (W:World),(callFunc 150 args).run Tryz.prog W=.ok (.enter 150 args) W:=Go.Proofs.enters_of Tryz.func150 z4xa rfl
theorem Acx:∀(args:Array Value) (W:World),(callFunc 152 args).run Tryz.prog W=.ok (.enter 152 args) W:=Go.Proofs.enters_of Tryz.func152 z4xa rfl
theorem A0k:∀(args:Array Value) (W:World),(callFunc 161 args).run Tryz.prog W=.ok (.enter 161 args) W:=Go.Proofs.enters_of Tryz.func161 z4xa rfl
theorem A0j:∀(args:Array Value) (W:World),(callFunc 162 args).run Tryz.prog W=.ok (.enter 162 args) W:=Go.Proofs.enters_of Tryz.func162 z4xa rfl
theorem Wq:∀(args:Array Value) (W:World),(callFunc 163 args).run Tryz.prog W=.ok (.enter 163 args) W:=Go.Proofs.enters_of Tryz.func163 z4xa rfl
theorem S9:∀(args:Array Value) (W:World),(callFunc 164 args).run Tryz.prog W=.ok (.enter 164 args) W:=Go.Proofs.enters_of Tryz.func164 z4xa rfl
theorem Qp:∀(args:Array Value) (W:World),(callFunc 165 args).run Tryz.prog W=.ok (.enter 165 args) W:=Go.Proofs.enters_of Tryz.func165 z4xa rfl
theorem MC.Ms.vgl(h:C.Ms D X β w m):∀v∈m.gl,C8 m.arr.length v:=by
 obtain⟨ρ,s,x,fv,ab,lp,h⟩:=h;exact h.vv.2.1
theorem MC.Ms.var(h:C.Ms D X β w m):∀l∈m.arr,∀v∈l,C8 m.arr.length v:=by
 obtain⟨ρ,s,x,fv,ab,lp,h⟩:=h;exact h.vv.2.2
theorem Ys{n:Nat}{v:PV}(h:C8 n v)(hk:v.k=4):∃r,v.r=some r/\r<n:=by
 unfold C8 at h;cases hr:v.r with
 | none=>rw[hr]at h;exact absurd hk h
 | some r=>rw[hr]at h;exact⟨r,rfl,h.2⟩
theorem A1u{α:Type}(l:List α)(r:Nat)(h:r<l.length)(f:α->α):l.modify r f=l.set r (f l[r]):=by
 apply List.ext_getElem?;intro k;rw[List.getElem?_modify,List.getElem?_set];by_cases e:r=k
 ·subst e;rw[if_pos rfl,if_pos h,List.getElem?_eq_getElem h];simp
 ·rw[if_neg e];simp[e]
theorem Amv(h:C.Ms D X β w m)(i:Ac)(hf:Dx C.P i m)(ho:i.op=2):SA C D X w i (Ay C.P bets i m):=by
 have hn:m.vals.length+1<=100000:=by have:=hf.vals;omega
 have hg:=hf.nice.2.2.1 (.inl ho);have e:Ay C.P bets i m=m.push ((m.gl[i.arg.toNat]?).getD Ag):=by unfold Ay;rw[ho] <;> rfl
 rw[e,List.getElem?_eq_getElem hg,Option.getD_some];exact SA.of ho A6f Acv (A7n h i (k:=i.arg.toNat) (by have:=hf.ins.1;omega) hg hn (h.vgl _ (List.getElem_mem hg)))
theorem Ani(h:C.Ms D X β w m)(i:Ac)(hf:Dx C.P i m)(ho:i.op=4):SA C D X w i (Ay C.P bets i m):=by
 have hg:=hf.nice.2.2.1 (.inr ho);have e:Ay C.P bets i m={ m.pop with gl:=m.gl.set i.arg.toNat m.top }:=by unfold Ay;rw[ho] <;> rfl
 rw[e];exact SA.of ho A6p Acx (A8g h i (k:=i.arg.toNat) (by have:=hf.ins.1;omega) hg h.O9)
theorem Aeu(m:MS)(n:Nat)(hn:n<=m.vals.length):(List.range n).map (fun(j:Nat)=>m.at' ((m.vals.length:Int)-n+j))=m.vals.drop (m.vals.length-n):=by
 apply List.ext_getElem?;intro k;rw[List.getElem?_map,List.getElem?_drop];by_cases hk:k<n
 ·have hjl:m.vals.length-n+k<m.vals.length:=by omega
  rw[List.getElem?_range hk,List.getElem?_eq_getElem hjl];show some (m.at' _)=_;unfold MS.at';rw[if_neg z4va,show((m.vals.length:Int)-n+k).toNat=m.vals.length-n+k by omega,List.getElem?_eq_getElem hjl];rfl
 ·rw[List.getElem?_eq_none z4ya,List.getElem?_eq_none z4va];rfl
theorem Ane(h:C.Ms D X β w m)(i:Ac)(hf:Dx C.P i m)(ho:i.op=36):SA C D X w i (Ay C.P bets i m):=by
 have hv:=hf.nice.2.2.2 ho;have hi:i.arg=(i.arg.toNat:Nat):=by have:=hf.ins.1;omega
 have hl:=hf.vals;have hc:=hf.cells;generalize i.arg.toNat=n at *;have e:Ay C.P bets i m=m.room (n:Nat) i (fun m'=>MS.push (Cf m'.arr.length) { (MS.cut ((m'.vals.length:Int)-(n:Nat)) m') with arr:=m'.arr++[(List.range n).map (fun(j:Nat)=>m'.at' ((m'.vals.length:Int)-(n:Nat)+j))] }):=by
  unfold Ay;rw[ho,hi] <;> rfl
 rw[e];unfold MS.room;by_cases hz:(500:Int)-m.cells<(n:Nat)
 ·rw[if_pos hz];exact SA.of ho Ze A0k (A7k h i hi z4va hc)
 ·rw[if_neg hz];dsimp only;have e2:=Aeu { m with cells:=m.cells+n } n hv;rw[Int.toNat_natCast];rw[show(List.range n).map (fun(j:Nat)=>MS.at' { m with cells:=m.cells+n } ((m.vals.length:Int)-(n:Nat)+j))=m.vals.drop (m.vals.length-n) from e2];refine⟨_,by rw[ho];exact Ze,A0k,(A7l h i hi z4va z4va hv).mono ?_⟩;rintro e w' ⟨rfl,b,h1,h2⟩;exact⟨_,rfl,⟨D,fun _ q=>q,h1⟩,h2⟩
theorem Anf(h:C.Ms D X β w m)(i:Ac)(hf:Dx C.P i m)(ho:i.op=37):SA C D X w i (Ay C.P bets i m):=by
 have hn:=hf.vals;have e:Ay C.P bets i m=(match sizeOf' m m.top with|some n=>m.pop.push (ofInt (n:Nat))|none=>m.pop.fail 5 i):=by unfold Ay;rw[ho] <;> rfl
 rw[e];cases hq:sizeOf' m m.top with
 | some n=>exact SA.of ho Zf A0j (A7j h i h.O9 (n:=n) (by unfold G0;rw[show sizeOf' m.pop m.top=some n from hq];rfl) z4va)
 | none=>exact SA.of ho Zf A0j (A7i h i h.O9 (by unfold G0;rw[show sizeOf' m.pop m.top=none from hq];rfl))
theorem Ang(h:C.Ms D X β w m)(i:Ac)(hf:Dx C.P i m)(ho:i.op=38):SA C D X w i (Ay C.P bets i m):=by
 have hn:=hf.vals;have hc:=hf.cells;have e:Ay C.P bets i m=(if m.pop.top.k=4 then m.pop.pop.room 1 i (fun m2=>MS.push m.top { m2 with arr:=m2.arr.modify (m.pop.top.r.getD 0) (·++[m.top]) }) else m.pop.pop.fail 5 i):=by unfold Ay;rw[ho] <;> rfl
 rw[e];by_cases hk:m.pop.top.k=4
 ·rw[if_pos hk];obtain⟨r,hr,hra⟩:=Ys h.Pd hk;unfold MS.room;by_cases hz:(500:Int)-m.pop.pop.cells<1
  ·rw[if_pos hz];exact SA.of ho Vs Wq (A81 h i hk (by have:m.pop.pop.cells=m.cells:=rfl;omega) hc)
  ·rw[if_neg hz,hr];have hz':m.cells+1<=500:=by have:m.pop.pop.cells=m.cells:=rfl;omega
   have e2:(m.arr.modify r (·++[m.top]))=m.arr.set r (m.arr[r]++[m.top]):=A1u _ _ hra _;have:=SA.of ho Vs Wq (A82 h i hr hra hk hz' z4va (by have:=hf.ars _ (List.getElem_mem hra);omega) h.O9);rw[←e2]at this;exact this
 ·rw[if_neg hk];exact SA.of ho Vs Wq (A83 h i hk)
theorem A4b{m:MS}{v:PV}(h:sizeOf' m v=none):G0 m v=.tuple #[.int .i64 0,.bool false]:=by unfold G0;rw[h];rfl
theorem Rd{m:MS}{v:PV}{n:Nat}(h:sizeOf' m v=some n):G0 m v=.tuple #[.int .i64 (n:Nat),.bool true]:=by unfold G0;rw[h];rfl
theorem A3z{m:MS}{v:PV}{n r:Nat}(h:sizeOf' m v=some n)(hk:v.k=4)(hr:v.r=some r)(hra:r<m.arr.length):n=m.arr[r].length:=by
 unfold sizeOf' at h;rw[if_neg z4va,if_pos hk,hr]at h;injection h with h;rw[←h];show(((m.arr)[r]?).getD []).length=_;rw[List.getElem?_eq_getElem hra];rfl
theorem Anh(h:C.Ms D X β w m)(i:Ac)(hf:Dx C.P i m)(ho:i.op=39):SA C D X w i (Ay C.P bets i m):=by
 have hn:=hf.vals;have h3:=hf.nice.2.1 ho;have e:Ay C.P bets i m=m.pop.pop.place m.pop.top m.top i (fun m2=>m2.push (if m.pop.top.k=3 then ofStr ((m.pop.top.t.drop m.top.n.toNat).take 1) else(((m2.arr[m.pop.top.r.getD 0]?).getD [])[m.top.n.toNat]?).getD Ag)):=by unfold Ay;rw[ho] <;> rfl
 rw[e];unfold MS.place;cases hq:sizeOf' m.pop.pop m.pop.top with
 | none=>exact SA.of ho Rt S9 (Tq h i (fun W hs=>A1x hs _ _ i h.Pd (A4b hq)))
 | some n=>
  dsimp only;by_cases h2:m.top.k=2
  ·rw[if_neg (by simpa using h2)];by_cases hlo:m.top.n<0
   ·rw[if_pos (.inl hlo)];exact SA.of ho Rt S9 (Tq h i (fun W hs=>A1w hs _ _ i h.Pd (Rd hq) h2 hlo))
   ·by_cases hhi:(n:Int)<=m.top.n
    ·rw[if_pos (.inr hhi)];exact SA.of ho Rt S9 (Tq h i (fun W hs=>A1v hs _ _ i h.Pd (Rd hq) h2 hlo hhi))
    ·rw[if_neg z4va,if_neg h3];have h4:m.pop.top.k=4:=by
      unfold sizeOf' at hq;rw[if_neg h3]at hq;by_cases q:m.pop.top.k=4
      ·exact q
      ·rw[if_neg q]at hq;cases hq
     obtain⟨r,hr,hra⟩:=Ys h.Pd h4;have hnl:=A3z hq h4 hr hra;have hnl':n=m.arr[r].length:=hnl;have hki:m.top.n.toNat<m.arr[r].length:=by omega
     have:=SA.of ho Rt S9 (A7c h i hr hra h4 h2 (k:=m.top.n.toNat) z4va hki z4va (h.var _ (List.getElem_mem hra) _ (List.getElem_mem hki)));rw[hr];show SA C D X w i (m.pop.pop.push (((((m.arr)[r]?).getD [])[m.top.n.toNat]?).getD Ag));rw[List.getElem?_eq_getElem hra,Option.getD_some,List.getElem?_eq_getElem hki,Option.getD_some];exact this
  ·rw[if_pos h2];exact SA.of ho Rt S9 (Tq h i (fun W hs=>A1z hs _ _ i h.Pd (Rd hq) h2))
theorem MC.Ms.Te(h:C.Ms D X β w m):C8 m.arr.length m.pop.pop.top:=Yt (fun v hv=>h.vv v (List.dropLast_subset _ (List.dropLast_subset _ hv)))
theorem Anj(h:C.Ms D X β w m)(i:Ac)(ho:i.op=40):SA C D X w i (Ay C.P bets i m):=by
 have e:Ay C.P bets i m=(if m.pop.pop.top.k=4 then m.pop.pop.pop.place m.pop.pop.top m.pop.top i (fun m2=>{ m2 with arr:=m2.arr.modify (m.pop.pop.top.r.getD 0) (·.set m.pop.top.n.toNat m.top) }) else m.pop.pop.pop.fail 5 i):=by unfold Ay;rw[ho] <;> rfl
 rw[e];by_cases h4:m.pop.pop.top.k=4
 ·rw[if_pos h4];obtain⟨r,hr,hra⟩:=Ys h.Te h4;unfold MS.place;cases hq:sizeOf' m.pop.pop.pop m.pop.pop.top with
  | none=>exact SA.of ho Qg Qp (Tr h i h4 (fun X' W hs=>A1x hs _ _ i h.Te (A4b hq)))
  | some n=>
   dsimp only;by_cases h2:m.pop.top.k=2
   ·rw[if_neg (by simpa using h2)];by_cases hlo:m.pop.top.n<0
    ·rw[if_pos (.inl hlo)];exact SA.of ho Qg Qp (Tr h i h4 (fun X' W hs=>A1w hs _ _ i h.Te (Rd hq) h2 hlo))
    ·by_cases hhi:(n:Int)<=m.pop.top.n
     ·rw[if_pos (.inr hhi)];exact SA.of ho Qg Qp (Tr h i h4 (fun X' W hs=>A1v hs _ _ i h.Te (Rd hq) h2 hlo hhi))
     ·rw[if_neg z4va,hr];have hnl:n=m.arr[r].length:=A3z hq h4 hr hra;have hki:m.pop.top.n.toNat<m.arr[r].length:=by omega
      have e2:(m.arr.modify r (·.set m.pop.top.n.toNat m.top))=m.arr.set r (m.arr[r].set m.pop.top.n.toNat m.top):=A1u _ _ hra _;have:=SA.of ho Qg Qp (A8d h i hr hra h4 h2 (k:=m.pop.top.n.toNat) z4va hki h.O9);rw[←e2]at this;exact this
   ·rw[if_pos h2];exact SA.of ho Qg Qp (Tr h i h4 (fun X' W hs=>A1z hs _ _ i h.Te (Rd hq) h2))
 ·rw[if_neg h4];exact SA.of ho Qg Qp (A8e h i h4)
theorem Amg(h:C.Ms D X β w m)(i:Ac)(hf:Dx C.P i m)(ht:G3 w)(hD:D K0)(hb:Ib X w (.slice C.ba C.bn C.bc) bets)(hbl:bets.length<=1000)(hst:∀f∈C.P.fns,f.steps.length<=90000)(hN:C.P.fns.length<=1000000):SA C D X w i (Ay C.P bets i m):=by
 have hop:=hf.ins.2.2.2.2.2.2;have ho:i.op=0\/i.op=1\/i.op=2\/i.op=3\/i.op=4\/i.op=5\/i.op=6\/i.op=7\/i.op=8\/i.op=9\/i.op=10\/i.op=11\/i.op=12\/i.op=13\/i.op=14\/i.op=15\/i.op=16\/i.op=17\/i.op=18\/i.op=19\/i.op=20\/i.op=21\/i.op=22\/i.op=23\/i.op=24\/i.op=25\/i.op=26\/i.op=27\/i.op=28\/i.op=29\/i.op=30\/i.op=31\/i.op=32\/i.op=33\/i.op=34\/i.op=35\/i.op=36\/i.op=37\/i.op=38\/i.op=39\/i.op=40\/i.op=41\/i.op=42\/i.op=43\/i.op=44:=by unfold Kp at hop;omega
 rcases ho with ho|ho|ho|ho|ho|ho|ho|ho|ho|ho|ho|ho|ho|ho|ho|ho|ho|ho|ho|ho|ho|ho|ho|ho|ho|ho|ho|ho|ho|ho|ho|ho|ho|ho|ho|ho|ho|ho|ho|ho|ho|ho|ho|ho|ho
 ·exact Amj h i hf ho
 ·exact Amk h i hf ho
 ·exact Amv h i hf ho
 ·exact An6 h i hf ho
 ·exact Ani h i hf ho
 ·exact Ano h i hf ho
 ·exact Anp h i hf ho
 ·exact Anq h i hf ho
 ·exact Anr h i hf ho
 ·exact Ans h i hf ho
 ·exact Aml h i hf ho
 ·exact Amm h i hf ho
 ·exact Amn h i hf ho
 ·exact Amo h i hf ho
 ·exact Amp h i hf ho
 ·exact Amq h i hf ho
 ·exact Amr h i hf ho
 ·exact Ams h i hf ho
 ·exact Amt h i hf ho
 ·exact Amu h i hf ho
 ·exact Amw h i hf ho
 ·exact Amx h i hf ho
 ·exact Amy h i hf ho
 ·exact Amz h i hf ho
 ·exact An0 h i hf ho
 ·exact An1 h i hf ho
 ·exact An2 h i hf ho
 ·exact An3 h i hf ho
 ·exact An4 h i hf ho
 ·exact An5 h i hf ho
 ·exact An7 h i hf ho
 ·exact An8 h i hf ho
 ·exact An9 h i hf ho
 ·exact Ana h i hf ho
 ·exact Anb h i hf ho
 ·exact Anc h i hf ho
 ·exact Ane h i hf ho
 ·exact Anf h i hf ho
 ·exact Ang h i hf ho
 ·exact Anh h i hf ho
 ·exact Anj h i ho
 ·exact Ank h i hf ht hD ho
 ·exact Anl h i hf hb hbl hst hN ho
 ·exact Anm h i hf ho
 ·exact Ann h i hf ho
end
section
set_option maxRecDepth 100000
open Go.RowKit
open Go.Deep (BT)
variable {C:MC} {D X:Nat->Prop} {w w':World} {m:MS} {β:Nat->Nat} {bets:List Cx}
theorem MC.Ms.Aq1(h:C.Ms D X β w m):∃x,Jk D w x m.now/\w.cell? ⟨C.mb,6,none⟩=some (.slice x.a x.n x.c)/\w.cell? ⟨C.mb,7,none⟩=some (.int .i64 (x.pc:Nat))/\w.cell? ⟨C.mb,12,none⟩=some (.int .i64 (m.code:Nat))/\(∀o,w.frozen? ⟨C.mb,o,none⟩=false)/\(∀g,D g->g<w.heap.size/\C.mb≠g):=by
 obtain⟨ρ,s,x,fv,ab,lp,h⟩:=h;exact⟨x,h.now,A2 h.cell 6 _ rfl,A2 h.cell 7 _ rfl,A2 h.cell 12 _ rfl,Bd h.cell,fun g hg=>⟨(h.prot g (.inl hg)).1,fun e=>h.lo.2 (by rw[e];exact .inl hg)⟩⟩
theorem Agz{w:World}{b:Nat}{T:TypeId}{sz:Nat}{v:Value}{n:Nat}{xs:List Value}(h:w.ownsRow b T sz v n xs):n<=9223372036854775807:=by
 rcases h.2 with⟨_,h0⟩|⟨g,cap,cur,_,_,_,h1,h2,_⟩
 ·omega
 ·unfold maxLen at h2;omega
theorem Dx.pc{P:D7}{i:Ac}(h:Dx P i m)(p:Nat):Dx P i { m with now:=⟨m.now.steps,p,m.now.base⟩ }:=⟨h.nice,h.ars,h.cells,h.ins,h.vals,h.base,h.fuel,h.depth,h.out,h.str,h.lotn,h.lots,h.lotc,h.fns⟩
theorem Amh{P:Program}{ops:Array Oper}{o:Oper}{a:Act}{w:World}{K:Act->World->Prop}{Q:Exit->Act->World->Prop}{E:Prop}(hg:o.guard=none)(f:FuncId)(args:Array Value)
  (hrun:(execOp a.eval o).run P w=.ok (.enter f args) w) {R:Ending->World->Prop} (hC:Calls P f args w R)
  (h:∀e w',R e w'->∃u,e=.returned u/\K (a.put o.dst u) w'):if Region.wanted o (yielded ops a.tmps)=true then Oper.wp P o a w K Q else E:=by
 exact z2aa
theorem Aqh(h:C.Ms D X β w m){n:Nat}{m':MS}(hr:Iy C.P bets n m=some m')(hok:P3 C.P bets n m)(ht:G3 w)(hD:D K0)(hb:Ib X w (.slice C.ba C.bn C.bc) bets)(hbl:bets.length<=1000)(hst:∀f∈C.P.fns,f.steps.length<=90000)(hN:C.P.fns.length<=1000000) :
  Calls Tryz.prog 58 #[.pointer (some ⟨C.mb,0,none⟩)] w (MR C D X w m'):=by
 have HS:=A0 h;have HR:=A0 hr;have HO:=A0 hok;have HT:=A0 ht;have HB:=A0 hb;clear h hr hok ht hb;go_enter Tryz.func58,Tryz.ntmps58;go_wp2;go_loopg [] n (fun k wr=>∃(D2:Nat->Prop) (β:Nat->Nat) (m2:MS),(∀g,D g->D2 g)/\C.Ms D2 X β wr m2/\A3 (dx D X) w wr/\Iy C.P bets k m2=some m'/\P3 C.P bets k m2)
 case atStart=>exact⟨D,β,m,fun _ h=>h,HS.o,A3.refl _ _,HR.o,HO.o⟩
 case round=>
  obtain⟨D2,β,m2,hDD,B0,A8,B5,hok2⟩:=hrel;obtain⟨x,hx,g6,g7,g12,gz,hlo⟩:=B0.Aq1;have lb:=B0.Au;have Ai:=A0 B0;have Aa:=A0 A8;have hxn:x.n=m2.now.steps.length:=(C9 hx.row.1).1;have hxp:=hx.pc;cases gk with
  | zero=>rw[Iy]at B5;cases B5
  | succ k=>
   rw[Iy]at B5;by_cases hc:m2.code=0
   ·rw[if_neg (by rw[hc];simp)]at B5;have tc:((m2.code:Int)==0)=true:=by rw[hc];rfl
    cases hi:m2.now.steps[m2.now.pc]? with
    | none=>
     rw[hi]at B5;injection B5 with B5;have hle:m2.now.steps.length<=m2.now.pc:=by
      rcases Nat.lt_or_ge m2.now.pc m2.now.steps.length with q|q
      ·rw[List.getElem?_eq_getElem q]at hi;cases hi
      ·exact q
     have tl:¬((x.pc:Nat):Int)<((x.n:Nat):Int):=by omega
     have HE:=A0 B5;clear B0 A8 hok2 B5 hx;go_wp2;go_region
     all_goals go_wp2
     all_goals go_end0
     all_goals rw[←HE.o]
     all_goals exact⟨β,rfl,⟨D2,hDD,Ai.o.Hs⟩,Aa.o.trans (Dw _ _ 1)⟩
    | some i=>
     rw[hi]at B5;obtain⟨hfit,hok3⟩:=hok2 hc i hi;obtain⟨hlt,hie⟩:=List.getElem?_eq_some_iff.1 hi;have tl:((m2.now.pc:Nat):Int)<((x.n:Nat):Int):=by omega
     have hmx:=Agz hx.row.1;obtain⟨g,k1,_,hcap,lg,hcell⟩:=Fo hx.row.1 z4va;have hgD:=hx.row.2 g (by rw[k1];rfl);have hng:=(hlo g hgD).2;rw[k1]at g6;rw[hxp]at g7;clear hxp;have d0:=hcell (m2.now.pc*8+0) _ ((D1 (f:=Es) (sz:=8) (fun _=>rfl) m2.now.steps m2.now.pc 0 hlt z4va).trans rfl);have d1:=hcell (m2.now.pc*8+1) _ ((D1 (f:=Es) (sz:=8) (fun _=>rfl) m2.now.steps m2.now.pc 1 hlt z4va).trans rfl);have d2:=hcell (m2.now.pc*8+2) _ ((D1 (f:=Es) (sz:=8) (fun _=>rfl) m2.now.steps m2.now.pc 2 hlt z4va).trans rfl);have d3:=hcell (m2.now.pc*8+3) _ ((D1 (f:=Es) (sz:=8) (fun _=>rfl) m2.now.steps m2.now.pc 3 hlt z4va).trans rfl);have d4:=hcell (m2.now.pc*8+4) _ ((D1 (f:=Es) (sz:=8) (fun _=>rfl) m2.now.steps m2.now.pc 4 hlt z4va).trans rfl);have d5:=hcell (m2.now.pc*8+5) _ ((D1 (f:=Es) (sz:=8) (fun _=>rfl) m2.now.steps m2.now.pc 5 hlt z4va).trans rfl);have d6:=hcell (m2.now.pc*8+6) _ ((D1 (f:=Es) (sz:=8) (fun _=>rfl) m2.now.steps m2.now.pc 6 hlt z4va).trans rfl);have d7:=hcell (m2.now.pc*8+7) _ ((D1 (f:=Es) (sz:=8) (fun _=>rfl) m2.now.steps m2.now.pc 7 hlt z4va).trans rfl);replace d0:wr.cell? ⟨g,m2.now.pc*8,none⟩=some (.int .i64 (m2.now.steps[m2.now.pc].op:Nat)):=d0;rw[hie]at d0 d1 d2 d3 d4 d5 d6;obtain⟨s1,s2⟩:=B0.T2 ((m2.now.pc:Int)+1) z4va;have hbA:Below (wr.setCell ⟨C.mb,7,none⟩ (.int .i64 ((m2.now.pc:Int)+1))).heap.size (wr.setCell ⟨C.mb,7,none⟩ (.int .i64 ((m2.now.pc:Int)+1))) ((wr.setCell ⟨C.mb,7,none⟩ (.int .i64 ((m2.now.pc:Int)+1))).alloc (.cells #[.int .i64 (i.op:Nat),.int .i64 i.arg,.int .i64 (i.line:Nat),.int .i64 (i.v.k:Nat),.bool i.v.y,.int .i64 i.v.n,.string ⟨i.v.t.toArray⟩,.pointer none] 251)):=Jw _ _;have hiA:=heap_alloc_new (wr.setCell ⟨C.mb,7,none⟩ (.int .i64 ((m2.now.pc:Int)+1))) (.cells #[.int .i64 (i.op:Nat),.int .i64 i.arg,.int .i64 (i.line:Nat),.int .i64 (i.v.k:Nat),.bool i.v.y,.int .i64 i.v.n,.string ⟨i.v.t.toArray⟩,.pointer none] 251);rw[show(wr.setCell ⟨C.mb,7,none⟩ (.int .i64 ((m2.now.pc:Int)+1))).heap.size=wr.heap.size by simp]at hiA;obtain⟨s3,s4⟩:=s1.below hbA;have hj:m2.jump ((m2.now.pc:Int)+1)={ m2 with now:=⟨m2.now.steps,m2.now.pc+1,m2.now.base⟩ }:=by unfold MS.jump;rw[show((m2.now.pc:Int)+1).toNat=m2.now.pc+1 by omega]
     rw[hj]at s3;obtain⟨w0,Cz⟩:∃w0,w0=((wr.setCell ⟨C.mb,7,none⟩ (.int .i64 ((m2.now.pc:Int)+1))).alloc (.cells #[.int .i64 (i.op:Nat),.int .i64 i.arg,.int .i64 (i.line:Nat),.int .i64 (i.v.k:Nat),.bool i.v.y,.int .i64 i.v.n,.string ⟨i.v.t.toArray⟩,.pointer none] 251)).drew.drew:=⟨_,rfl⟩;have hi0:w0.heap[wr.heap.size]?=some (.cells #[.int .i64 (i.op:Nat),.int .i64 i.arg,.int .i64 (i.line:Nat),.int .i64 (i.v.k:Nat),.bool i.v.y,.int .i64 i.v.n,.string ⟨i.v.t.toArray⟩,.pointer none] 251 (0,0)):=by rw[Cz];exact hiA
     have s5:C.Ms D2 X β w0 { m2 with now:=⟨m2.now.steps,m2.now.pc+1,m2.now.base⟩ }:=by rw[Cz];exact s3.Hs.Hs
     have hBel0:A3 (dx D X) w w0:=by rw[Cz];exact A8.trans (((s2.trans s4).trans (Dw _ _ 2)).weak (fun g hg=>hg.imp (fun q=>hDD g q) id))
     have hBel:A3 (dx D X) w w0.drew:=hBel0.trans (Dw _ _ 1);obtain⟨k9,hka,hke,hkc⟩:=Amg (bets:=bets) s5.Hs i (hfit.pc _) (HT.o.Bq hD hBel) (hDD _ hD) (HB.o.keep (K':=X) (fun g hg _=>⟨hBel.block g (.inr hg),hg⟩) hBel.size) hbl hst hN;have HKA:=A0 hka;have HKE:=A0 hke;have HKC:=A0 hkc;have HBel:=A0 hBel;have C3:=A0 B5;have Ck:=A0 hok3;have Am:=A0 Cz;have Aq:=A0 hi0;have Bz:=s5.Au;unfold Ab at HKC;clear B0 A8 hok2 B5 hx hok3 s1 s2 s3 s4 s5 hj hbA hBel hBel0 hka hke hkc hcell hie hi hfit hiA hi0 Cz;go_wp2_with fail
     go_region
     all_goals go_wp2_with fail
     go_region
     all_goals go_wp2_with fail
     rw[←Am.o];have q0:=A2 Aq.o 0 _ rfl;have q1:=A2 Aq.o 1 _ rfl;have q2:=A2 Aq.o 2 _ rfl;have q3:=A2 Aq.o 3 _ rfl;have q4:=A2 Aq.o 4 _ rfl;have q5:=A2 Aq.o 5 _ rfl;have q6:=A2 Aq.o 6 _ rfl;have q7:=A2 Aq.o 7 _ rfl;have lq:=A5 Aq.o;clear d0 d1 d2 d3 d4 d5 d6 d7 g6 g7 g12 gz Aq Am;go_region_law (first
      | (refine Eo rfl 100 _ _ rfl #[.int .i64 (i.op:Nat)] z4xa (HKA.o _) ?_;rintro e w9 ⟨rfl,Dq⟩;subst Dq;refine⟨_,rfl,?_⟩)
      | (refine Amh rfl k9 #[.pointer (some ⟨C.mb,0,none⟩),.agg #[.int .i64 (i.op:Nat),.int .i64 i.arg,.int .i64 (i.line:Nat),.int .i64 (i.v.k:Nat),.bool i.v.y,.int .i64 i.v.n,.string ⟨i.v.t.toArray⟩,.pointer none]] (Eq.trans (b:=(callFunc k9 #[.pointer (some ⟨C.mb,0,none⟩),.agg #[.int .i64 (i.op:Nat),.int .i64 i.arg,.int .i64 (i.line:Nat),.int .i64 (i.v.k:Nat),.bool i.v.y,.int .i64 i.v.n,.string ⟨i.v.t.toArray⟩,.pointer none]]).run Tryz.prog w0.drew) z4xa (HKE.o _ _)) HKC.o ?_;rintro e w3 ⟨β3,rfl,⟨D3,hD3,h3⟩,k3⟩;refine⟨_,rfl,?_⟩;have HD3:Hid (∀g,D g->D3 g):=fun g hg=>hD3 g (hDD g hg);have Bc:=A0 h3;have Av:Hid (A3 (dx D X) w w3):=HBel.o.trans (k3.weak (fun g hg=>hg.imp (fun q=>hDD g q) id));have lb3:=h3.Au;clear h3 k3 hD3))
     all_goals
      go_wp2;go_roundg k
      case measure=>omega
      case rel=>exact⟨D3,_,_,HD3.o,Bc.o,Av.o,C3.o,Ck.o⟩
   ·rw[if_pos hc]at B5;injection B5 with B5;have tc:((m2.code:Int)==0)=false:=by rw[beq_eq_false_iff_ne];omega
    have HE:=A0 B5;clear B0 A8 hok2 B5 hx;go_wp2;go_region
    all_goals go_wp2
    all_goals go_end0
    all_goals rw[←HE.o]
    all_goals exact⟨β,rfl,⟨D2,hDD,Ai.o.Hs⟩,Aa.o.trans (Dw _ _ 1)⟩
end
section
open Go.RowKit
open Go.Deep (BT)
def Pw(lb n gb k:Nat):Oe:=⟨some ⟨lb,0,none⟩,n,n,some ⟨gb,0,none⟩,k,k,none,0,0,none,0,0,none,0,0⟩
def Oz(P:D7):MS:=⟨[],K6 P.globals,[],⟨[],0,0⟩,2000,0,[],0,0,[],List.replicate P.fns.length ⟨0,none,0,0⟩⟩
theorem A22{C:MC}{E D:Nat->Prop}{w W:World}{lb gb:Nat}(hP:K3 E w C.pb C.P)(hE:∀g,E g->D g)(hDl:∀g,D g->g<w.heap.size)
  (hm:W.heap[C.mb]?=some (.cells (C.cells (Pw lb C.P.fns.length gb C.P.globals) O1 2000 0 0 0) 167 (0,0)))
  (hl:W.heap[lb]?=some (.cells (madeCells #[.int .i64 0,.pointer none,.int .i64 0,.int .i64 0] (C.P.fns.length*4)) 172 (0,0)))
  (hg:W.heap[gb]?=some (.cells (madeCells #[.int .i64 0,.bool false,.int .i64 0,.string ⟨#[]⟩,.pointer none] (C.P.globals*5)) 225 (0,0)))
  (hk:∀g,g<w.heap.size->W.heap[g]?=w.heap[g]?) (hs:w.heap.size<=W.heap.size) (h1:w.heap.size<=C.mb) (h2:w.heap.size<=lb) (h3:w.heap.size<=gb) (h12:C.mb≠lb) (h13:C.mb≠gb) (h23:lb≠gb) (hn:C.P.fns.length<=1000000) (hgn:C.P.globals<=1000000) (β:Nat->Nat) :
  C.Ms D (fun g=>g<w.heap.size) β W (Oz C.P):=by
 have hkD:∀g,E g->g<w.heap.size->W.heap[g]?=w.heap[g]?/\D g:=fun g hg' hlt=>⟨hk g hlt,hE g hg'⟩;have hlots:=A1q (f:=Ip) (sz:=4) (fun _=>rfl) z4va _ ((none,⟨0,none,0,0⟩):Option Addr×Dv) rfl C.P.fns.length hn hl;have hgls:=A1q (f:=C7 β) (sz:=5) (fun _=>rfl) z4va _ Ag rfl C.P.globals hgn hg;refine⟨fun g=>if g=C.mb then 1 else if g=lb then 2 else if g=gb then 3 else if g<w.heap.size then 0 else 6,Pw lb C.P.fns.length gb C.P.globals,O1,[],[],List.replicate C.P.fns.length (none,⟨0,none,0,0⟩),hm,hP.keep hkD,?_,?_,?_,?_,?_,?_,⟨rfl,.inl ⟨rfl,rfl⟩⟩,?_,⟨rfl,.inl ⟨rfl,rfl⟩⟩,?_,trivial,⟨⟨⟨rfl,.inl ⟨rfl,rfl⟩⟩,fun g hg'=>by simp[O1,Value.ownBlock]at hg'⟩,rfl,rfl⟩,⟨rfl,.inl ⟨rfl,rfl⟩⟩,?_,⟨rfl,fun i h=>by simp at h⟩,?_,⟨?_,?_⟩,⟨by simp[Oz],by simp[Oz],by simp[Oz]⟩,⟨by simp[Oz],?_,by simp[Oz]⟩⟩
 ·rw[List.length_replicate];exact hlots
 ·intro g hg';simp only[Pw,Value.ownBlock,Option.some.injEq]at hg';subst hg';rw[if_neg (fun e=>h12 e.symm),if_pos rfl]
 ·simp[Oz]
 ·intro q hq;rw[List.mem_replicate]at hq;rw[hq.2];rfl
 ·have:(K6 C.P.globals).length=C.P.globals:=by simp[K6]
  show W.ownsRow 0 _ 5 _ (K6 C.P.globals).length (Bw (C7 β) (K6 C.P.globals));rw[this];exact hgls
 ·intro g hg';simp only[Pw,Value.ownBlock,Option.some.injEq]at hg';subst hg';rw[if_neg (fun e=>h13 e.symm),if_neg (fun e=>h23 e.symm),if_pos rfl]
 ·intro g hg';simp[Pw,Value.ownBlock]at hg'
 ·intro g hg';simp[Pw,Value.ownBlock]at hg'
 ·intro g hg';simp[Pw,Value.ownBlock]at hg'
 ·intro g hg';have hlt:g<w.heap.size:=by
   rcases hg' with q|q
   ·exact hDl g q
   ·exact q
  refine⟨by omega,?_⟩;rw[if_neg z4va,if_neg z4va,if_neg z4va,if_pos hlt]
 ·rw[if_pos rfl]
 ·intro g hg';by_cases e:g=C.mb
  ·exact e
  ·rw[if_neg e]at hg';split at hg'
   ·cases hg'
   ·split at hg'
    ·cases hg'
    ·split at hg' <;> cases hg'
 ·intro v hv;simp only[Oz,K6,List.mem_replicate]at hv;rw[hv.2];exact Yu _
end
end Go.Proofs.YtjdlndhfaaolaaaGreatDoor
