import Derived.Test.YtjdlndhfaaolaaaGreatDoorX08
import Derived.Test.YtjdlndhfaaolaaaGreatDoorX40
import Derived.Test.YtjdlndhfaaolaaaGreatDoorX42
import Derived.Test.YtjdlndhfaaolaaaGreatDoorX45
import Derived.Test.YtjdlndhfaaolaaaGreatDoorX46
import Derived.Test.YtjdlndhfaaolaaaGreatDoorX47
set_option maxHeartbeats 20000000
namespace Go.Proofs.YtjdlndhfaaolaaaGreatDoor
section
set_option maxRecDepth 100000
open Go.RowKit
open Go.Deep (BT)
variable {C:MC} {D X:Nat->Prop} {w w':World} {m:MS} {β:Nat->Nat}
def Jt:Nat:=4
theorem Ze:Tryz.prog.globalNamed "internal/strconv.uint64pow10"=some Jt:=by kernel_rfl
theorem G9.of{w w':World}(h:G9 w)(hb:w'.heap[Jt]?=w.heap[Jt]?):G9 w':=by
 unfold G9 Lib.TabIs World.var? at *;rw[Ze]at h ⊢;simp only[Option.bind_some]at h ⊢;rw[hb];exact h
theorem G9.Bf{w w':World}(h:G9 w)(hD:D Jt)(hb:A2 (dx D X) w w'):G9 w':=h.of (hb.block _ (.inl hD))
theorem MC.Ms.Ql(h:C.Ms D X β w m):∃oa oc,w.cell? ⟨C.mb,11,none⟩=some (.slice oa m.out.length oc)/\(∀o,w.frozen? ⟨C.mb,o,none⟩=false):=by
 obtain⟨ρ,s,x,fv,ab,lp,h⟩:=h;have hv:s.on=m.out.length:=(Cf h.out).1;have:=A7 h.cell 11 (.slice s.oa s.on s.oc) rfl;rw[hv]at this;exact⟨_,_,this,Ci h.cell⟩
def Su(m:MS):Prop:=Ef m.top/\(∀l∈m.arr,∀v∈l,Ef v)/\∀l∈m.arr,l.length<=1000
theorem z3ba {P:Prop} (h:P:=by
  (try unfold Bs at h);cases hr:v.r with
  | none=>rw[hr]at h;exact absurd hk h
  | some r=>rw[hr]at h;exact⟨r,rfl,h.2⟩):P:=h
theorem A4t{n:Nat}{v:PV}(h:Bs n v):O3 n v:=by
 intro hk;exact z3ba
theorem MC.Ms.refs(h:C.Ms D X β w m):O3 m.arr.length m.top/\∀l∈m.arr,∀v∈l,O3 m.arr.length v:=by
 obtain⟨ρ,s,x,fv,ab,lp,h⟩:=h;refine⟨?_,fun l hl v hv=>A4t (h.vv.2.2 l hl v hv)⟩;unfold MS.top;rw[List.getLastD_eq_getLast?];cases hq:m.vals.getLast? with
 | none=>intro q;cases q
 | some v=>exact A4t (h.vv.1 v (List.mem_of_getLast? hq))
theorem MC.Ms.Vq(h:C.Ms D X β w m):Nz w.heap.size β w m.arr:=by
 obtain⟨ρ,s,x,fv,ab,lp,hv⟩:=h;intro i hi;have hl:=hv.arr.len;obtain⟨h1,h2,_⟩:=hv.arr.at' i z4sa hi;have hn:(ab[i]'z4sa).2.1=m.arr[i].length:=(Cf h2).1;unfold Kx at h1 h2;rw[hn]at h1 h2;refine⟨_,_,h1,A6 h1,fun q=>?_⟩;obtain⟨g,e,_,_,lg,hc⟩:=Hg h2 z4sa;exact⟨g,e,lg,hc⟩
theorem z0qa {P:Prop} (h:P:=by
  have Bc:=A0 (fun(W:World) (hb:Below w2.heap.size w2 W)=>And.intro ((fun hs=>I6 hs 10 i) (Ah.o.below hb).1) (Aa.o.trans (Ac (Ah.o.below hb).2)));unfold Ag at Bc;go_wp2_with fail
  refine((Bc.o _ z4ua).1).mono ?_;rintro e w3 ⟨rfl,h3,k3⟩;have Be:=A0 h3.back;have Ay:Hid (A2 (dx D X) w w3):=(Bc.o _ z4ua).2.trans (Ac k3);clear h3 k3;go_wp2;refine bodyPost_ret (v:=.tuple #[]) (by simp[results,Tryz.results158,go_sem]) rfl ?_;exact⟨rfl,Be.o,Ay.o⟩):P:=h
theorem A89(h:C.Ms D X β w m)(i:Af)(hf:Su m)(ht:G9 w)(hD:D Jt)(hz:500<(Dr m.arr 4 [] m.top).length):Calls Tryz.prog 158 #[.pointer (some ⟨C.mb,0,none⟩),Ag i] w (MP C D X β w (m.pop.fail 10 i) (.tuple #[])):=by
 have HRf:=A0 h.refs;obtain⟨w0,Ap,Aq,Ae,Ao,As,n0,n1,n2,n3,n4,n5,n6,n7,ln,lb,C9⟩:=h.Ca i;clear h;have HTp:=A0 Aq.o.pop;have HT0:=A0 ht;have hq:N3 (Dr m.arr 4 [] m.top)=.tuple #[.string ⟨#[]⟩,.bool false]:=by unfold N3;rw[if_pos hz]
 unfold B3 at HTp;clear ht;generalize hl:Dr m.arr 4 [] m.top=l at *;unfold Ag;go_enter Tryz.func158,Tryz.ntmps158;go_wp2_with fail
 rw[←Ap.o];refine HTp.o.mono ?_;rintro e w1 ⟨rfl,h1,k1⟩;have Bk:=h1.At;have A8:=A0 h1;have A4:Hid (A2 (dx D X) w w1):=Ae.o.trans (Ac k1);have Ad:=(k1.block _ Ao.o).trans As.o;have C1:=A0 Ad;clear n0 n1 n2 n3 n4 n5 n6 n7 ln;obtain⟨n0,n1,n2,n3,n4,n5,n6,n7,ln⟩:=Bj Ad;clear h1 k1 Ad;have HL:=A0 (Xv (arr:=m.arr) m.top hf.1 HRf.o.1 (fun l hl v hv=>⟨hf.2.1 l hl v hv,HRf.o.2 l hl v hv⟩) hf.2.2 w1 A8.o.Vq (HT0.o.Bf hD A4.o));rw[hl,hq]at HL;have HF:=A0 hf;clear hf hq hl HT0 HRf;obtain⟨oa,oc,o11,oz⟩:=A8.o.Ql;go_wp2_with fail
 refine HL.o.mono ?_;rintro e w2 ⟨rfl,A9⟩;have Az:=A8.o.below A9;have Bl:=(A9.block _ (A6 C1.o)).trans C1.o;have Ah:=A0 Az.1;have Aa:Hid (A2 (dx D X) w w2):=A4.o.trans (Ac Az.2);have I8:=A0 Bl;clear n0 n1 n2 n3 n4 n5 n6 n7 ln o11 oz;obtain⟨n0,n1,n2,n3,n4,n5,n6,n7,ln⟩:=Bj Bl;have Eb:=Ah.o.At;obtain⟨oa2,oc2,o11,oz⟩:=Ah.o.Ql;clear A9 Az Bl HL;exact z0qa
theorem A8a(h:C.Ms D X β w m)(i:Af)(hf:Su m)(ht:G9 w)(hD:D Jt)(hz:(Dr m.arr 4 [] m.top).length<=500)(ho:m.out.length=100):Calls Tryz.prog 158 #[.pointer (some ⟨C.mb,0,none⟩),Ag i] w (MP C D X β w (m.pop.fail 10 i) (.tuple #[])):=by
 have HRf:=A0 h.refs;obtain⟨w0,Ap,Aq,Ae,Ao,As,n0,n1,n2,n3,n4,n5,n6,n7,ln,lb,C9⟩:=h.Ca i;clear h;have HTp:=A0 Aq.o.pop;have HT0:=A0 ht;have hq:N3 (Dr m.arr 4 [] m.top)=.tuple #[.string ⟨(Dr m.arr 4 [] m.top).toArray⟩,.bool true]:=by unfold N3;rw[if_neg z4sa]
 unfold B3 at HTp;clear ht;generalize hl:Dr m.arr 4 [] m.top=l at *;unfold Ag;go_enter Tryz.func158,Tryz.ntmps158;go_wp2_with fail
 rw[←Ap.o];refine HTp.o.mono ?_;rintro e w1 ⟨rfl,h1,k1⟩;have Bk:=h1.At;have A8:=A0 h1;have A4:Hid (A2 (dx D X) w w1):=Ae.o.trans (Ac k1);have Ad:=(k1.block _ Ao.o).trans As.o;have C1:=A0 Ad;clear n0 n1 n2 n3 n4 n5 n6 n7 ln;obtain⟨n0,n1,n2,n3,n4,n5,n6,n7,ln⟩:=Bj Ad;clear h1 k1 Ad;have HL:=A0 (Xv (arr:=m.arr) m.top hf.1 HRf.o.1 (fun l hl v hv=>⟨hf.2.1 l hl v hv,HRf.o.2 l hl v hv⟩) hf.2.2 w1 A8.o.Vq (HT0.o.Bf hD A4.o));rw[hl,hq]at HL;have HF:=A0 hf;clear hf hq hl HT0 HRf;obtain⟨oa,oc,o11,oz⟩:=A8.o.Ql;go_wp2_with fail
 refine HL.o.mono ?_;rintro e w2 ⟨rfl,A9⟩;have Az:=A8.o.below A9;have Bl:=(A9.block _ (A6 C1.o)).trans C1.o;have Ah:=A0 Az.1;have Aa:Hid (A2 (dx D X) w w2):=A4.o.trans (Ac Az.2);have I8:=A0 Bl;clear n0 n1 n2 n3 n4 n5 n6 n7 ln o11 oz;obtain⟨n0,n1,n2,n3,n4,n5,n6,n7,ln⟩:=Bj Bl;have Eb:=Ah.o.At;obtain⟨oa2,oc2,o11,oz⟩:=Ah.o.Ql;clear A9 Az Bl HL;have t0:(((m.pop.out.length:Nat):Int)==100)=true:=by show(((m.out.length:Nat):Int)==100)=true;rw[ho];rfl
 exact z0qa
theorem A8b(h:C.Ms D X β w m)(i:Af)(hf:Su m)(ht:G9 w)(hD:D Jt)(hz:(Dr m.arr 4 [] m.top).length<=500)(ho:m.out.length<100):Calls Tryz.prog 158 #[.pointer (some ⟨C.mb,0,none⟩),Ag i] w (MP C D X β w ({ m.pop with out:=m.out++[Dr m.arr 4 [] m.top] }) (.tuple #[])):=by
 have HRf:=A0 h.refs;obtain⟨w0,Ap,Aq,Ae,Ao,As,n0,n1,n2,n3,n4,n5,n6,n7,ln,lb,C9⟩:=h.Ca i;clear h;have HTp:=A0 Aq.o.pop;have HT0:=A0 ht;have hq:N3 (Dr m.arr 4 [] m.top)=.tuple #[.string ⟨(Dr m.arr 4 [] m.top).toArray⟩,.bool true]:=by unfold N3;rw[if_neg z4sa]
 unfold B3 at HTp;clear ht;generalize hl:Dr m.arr 4 [] m.top=l at *;unfold Ag;go_enter Tryz.func158,Tryz.ntmps158;go_wp2_with fail
 rw[←Ap.o];refine HTp.o.mono ?_;rintro e w1 ⟨rfl,h1,k1⟩;have Bk:=h1.At;have A8:=A0 h1;have A4:Hid (A2 (dx D X) w w1):=Ae.o.trans (Ac k1);have Ad:=(k1.block _ Ao.o).trans As.o;have C1:=A0 Ad;clear n0 n1 n2 n3 n4 n5 n6 n7 ln;obtain⟨n0,n1,n2,n3,n4,n5,n6,n7,ln⟩:=Bj Ad;clear h1 k1 Ad;have HL:=A0 (Xv (arr:=m.arr) m.top hf.1 HRf.o.1 (fun l hl v hv=>⟨hf.2.1 l hl v hv,HRf.o.2 l hl v hv⟩) hf.2.2 w1 A8.o.Vq (HT0.o.Bf hD A4.o));rw[hl,hq]at HL;have HF:=A0 hf;clear hf hq hl HT0 HRf;obtain⟨oa,oc,o11,oz⟩:=A8.o.Ql;go_wp2_with fail
 refine HL.o.mono ?_;rintro e w2 ⟨rfl,A9⟩;have Az:=A8.o.below A9;have Bl:=(A9.block _ (A6 C1.o)).trans C1.o;have Ah:=A0 Az.1;have Aa:Hid (A2 (dx D X) w w2):=A4.o.trans (Ac Az.2);have I8:=A0 Bl;clear n0 n1 n2 n3 n4 n5 n6 n7 ln o11 oz;obtain⟨n0,n1,n2,n3,n4,n5,n6,n7,ln⟩:=Bj Bl;have Eb:=Ah.o.At;obtain⟨oa2,oc2,o11,oz⟩:=Ah.o.Ql;clear A9 Az Bl HL;have t0:(((m.pop.out.length:Nat):Int)==100)=false:=by show(((m.out.length:Nat):Int)==100)=false;rw[beq_eq_false_iff_ne];omega
 clear oa2 oc2 o11 oz;obtain⟨ρ,s,x,fv,ab,lp,hv⟩:=Ah.o;have hvn:s.on=m.pop.out.length:=(Cf hv.out).1;have o11:=A7 hv.cell 11 (.slice s.oa s.on s.oc) rfl;have hown:=hv.out;rw[hvn]at o11 hown;have HV:=A0 hv;have HNe:Hid (∀g,(Value.slice s.oa m.pop.out.length s.oc).ownBlock=some g->g≠C.mb):=fun g hg e=>by
  have:=hv.outo g (by rw[hvn];exact hg);rw[e,hv.one.1]at this;cases this
 have HVn:=A0 hvn;have hlen:m.pop.out.length<=1000000:=by show m.out.length<=1000000;omega
 clear hv hvn;go_wp2_with (at_builtin;refine Ju w2 #[.string ⟨l.toArray⟩] 9 rfl (.tmp 31) (.tmp 33) 37 rfl 0 1 16 (.string ⟨#[]⟩) Tryz.underlying37 Xq rfl z4sa _ _ _ rfl rfl hown rfl z61a hlen z4sa (Nat.zero_le _) ?_;intro g cap w3 Es hgrow hat hg;have Ar:=(hgrow.block C.mb Eb (fun e=>HNe.o _ e.symm rfl)).trans HV.o.cell;have c11:=A7 Ar 11 (.slice s.oa s.on s.oc) rfl;have fz:=Ci Ar;have lb3:=A6 Ar;have Ay:=A0 Ar;have HO:=A0 Es;have HG:=A0 hgrow;have HA:=A0 hat;clear hown Es hgrow hat Ar o11)
 go_wp2;go_end0;have hgb:g≠C.mb:=by
  rcases HA.o with e|e
  ·exact HNe.o g e
  ·omega
 have hset:∀k,k≠C.mb->(w3.setCell ⟨C.mb,11,none⟩ (.slice (some ⟨g,0,none⟩) (m.pop.out.length+1) cap)).heap[k]?=w3.heap[k]?:=fun k hk=>Below.heap_setCell _ _ _ _ z6ga;have hc:G7 6 ρ w2 (w3.setCell ⟨C.mb,11,none⟩ (.slice (some ⟨g,0,none⟩) (m.pop.out.length+1) cap)):=⟨by rw[Uf];exact HG.o.os,by rw[Uh];exact HG.o.tape,by rw[Ug];exact HG.o.output,by simp[World.setCell];exact HG.o.size,fun k hk h1 h2=>(hset k (fun e=>h1 (by rw[e];exact HV.o.one.1))).trans (HG.o.block k hk (fun e=>h2 (HV.o.outo k (by rw[HVn.o];exact e.symm))))⟩;have hfin:=HV.o.Aj5 hc (oa:=some ⟨g,0,none⟩) (on:=m.pop.out.length+1) (oc:=cap) (out:=m.pop.out++[l]) (x':=x) (now:=m.pop.now) (fuel:=m.pop.fuel) (cells:=m.pop.cells) (code:=m.pop.code) (line:=m.pop.line) (by rw[heap_set (j:=11) Ay.o];simp[MC.cells])
  (by rw[List.length_append,Sa,Uc];exact B2 HO.o (fun k hk _=>hset k (by simp only[Value.ownBlock,Option.some.injEq]at hk;rw[←hk];exact hgb)))
  (fun k hk=>by
   simp only[Value.ownBlock,Option.some.injEq]at hk;rw[←hk,HVn.o];rcases HA.o with e|e
   ·exact .inl e
   ·exact .inr z4sa) HV.o.now (by show(m.out++[l]).length<=100;simp;omega)
 exact⟨rfl,MC.Ms.back ⟨_,_,_,_,_,_,hfin⟩,Aa.o.trans (Ac (HV.o.Gg hc z4sa))⟩
end
section
open Go.RowKit
open Go.Deep (BT)
variable {C:MC} {D X:Nat->Prop} {w w':World} {m:MS} {β:Nat->Nat} {bets:List Da}
theorem Zl(n:Nat):Bs n Bp:=by show(0:Nat)≠4;omega
theorem A4s{n:Nat}{l:List PV}(h:∀v∈l,Bs n v)(i:Nat):Bs n ((l[i]?).getD Bp):=by
 rcases Nat.lt_or_ge i l.length with q|q
 ·exact z2fa
 ·rw[List.getElem?_eq_none q];exact Zl n
theorem Zk{n:Nat}{l:List PV}(h:∀v∈l,Bs n v):Bs n (l.getLastD Bp):=by
 rw[List.getLastD_eq_getLast?,List.getLast?_eq_getElem?];exact A4s h _
theorem MC.Ms.vv(h:C.Ms D X β w m):∀v∈m.vals,Bs m.arr.length v:=by
 obtain⟨ρ,s,x,fv,ab,lp,h⟩:=h;exact h.vv.1
theorem MC.Ms.Ny(h:C.Ms D X β w m):Bs m.arr.length m.top:=Zk h.vv
theorem MC.Ms.Nx(h:C.Ms D X β w m):Bs m.arr.length m.pop.top:=Zk (fun v hv=>h.vv v (List.dropLast_subset _ hv))
theorem MC.Ms.vat(h:C.Ms D X β w m)(i:Int):Bs m.arr.length (m.at' i):=by
 unfold MS.at';split
 ·exact Zl _
 ·exact A4s h.vv _
theorem Tl{l:List PV}(h:∀v∈l,Ef v):Ef (l.getLastD Bp):=by
 rw[List.getLastD_eq_getLast?,List.getLast?_eq_getElem?];exact Rj h _
theorem Tj:∀(args:Array Value) (W:World),(callFunc 212 args).run Tryz.prog W=.ok (.enter 212 args) W:=Go.Proofs.enters_of Tryz.func212 z4va rfl
theorem Abz:∀(args:Array Value) (W:World),(callFunc 157 args).run Tryz.prog W=.ok (.enter 157 args) W:=Go.Proofs.enters_of Tryz.func157 z4va rfl
theorem X9:∀(args:Array Value) (W:World),(callFunc 159 args).run Tryz.prog W=.ok (.enter 159 args) W:=Go.Proofs.enters_of Tryz.func159 z4va rfl
theorem Lz:∀(args:Array Value) (W:World),(callFunc 221 args).run Tryz.prog W=.ok (.enter 221 args) W:=Go.Proofs.enters_of Tryz.func221 z4va rfl
theorem Ac0:∀(args:Array Value) (W:World),(callFunc 148 args).run Tryz.prog W=.ok (.enter 148 args) W:=Go.Proofs.enters_of Tryz.func148 z4va rfl
theorem Q7:∀(args:Array Value) (W:World),(callFunc 156 args).run Tryz.prog W=.ok (.enter 156 args) W:=Go.Proofs.enters_of Tryz.func156 z4va rfl
theorem Ac1:∀(args:Array Value) (W:World),(callFunc 216 args).run Tryz.prog W=.ok (.enter 216 args) W:=Go.Proofs.enters_of Tryz.func216 z4va rfl
theorem Ac2:∀(args:Array Value) (W:World),(callFunc 153 args).run Tryz.prog W=.ok (.enter 153 args) W:=Go.Proofs.enters_of Tryz.func153 z4va rfl
theorem Ac3:∀(args:Array Value) (W:World),(callFunc 219 args).run Tryz.prog W=.ok (.enter 219 args) W:=Go.Proofs.enters_of Tryz.func219 z4va rfl
theorem Ac4:∀(args:Array Value) (W:World),(callFunc 154 args).run Tryz.prog W=.ok (.enter 154 args) W:=Go.Proofs.enters_of Tryz.func154 z4va rfl
theorem A0i:∀(args:Array Value) (W:World),(callFunc 160 args).run Tryz.prog W=.ok (.enter 160 args) W:=Go.Proofs.enters_of Tryz.func160 z4va rfl
theorem Ac5:∀(args:Array Value) (W:World),(callFunc 149 args).run Tryz.prog W=.ok (.enter 149 args) W:=Go.Proofs.enters_of Tryz.func149 z4va rfl
theorem Ac7:∀(args:Array Value) (W:World),(callFunc 215 args).run Tryz.prog W=.ok (.enter 215 args) W:=Go.Proofs.enters_of Tryz.func215 z4va rfl
theorem A0l:∀(args:Array Value) (W:World),(callFunc 218 args).run Tryz.prog W=.ok (.enter 218 args) W:=Go.Proofs.enters_of Tryz.func218 z4va rfl
theorem Xa:∀(args:Array Value) (W:World),(callFunc 220 args).run Tryz.prog W=.ok (.enter 220 args) W:=Go.Proofs.enters_of Tryz.func220 z4va rfl
theorem Ac8:∀(args:Array Value) (W:World),(callFunc 217 args).run Tryz.prog W=.ok (.enter 217 args) W:=Go.Proofs.enters_of Tryz.func217 z4va rfl
theorem Ac9:∀(args:Array Value) (W:World),(callFunc 151 args).run Tryz.prog W=.ok (.enter 151 args) W:=Go.Proofs.enters_of Tryz.func151 z4va rfl
theorem Acb:∀(args:Array Value) (W:World),(callFunc 214 args).run Tryz.prog W=.ok (.enter 214 args) W:=Go.Proofs.enters_of Tryz.func214 z4va rfl
theorem Xc:∀(args:Array Value) (W:World),(callFunc 158 args).run Tryz.prog W=.ok (.enter 158 args) W:=Go.Proofs.enters_of Tryz.func158 z4va rfl
theorem O9:∀(args:Array Value) (W:World),(callFunc 155 args).run Tryz.prog W=.ok (.enter 155 args) W:=Go.Proofs.enters_of Tryz.func155 z4va rfl
def MR(C:MC)(D X:Nat->Prop)(w:World)(m:MS)(e:Ending)(w':World):Prop:=∃β,MQ C D X β w m (.tuple #[]) e w'
def SA(C:MC)(D X:Nat->Prop)(w:World)(i:Af)(m':MS):Prop:=∃k,(∀W:World,Calls Tryz.prog 100 #[.int .i64 (i.op:Nat)] W fun e w'=>e=.returned (.func (.func k) #[] #[])/\w'=W)/\(∀(args:Array Value) (W:World),(callFunc k args).run Tryz.prog W=.ok (.enter k args) W)/\Calls Tryz.prog k #[.pointer (some ⟨C.mb,0,none⟩),Ag i] w (MR C D X w m')
theorem SA.of{i:Af}{m':MS}{k:FuncId}{o:Nat}(ho:i.op=o)(ha:∀W:World,Calls Tryz.prog 100 #[.int .i64 (o:Nat)] W fun e w'=>e=.returned (.func (.func k) #[] #[])/\w'=W)(he:∀(args:Array Value) (W:World),(callFunc k args).run Tryz.prog W=.ok (.enter k args) W)(h:Calls Tryz.prog k #[.pointer (some ⟨C.mb,0,none⟩),Ag i] w (MP C D X β w m' (.tuple #[]))):SA C D X w i m':=⟨k,by rw[ho];exact ha,he,h.mono (fun _ _ q=>⟨β,MQ.of q⟩)⟩
theorem Akx(h:C.Ms D X β w m)(i:Af)(hf:Ew C.P i m)(ho:i.op=0):SA C D X w i (Ax C.P bets i m):=by
 have hn:m.vals.length+1<=90000000000:=by have:=hf.vals;omega
 have e:Ax C.P bets i m=m.push i.v:=by unfold Ax;rw[ho] <;> rfl
 rw[e];exact SA.of ho A6c Ac0 (aconst h i hf.ins.2.2.1 hf.ins.2.2.2.1 hn)
theorem Aky(h:C.Ms D X β w m)(i:Af)(hf:Ew C.P i m)(ho:i.op=1):SA C D X w i (Ax C.P bets i m):=by
 have hn:m.vals.length+1<=90000000000:=by have:=hf.vals;omega
 have e:Ax C.P bets i m=m.push (m.at' (m.now.base+i.arg)):=by unfold Ax;rw[ho] <;> rfl
 rw[e];exact SA.of ho A6d Ac5 (A7i h i ⟨by have:=hf.base.1;omega,by have:=hf.base.2;omega⟩ ⟨by have:=hf.ins.1;omega,by have:=hf.ins.2.1;omega⟩ hn (h.vat _))
theorem Ald(h:C.Ms D X β w m)(i:Af)(hf:Ew C.P i m)(ho:i.op=3):SA C D X w i (Ax C.P bets i m):=by
 have hn:m.vals.length+1<=90000000000:=by have:=hf.vals;omega
 have e:Ax C.P bets i m=m.pop.put (m.now.base+i.arg) m.top:=by unfold Ax;rw[ho] <;> rfl
 rw[e];exact SA.of ho A6m Ac9 (A86 h i ⟨by have:=hf.base.1;omega,by have:=hf.base.2;omega⟩ ⟨by have:=hf.ins.1;omega,by have:=hf.ins.2.1;omega⟩ h.Ny)
theorem Alq(h:C.Ms D X β w m)(i:Af)(hf:Ew C.P i m)(ho:i.op=5):SA C D X w i (Ax C.P bets i m):=by
 have hn:m.vals.length+1<=90000000000:=by have:=hf.vals;omega
 have e:Ax C.P bets i m=m.pop:=by unfold Ax;rw[ho] <;> rfl
 rw[e];exact SA.of ho A6q Ac2 (A6z h i)
theorem Alr(h:C.Ms D X β w m)(i:Af)(hf:Ew C.P i m)(ho:i.op=6):SA C D X w i (Ax C.P bets i m):=by
 have hn:m.vals.length+1<=90000000000:=by have:=hf.vals;omega
 have e:Ax C.P bets i m=m.jump i.arg:=by unfold Ax;rw[ho] <;> rfl
 rw[e];exact SA.of ho A6r Ac4 (A7a h i hf.ins.1)
theorem Als(h:C.Ms D X β w m)(i:Af)(hf:Ew C.P i m)(ho:i.op=7):SA C D X w i (Ax C.P bets i m):=by
 have hn:m.vals.length+1<=90000000000:=by have:=hf.vals;omega
 have e:Ax C.P bets i m=(if m.top.y then m.pop.J6 i (fun m'=>if m.top.k=1 then m' else m'.fail 5 i) else if m.top.k=1 then m.pop.jump i.arg else m.pop.fail 5 i):=by unfold Ax;rw[ho] <;> rfl
 rw[e];have hfu:m.fuel<=100000:=by have:=hf.fuel;omega
 cases hy:m.top.y
 ·rw[if_neg z4wa];by_cases hk:m.top.k=1
  ·rw[if_pos hk];exact SA.of ho R7 O9 (A81 h i ho hk hy hf.ins.1)
  ·rw[if_neg hk];exact SA.of ho R7 O9 (A7z h i ho hk hy)
 ·rw[if_pos rfl];unfold MS.J6;by_cases hz:m.fuel=0
  ·rw[if_pos (by exact hz)];exact SA.of ho R7 O9 (A82 h i ho hy hz)
  ·rw[if_neg (by exact hz)];by_cases hk:m.top.k=1
   ·simp only[if_pos hk];exact SA.of ho R7 O9 (A83 h i ho hk hy hz hfu)
   ·simp only[if_neg hk];exact SA.of ho R7 O9 (A80 h i ho hk hy hz hfu)
theorem Alu(h:C.Ms D X β w m)(i:Af)(hf:Ew C.P i m)(ho:i.op=8):SA C D X w i (Ax C.P bets i m):=by
 have hn:m.vals.length+1<=90000000000:=by have:=hf.vals;omega
 have e:Ax C.P bets i m=(if m.top.k=1 then(if m.top.y then m.pop else m.pop.jump i.arg) else m.pop.fail 5 i):=by unfold Ax;rw[ho] <;> rfl
 rw[e];by_cases hk:m.top.k=1
 ·rw[if_pos hk];cases hy:m.top.y
  ·rw[if_neg z4wa];exact SA.of ho Vn O9 (A8d h i ho hk hy hf.ins.1)
  ·rw[if_pos rfl];exact SA.of ho Vn O9 (A8e h i ho hk hy)
 ·rw[if_neg hk];exact SA.of ho Vn O9 (A8c h i ho hk)
theorem Alv(h:C.Ms D X β w m)(i:Af)(hf:Ew C.P i m)(ho:i.op=9):SA C D X w i (Ax C.P bets i m):=by
 have hn:m.vals.length+1<=90000000000:=by have:=hf.vals;omega
 have e:Ax C.P bets i m=(if m.top.k=1 then(if m.top.y then m.pop else m.jump i.arg) else m.fail 5 i):=by unfold Ax;rw[ho] <;> rfl
 rw[e];by_cases hk:m.top.k=1
 ·rw[if_pos hk];cases hy:m.top.y
  ·rw[if_neg z4wa];exact SA.of ho Vo Q7 (A6w h i ho hk hy hf.ins.1)
  ·rw[if_pos rfl];exact SA.of ho Vo Q7 (A6x h i ho hk hy)
 ·rw[if_neg hk];exact SA.of ho Vo Q7 (j4 h i hk)
theorem Akz(h:C.Ms D X β w m)(i:Af)(hf:Ew C.P i m)(ho:i.op=10):SA C D X w i (Ax C.P bets i m):=by
 have hn:m.vals.length+1<=90000000000:=by have:=hf.vals;omega
 have e:Ax C.P bets i m=(if m.top.k=1 then(if m.top.y then m.jump i.arg else m.pop) else m.fail 5 i):=by unfold Ax;rw[ho] <;> rfl
 rw[e];by_cases hk:m.top.k=1
 ·rw[if_pos hk];cases hy:m.top.y
  ·rw[if_neg z4wa];exact SA.of ho Vf Q7 (A6u h i ho hk hy)
  ·rw[if_pos rfl];exact SA.of ho Vf Q7 (A6v h i ho hk hy hf.ins.1)
 ·rw[if_neg hk];exact SA.of ho Vf Q7 (j4 h i hk)
theorem Al0(h:C.Ms D X β w m)(i:Af)(hf:Ew C.P i m)(ho:i.op=11):SA C D X w i (Ax C.P bets i m):=by
 have hn:m.vals.length+1<=90000000000:=by have:=hf.vals;omega
 have e:Ax C.P bets i m=(if m.top.k=1 then m else m.fail 5 i):=by unfold Ax;rw[ho] <;> rfl
 rw[e];exact SA.of ho A6e Abz (A67 h i)
theorem Al1(h:C.Ms D X β w m)(i:Af)(hf:Ew C.P i m)(ho:i.op=12):SA C D X w i (Ax C.P bets i m):=by
 have hn:m.vals.length+1<=90000000000:=by have:=hf.vals;omega
 have e:Ax C.P bets i m=(if m.both 3 then m.join i else m.ints i (fun a b m'=>m'.push (ofInt (wr (a+b))))):=by unfold Ax;rw[ho] <;> rfl
 rw[e];have t1:m.top.t.length<=100000:=by have:=(Tl hf.str).1;unfold MS.top;omega
 have t2:m.pop.top.t.length<=100000:=Nat.le_trans (Tl (fun v hv=>hf.str v (List.dropLast_subset _ hv))).1 z4sa;cases h3:m.both 3
 ·rw[if_neg z4wa];unfold MS.ints;cases h2:m.both 2
  ·rw[if_neg z4wa];exact SA.of ho T2 Tj (A63 h i ho h3 h2)
  ·rw[if_pos rfl];exact SA.of ho T2 Tj (A66 h i ho h3 h2 hn)
 ·rw[if_pos rfl];unfold MS.join MS.two;dsimp only;by_cases hz:100<m.pop.top.t.length+m.top.t.length
  ·rw[if_pos hz];exact SA.of ho T2 Tj (A64 h i ho h3 t2 t1 hz)
  ·rw[if_neg hz];exact SA.of ho T2 Tj (A65 h i ho h3 z4sa hn)
theorem Al2(h:C.Ms D X β w m)(i:Af)(hf:Ew C.P i m)(ho:i.op=15):SA C D X w i (Ax C.P bets i m):=by
 have hn:m.vals.length+1<=90000000000:=by have:=hf.vals;omega
 have e:Ax C.P bets i m=m.ints i (fun a b m'=>m'.push (ofInt (wr (a-b)))):=by unfold Ax;rw[ho] <;> rfl
 rw[e];exact SA.of ho A6f Acb (A88 h i ho hn)
theorem Al3(h:C.Ms D X β w m)(i:Af)(hf:Ew C.P i m)(ho:i.op=17):SA C D X w i (Ax C.P bets i m):=by
 have hn:m.vals.length+1<=90000000000:=by have:=hf.vals;omega
 have e:Ax C.P bets i m=m.ints i (fun a b m'=>m'.push (ofInt (wr (a*b)))):=by unfold Ax;rw[ho] <;> rfl
 rw[e];exact SA.of ho A6g Ac7 (A7k h i ho hn)
theorem Al4(h:C.Ms D X β w m)(i:Af)(hf:Ew C.P i m)(ho:i.op=19):SA C D X w i (Ax C.P bets i m):=by
 have hn:m.vals.length+1<=90000000000:=by have:=hf.vals;omega
 have e:Ax C.P bets i m=m.ints i (fun a b m'=>if b=0 then m'.fail 6 i else m'.push (ofInt (wr (a.tdiv b)))):=by unfold Ax;rw[ho] <;> rfl
 rw[e];exact SA.of ho A6h Ac1 (A6y h i ho hn)
theorem Al6(h:C.Ms D X β w m)(i:Af)(hf:Ew C.P i m)(ho:i.op=21):SA C D X w i (Ax C.P bets i m):=by
 have hn:m.vals.length+1<=90000000000:=by have:=hf.vals;omega
 have e:Ax C.P bets i m=m.ints i (fun a b m'=>if b=0 then m'.fail 6 i else m'.push (ofInt (a.tmod b))):=by unfold Ax;rw[ho] <;> rfl
 rw[e];exact SA.of ho A6j Ac8 (A7x h i ho hn)
theorem Al7(h:C.Ms D X β w m)(i:Af)(hf:Ew C.P i m)(ho:i.op=23):SA C D X w i (Ax C.P bets i m):=by
 have hn:m.vals.length+1<=90000000000:=by have:=hf.vals;omega
 have e:Ax C.P bets i m=(if m.top.k=2 then m.pop.push (ofInt (wr (-m.top.n))) else m.fail 5 i):=by unfold Ax;rw[ho] <;> rfl
 rw[e];by_cases hk:m.top.k=2
 ·rw[if_pos hk];exact SA.of ho b6 A0l (A7m h i ho hk hn)
 ·rw[if_neg hk];exact SA.of ho b6 A0l (A7l h i ho hk)
theorem Al8(h:C.Ms D X β w m)(i:Af)(hf:Ew C.P i m)(ho:i.op=25):SA C D X w i (Ax C.P bets i m):=by
 have hn:m.vals.length+1<=90000000000:=by have:=hf.vals;omega
 have e:Ax C.P bets i m=m.pop.pop.push (ofBool (m.pop.top.same m.top)):=by unfold Ax;rw[ho] <;> rfl
 rw[e];exact SA.of ho A6k Ac3 (j5 h i h.Nx h.Ny hn)
theorem Al9(h:C.Ms D X β w m)(i:Af)(hf:Ew C.P i m)(ho:i.op=26):SA C D X w i (Ax C.P bets i m):=by
 have hn:m.vals.length+1<=90000000000:=by have:=hf.vals;omega
 have e:Ax C.P bets i m=m.pop.pop.push (ofBool (!m.pop.top.same m.top)):=by unfold Ax;rw[ho] <;> rfl
 rw[e];exact SA.of ho A6l Xa (A7p h i ho h.Nx h.Ny hn)
theorem Ala(h:C.Ms D X β w m)(i:Af)(hf:Ew C.P i m)(ho:i.op=27):SA C D X w i (Ax C.P bets i m):=by
 have hn:m.vals.length+1<=90000000000:=by have:=hf.vals;omega
 have e:Ax C.P bets i m=(if m.top.k=1 then m.pop.push (ofBool (!m.top.y)) else m.pop.fail 5 i):=by unfold Ax;rw[ho] <;> rfl
 rw[e];by_cases hk:m.top.k=1
 ·rw[if_pos hk];exact SA.of ho b7 Xa (A7o h i ho hk hn)
 ·rw[if_neg hk];exact SA.of ho b7 Xa (A7n h i ho hk)
theorem Alb(h:C.Ms D X β w m)(i:Af)(hf:Ew C.P i m)(ho:i.op=28):SA C D X w i (Ax C.P bets i m):=by
 have hn:m.vals.length+1<=90000000000:=by have:=hf.vals;omega
 have e:Ax C.P bets i m=(if m.both 2||m.both 3 then m.two fun a b m'=>m'.push (ofBool (before b a)) else m.fail 5 i):=by unfold Ax;rw[ho] <;> rfl
 rw[e];cases h2:m.both 2
 ·cases h3:m.both 3
  ·rw[if_neg z4wa];exact SA.of ho Vg Lz (Ta h i h2 h3)
  ·rw[if_pos z4wa];exact SA.of ho Vg Lz (A9u h i ho h2 h3 hn)
 ·rw[if_pos z4wa];exact SA.of ho Vg Lz (A9t h i ho h2 hn)
theorem Alc(h:C.Ms D X β w m)(i:Af)(hf:Ew C.P i m)(ho:i.op=29):SA C D X w i (Ax C.P bets i m):=by
 have hn:m.vals.length+1<=90000000000:=by have:=hf.vals;omega
 have e:Ax C.P bets i m=(if m.both 2||m.both 3 then m.two fun a b m'=>m'.push (ofBool (before a b)) else m.fail 5 i):=by unfold Ax;rw[ho] <;> rfl
 rw[e];cases h2:m.both 2
 ·cases h3:m.both 3
  ·rw[if_neg z4wa];exact SA.of ho Vh Lz (Ta h i h2 h3)
  ·rw[if_pos z4wa];exact SA.of ho Vh Lz (Aa0 h i ho h2 h3 hn)
 ·rw[if_pos z4wa];exact SA.of ho Vh Lz (A9z h i ho h2 hn)
theorem Ale(h:C.Ms D X β w m)(i:Af)(hf:Ew C.P i m)(ho:i.op=30):SA C D X w i (Ax C.P bets i m):=by
 have hn:m.vals.length+1<=90000000000:=by have:=hf.vals;omega
 have e:Ax C.P bets i m=(if m.both 2||m.both 3 then m.two fun a b m'=>m'.push (ofBool (!before a b)) else m.fail 5 i):=by unfold Ax;rw[ho] <;> rfl
 rw[e];cases h2:m.both 2
 ·cases h3:m.both 3
  ·rw[if_neg z4wa];exact SA.of ho Vi Lz (Ta h i h2 h3)
  ·rw[if_pos z4wa];exact SA.of ho Vi Lz (A9s h i ho h2 h3 hn)
 ·rw[if_pos z4wa];exact SA.of ho Vi Lz (A9r h i ho h2 hn)
theorem Alf(h:C.Ms D X β w m)(i:Af)(hf:Ew C.P i m)(ho:i.op=31):SA C D X w i (Ax C.P bets i m):=by
 have hn:m.vals.length+1<=90000000000:=by have:=hf.vals;omega
 have e:Ax C.P bets i m=(if m.both 2||m.both 3 then m.two fun a b m'=>m'.push (ofBool (!before b a)) else m.fail 5 i):=by unfold Ax;rw[ho] <;> rfl
 rw[e];cases h2:m.both 2
 ·cases h3:m.both 3
  ·rw[if_neg z4wa];exact SA.of ho Vj Lz (Ta h i h2 h3)
  ·rw[if_pos z4wa];exact SA.of ho Vj Lz (A9x h i ho h2 h3 hn)
 ·rw[if_pos z4wa];exact SA.of ho Vj Lz (A9w h i ho h2 hn)
theorem Alo(h:C.Ms D X β w m)(i:Af)(hf:Ew C.P i m)(ho:i.op=43):SA C D X w i (Ax C.P bets i m):=by
 have hn:m.vals.length+1<=90000000000:=by have:=hf.vals;omega
 have e:Ax C.P bets i m={ (m.cut m.now.base).push Bp with now:=m.calls.getLastD ⟨[],0,0⟩,calls:=m.calls.dropLast }:=by unfold Ax;rw[ho] <;> rfl
 rw[e];exact SA.of ho A6o A0i (A7q h i ho hn)
theorem Alp(h:C.Ms D X β w m)(i:Af)(hf:Ew C.P i m)(ho:i.op=44):SA C D X w i (Ax C.P bets i m):=by
 have hn:m.vals.length+1<=90000000000:=by have:=hf.vals;omega
 have e:Ax C.P bets i m={ (m.pop.cut m.now.base).push m.top with now:=m.calls.getLastD ⟨[],0,0⟩,calls:=m.calls.dropLast }:=by unfold Ax;rw[ho] <;> rfl
 rw[e];exact SA.of ho A6p A0i (A7y h i ho h.Ny hn)
theorem Alm(h:C.Ms D X β w m)(i:Af)(hf:Ew C.P i m)(ht:G9 w)(hD:D Jt)(ho:i.op=41):SA C D X w i (Ax C.P bets i m):=by
 have hn:m.vals.length+1<=90000000000:=by have:=hf.vals;omega
 have e:Ax C.P bets i m=m.L8 i:=by unfold Ax;rw[ho] <;> rfl
 rw[e];have hft:Su m:=⟨Tl hf.str,hf.arv,fun l hl=>by have:=hf.ars l hl;omega⟩;unfold MS.L8;by_cases hz:500<(Dr m.arr 4 [] m.top).length
 ·rw[if_pos (.inl hz)];exact SA.of ho Vl Xc (A89 h i hft ht hD hz)
 ·by_cases hq:m.out.length=100
  ·rw[if_pos (.inr hq)];exact SA.of ho Vl Xc (A8a h i hft ht hD z4sa hq)
  ·rw[if_neg z4sa];exact SA.of ho Vl Xc (A8b h i hft ht hD z4sa (by have:=hf.out;omega))
theorem Aln(h:C.Ms D X β w m)(i:Af)(hf:Ew C.P i m)(hb:J9 X w (.slice C.ba C.bn C.bc) bets)(hB:Zp C D bets m)(ho:i.op=42):SA C D X w i (Ax C.P bets i m):=by
 have hfu:m.fuel<=100000:=by have:=hf.fuel;omega
 have hlt:=hf.ins.2.2.2.2.2.1 ho;have hfn:=List.getElem?_eq_getElem hlt;have hll:i.arg.toNat<m.lots.length:=by rw[hf.lotn];exact hlt
 have hl:=List.getElem?_eq_getElem hll;by_cases hz:m.fuel=0
 ·have e:Ax C.P bets i m=m.fail 8 i:=by
   unfold Ax;rw[ho];show MS.J6 _ _ _=_;unfold MS.J6;rw[if_pos hz]
  rw[e];exact SA.of ho Vm X9 (A6a h i hz)
 by_cases hd:m.calls.length=40
 ·have e:Ax C.P bets i m={ m with fuel:=m.fuel-1 }.fail 9 i:=by
   unfold Ax;rw[ho];show MS.J6 _ _ _=_;unfold MS.J6;rw[if_neg hz];dsimp only;rw[if_pos hd]
  rw[e];exact SA.of ho Vm X9 (A69 h i hz hfu hd)
 ·rw[A6b m i ho hz hd hfn];refine⟨_,by rw[ho];exact Vm,X9,(A68 h i hz hfu (by have:=hf.depth;omega) (j:=i.arg.toNat) (by have:=hf.ins.1;omega) hfn hl hb hf.fns (hB _ _ _ hfn hl) hf.vals).mono (fun _ _ q=>⟨β,q⟩)⟩
theorem Ac6:∀(args:Array Value) (W:World),(callFunc 150 args).run Tryz.prog W=.ok (.enter 150 args) W:=Go.Proofs.enters_of Tryz.func150 z4va rfl
theorem Aca:∀(args:Array Value) (W:World),(callFunc 152 args).run Tryz.prog W=.ok (.enter 152 args) W:=Go.Proofs.enters_of Tryz.func152 z4va rfl
theorem A0k:∀(args:Array Value) (W:World),(callFunc 161 args).run Tryz.prog W=.ok (.enter 161 args) W:=Go.Proofs.enters_of Tryz.func161 z4va rfl
theorem A0j:∀(args:Array Value) (W:World),(callFunc 162 args).run Tryz.prog W=.ok (.enter 162 args) W:=Go.Proofs.enters_of Tryz.func162 z4va rfl
theorem Xb:∀(args:Array Value) (W:World),(callFunc 163 args).run Tryz.prog W=.ok (.enter 163 args) W:=Go.Proofs.enters_of Tryz.func163 z4va rfl
theorem Q8:∀(args:Array Value) (W:World),(callFunc 164 args).run Tryz.prog W=.ok (.enter 164 args) W:=Go.Proofs.enters_of Tryz.func164 z4va rfl
theorem Q9:∀(args:Array Value) (W:World),(callFunc 165 args).run Tryz.prog W=.ok (.enter 165 args) W:=Go.Proofs.enters_of Tryz.func165 z4va rfl
theorem MC.Ms.vgl(h:C.Ms D X β w m):∀v∈m.gl,Bs m.arr.length v:=by
 obtain⟨ρ,s,x,fv,ab,lp,h⟩:=h;exact h.vv.2.1
theorem MC.Ms.var(h:C.Ms D X β w m):∀l∈m.arr,∀v∈l,Bs m.arr.length v:=by
 obtain⟨ρ,s,x,fv,ab,lp,h⟩:=h;exact h.vv.2.2
theorem Zj{n:Nat}{v:PV}(h:Bs n v)(hk:v.k=4):∃r,v.r=some r/\r<n:=by
 exact z3ba
theorem A1v{α:Type}(l:List α)(r:Nat)(h:r<l.length)(f:α->α):l.modify r f=l.set r (f l[r]):=by
 apply List.ext_getElem?;intro k;rw[List.getElem?_modify,List.getElem?_set];by_cases e:r=k
 ·subst e;rw[if_pos rfl,if_pos h,List.getElem?_eq_getElem h];simp
 ·rw[if_neg e];simp[e]
theorem Al5(h:C.Ms D X β w m)(i:Af)(hf:Ew C.P i m)(ho:i.op=2):SA C D X w i (Ax C.P bets i m):=by
 have hn:m.vals.length+1<=90000000000:=by have:=hf.vals;omega
 have hg:=hf.nice (.inl ho);have e:Ax C.P bets i m=m.push ((m.gl[i.arg.toNat]?).getD Bp):=by unfold Ax;rw[ho] <;> rfl
 rw[e,List.getElem?_eq_getElem hg,Option.getD_some];exact SA.of ho A6i Ac6 (A7j h i (k:=i.arg.toNat) (by have:=hf.ins.1;omega) hg hn (h.vgl _ (List.getElem_mem hg)))
theorem Alk(h:C.Ms D X β w m)(i:Af)(hf:Ew C.P i m)(ho:i.op=4):SA C D X w i (Ax C.P bets i m):=by
 have hg:=hf.nice (.inr ho);have e:Ax C.P bets i m={ m.pop with gl:=m.gl.set i.arg.toNat m.top }:=by unfold Ax;rw[ho] <;> rfl
 rw[e];exact SA.of ho A6n Aca (A87 h i (k:=i.arg.toNat) (by have:=hf.ins.1;omega) hg h.Ny)
theorem Alg(h:C.Ms D X β w m)(i:Af)(hf:Ew C.P i m)(ho:i.op=36):SA C D X w i (Ax C.P bets i m):=by
 have hi:i.arg=(i.arg.toNat:Nat):=by have:=hf.ins.1;omega
 have hl:=hf.vals;have hc:=hf.cells;generalize i.arg.toNat=n at *;have e:Ax C.P bets i m=m.room (n:Nat) i (fun m'=>MS.push (Oi m'.arr.length) { (MS.cut ((m'.vals.length:Int)-(n:Nat)) m') with arr:=m'.arr++[(List.range n).map (fun(j:Nat)=>m'.at' ((m'.vals.length:Int)-(n:Nat)+j))] }):=by
  unfold Ax;rw[ho,hi] <;> rfl
 rw[e];unfold MS.room;by_cases hz:(500:Int)-m.cells<(n:Nat)
 ·rw[if_pos hz];exact SA.of ho b8 A0k (A7g h i hi z4sa hc)
 ·rw[if_neg hz];dsimp only;rw[Int.toNat_natCast];refine⟨_,by rw[ho];exact b8,A0k,(A7h h i hi z4sa z4sa).mono ?_⟩;rintro e w' ⟨rfl,b,h1,h2⟩;exact⟨_,rfl,⟨D,fun _ q=>q,h1⟩,h2⟩
theorem Alh(h:C.Ms D X β w m)(i:Af)(hf:Ew C.P i m)(ho:i.op=37):SA C D X w i (Ax C.P bets i m):=by
 have hn:=hf.vals;have e:Ax C.P bets i m=(match sizeOf' m m.top with|some n=>m.pop.push (ofInt (n:Nat))|none=>m.pop.fail 5 i):=by unfold Ax;rw[ho] <;> rfl
 rw[e];cases hq:sizeOf' m m.top with
 | some n=>exact SA.of ho b9 A0j (A7f h i h.Ny (n:=n) (by unfold Fh;rw[show sizeOf' m.pop m.top=some n from hq];rfl) z4sa)
 | none=>exact SA.of ho b9 A0j (A7e h i h.Ny (by unfold Fh;rw[show sizeOf' m.pop m.top=none from hq];rfl))
theorem Ali(h:C.Ms D X β w m)(i:Af)(hf:Ew C.P i m)(ho:i.op=38):SA C D X w i (Ax C.P bets i m):=by
 have hn:=hf.vals;have hc:=hf.cells;have e:Ax C.P bets i m=(if m.pop.top.k=4 then m.pop.pop.room 1 i (fun m2=>MS.push m.top { m2 with arr:=m2.arr.modify (m.pop.top.r.getD 0) (·++[m.top]) }) else m.pop.pop.fail 5 i):=by unfold Ax;rw[ho] <;> rfl
 rw[e];by_cases hk:m.pop.top.k=4
 ·rw[if_pos hk];obtain⟨r,hr,hra⟩:=Zj h.Nx hk;unfold MS.room;by_cases hz:(500:Int)-m.pop.pop.cells<1
  ·rw[if_pos hz];exact SA.of ho Vk Xb (A7u h i hk (by have:m.pop.pop.cells=m.cells:=rfl;omega) hc)
  ·rw[if_neg hz,hr];have hz':m.cells+1<=500:=by have:m.pop.pop.cells=m.cells:=rfl;omega
   have e2:(m.arr.modify r (·++[m.top]))=m.arr.set r (m.arr[r]++[m.top]):=A1v _ _ hra _;have:=SA.of ho Vk Xb (A7v h i hr hra hk hz' z4sa (by have:=hf.ars _ (List.getElem_mem hra);omega) h.Ny);rw[←e2]at this;exact this
 ·rw[if_neg hk];exact SA.of ho Vk Xb (A7w h i hk)
theorem A4b{m:MS}{v:PV}(h:sizeOf' m v=none):Fh m v=.tuple #[.int .i64 0,.bool false]:=by unfold Fh;rw[h];rfl
theorem Qu{m:MS}{v:PV}{n:Nat}(h:sizeOf' m v=some n):Fh m v=.tuple #[.int .i64 (n:Nat),.bool true]:=by unfold Fh;rw[h];rfl
theorem A3y{m:MS}{v:PV}{n r:Nat}(h:sizeOf' m v=some n)(hk:v.k=4)(hr:v.r=some r)(hra:r<m.arr.length):n=m.arr[r].length:=by
 unfold sizeOf' at h;rw[if_neg z4sa,if_pos hk,hr]at h;injection h with h;rw[←h];show(((m.arr)[r]?).getD []).length=_;rw[List.getElem?_eq_getElem hra];rfl
theorem Alj(h:C.Ms D X β w m)(i:Af)(hf:Ew C.P i m)(ho:i.op=39):SA C D X w i (Ax C.P bets i m):=by
 have hn:=hf.vals;have e:Ax C.P bets i m=m.pop.pop.place m.pop.top m.top i (fun m2=>m2.push (if m.pop.top.k=3 then ofStr ((m.pop.top.t.drop m.top.n.toNat).take 1) else(((m2.arr[m.pop.top.r.getD 0]?).getD [])[m.top.n.toNat]?).getD Bp)):=by unfold Ax;rw[ho] <;> rfl
 rw[e];unfold MS.place;cases hq:sizeOf' m.pop.pop m.pop.top with
 | none=>exact SA.of ho Q1 Q8 (T3 h i (fun W hs=>A1y hs _ _ i h.Nx (A4b hq)))
 | some n=>
  dsimp only;by_cases h2:m.top.k=2
  ·rw[if_neg (by simpa using h2)];by_cases hlo:m.top.n<0
   ·rw[if_pos (.inl hlo)];exact SA.of ho Q1 Q8 (T3 h i (fun W hs=>A1x hs _ _ i h.Nx (Qu hq) h2 hlo))
   ·by_cases hhi:(n:Int)<=m.top.n
    ·rw[if_pos (.inr hhi)];exact SA.of ho Q1 Q8 (T3 h i (fun W hs=>A1w hs _ _ i h.Nx (Qu hq) h2 hlo hhi))
    ·rw[if_neg z4sa];by_cases h3:m.pop.top.k=3
     ·have hnl:n=m.pop.top.t.length:=by
       unfold sizeOf' at hq;rw[if_pos h3]at hq;injection hq with hq;exact hq.symm
      have htl:m.pop.top.t.length<=2000:=(Tl (fun v hv=>hf.str v (List.dropLast_subset _ hv))).1;simp only[if_pos h3];exact SA.of ho Q1 Q8 (A77 h i h3 h.Nx h2 (k:=m.top.n.toNat) z4sa z4sa z4sa hf.vals)
     simp only[if_neg h3];have h4:m.pop.top.k=4:=by
      unfold sizeOf' at hq;rw[if_neg h3]at hq;by_cases q:m.pop.top.k=4
      ·exact q
      ·rw[if_neg q]at hq;cases hq
     obtain⟨r,hr,hra⟩:=Zj h.Nx h4;have hnl:=A3y hq h4 hr hra;have hnl':n=m.arr[r].length:=hnl;have hki:m.top.n.toNat<m.arr[r].length:=by omega
     have:=SA.of ho Q1 Q8 (A76 h i hr hra h4 h2 (k:=m.top.n.toNat) z4sa hki z4sa (h.var _ (List.getElem_mem hra) _ (List.getElem_mem hki)));rw[hr];show SA C D X w i (m.pop.pop.push (((((m.arr)[r]?).getD [])[m.top.n.toNat]?).getD Bp));rw[List.getElem?_eq_getElem hra,Option.getD_some,List.getElem?_eq_getElem hki,Option.getD_some];exact this
  ·rw[if_pos h2];exact SA.of ho Q1 Q8 (T3 h i (fun W hs=>A1z hs _ _ i h.Nx (Qu hq) h2))
theorem MC.Ms.So(h:C.Ms D X β w m):Bs m.arr.length m.pop.pop.top:=Zk (fun v hv=>h.vv v (List.dropLast_subset _ (List.dropLast_subset _ hv)))
theorem All(h:C.Ms D X β w m)(i:Af)(ho:i.op=40):SA C D X w i (Ax C.P bets i m):=by
 have e:Ax C.P bets i m=(if m.pop.pop.top.k=4 then m.pop.pop.pop.place m.pop.pop.top m.pop.top i (fun m2=>{ m2 with arr:=m2.arr.modify (m.pop.pop.top.r.getD 0) (·.set m.pop.top.n.toNat m.top) }) else m.pop.pop.pop.fail 5 i):=by unfold Ax;rw[ho] <;> rfl
 rw[e];by_cases h4:m.pop.pop.top.k=4
 ·rw[if_pos h4];obtain⟨r,hr,hra⟩:=Zj h.So h4;unfold MS.place;cases hq:sizeOf' m.pop.pop.pop m.pop.pop.top with
  | none=>exact SA.of ho Q2 Q9 (T5 h i h4 (fun X' W hs=>A1y hs _ _ i h.So (A4b hq)))
  | some n=>
   dsimp only;by_cases h2:m.pop.top.k=2
   ·rw[if_neg (by simpa using h2)];by_cases hlo:m.pop.top.n<0
    ·rw[if_pos (.inl hlo)];exact SA.of ho Q2 Q9 (T5 h i h4 (fun X' W hs=>A1x hs _ _ i h.So (Qu hq) h2 hlo))
    ·by_cases hhi:(n:Int)<=m.pop.top.n
     ·rw[if_pos (.inr hhi)];exact SA.of ho Q2 Q9 (T5 h i h4 (fun X' W hs=>A1w hs _ _ i h.So (Qu hq) h2 hlo hhi))
     ·rw[if_neg z4sa,hr];have hnl:n=m.arr[r].length:=A3y hq h4 hr hra;have hki:m.pop.top.n.toNat<m.arr[r].length:=by omega
      have e2:(m.arr.modify r (·.set m.pop.top.n.toNat m.top))=m.arr.set r (m.arr[r].set m.pop.top.n.toNat m.top):=A1v _ _ hra _;have:=SA.of ho Q2 Q9 (A84 h i hr hra h4 h2 (k:=m.pop.top.n.toNat) z4sa hki h.Ny);rw[←e2]at this;exact this
   ·rw[if_pos h2];exact SA.of ho Q2 Q9 (T5 h i h4 (fun X' W hs=>A1z hs _ _ i h.So (Qu hq) h2))
 ·rw[if_neg h4];exact SA.of ho Q2 Q9 (A85 h i h4)
def Vb(C:MC)(X:Nat->Prop)(bets:List Da):Prop:=∀(D:Nat->Prop) (β:Nat->Nat) (w:World) (m:MS) (i:Af),C.Ms D X β w m->Ew C.P i m->Z7 bets i m->G9 w->D Jt->J9 X w (.slice C.ba C.bn C.bc) bets->SA C D X w i (Ax C.P bets i m)
theorem Akv:Vb C X []:=by
 intro D β w m i h hf hsl ht hD hb;obtain⟨hno,hlo⟩:=hsl rfl;have hB:Zp C D [] m:=fun n f l hfn hl=>Af0 hfn (hno l (List.mem_of_getElem? hl)) (hf.fns f (List.mem_of_getElem? hfn)).1 (hf.lotc l (List.mem_of_getElem? hl)).1;have hop:=hf.ins.2.2.2.2.2.2;unfold M3 at hop;unfold Nr at hlo;simp only[Bool.and_eq_true,bne_iff_ne,ne_eq]at hlo;have ho:i.op=0\/i.op=1\/i.op=2\/i.op=3\/i.op=4\/i.op=5\/i.op=6\/i.op=7\/i.op=8\/i.op=9\/i.op=10\/i.op=11\/i.op=12\/i.op=15\/i.op=17\/i.op=19\/i.op=21\/i.op=23\/i.op=25\/i.op=26\/i.op=27\/i.op=28\/i.op=29\/i.op=30\/i.op=31\/i.op=36\/i.op=37\/i.op=38\/i.op=39\/i.op=40\/i.op=41\/i.op=42\/i.op=43\/i.op=44:=by omega
 rcases ho with ho|ho|ho|ho|ho|ho|ho|ho|ho|ho|ho|ho|ho|ho|ho|ho|ho|ho|ho|ho|ho|ho|ho|ho|ho|ho|ho|ho|ho|ho|ho|ho|ho|ho
 ·exact Akx h i hf ho
 ·exact Aky h i hf ho
 ·exact Al5 h i hf ho
 ·exact Ald h i hf ho
 ·exact Alk h i hf ho
 ·exact Alq h i hf ho
 ·exact Alr h i hf ho
 ·exact Als h i hf ho
 ·exact Alu h i hf ho
 ·exact Alv h i hf ho
 ·exact Akz h i hf ho
 ·exact Al0 h i hf ho
 ·exact Al1 h i hf ho
 ·exact Al2 h i hf ho
 ·exact Al3 h i hf ho
 ·exact Al4 h i hf ho
 ·exact Al6 h i hf ho
 ·exact Al7 h i hf ho
 ·exact Al8 h i hf ho
 ·exact Al9 h i hf ho
 ·exact Ala h i hf ho
 ·exact Alb h i hf ho
 ·exact Alc h i hf ho
 ·exact Ale h i hf ho
 ·exact Alf h i hf ho
 ·exact Alg h i hf ho
 ·exact Alh h i hf ho
 ·exact Ali h i hf ho
 ·exact Alj h i hf ho
 ·exact All h i ho
 ·exact Alm h i hf ht hD ho
 ·exact Aln h i hf hb hB ho
 ·exact Alo h i hf ho
 ·exact Alp h i hf ho
end
section
set_option maxRecDepth 100000
open Go.RowKit
open Go.Deep (BT)
variable {C:MC} {D X:Nat->Prop} {w w':World} {m:MS} {β:Nat->Nat} {bets:List Da}
theorem Xr(w:World)(o:Obj):Below w.heap.size w (w.alloc o):=Below.alloc (Below.refl _ _) (Nat.le_refl _) _
theorem MC.Ms.Anb(h:C.Ms D X β w m):∃x,Jp D w x m.now/\w.cell? ⟨C.mb,6,none⟩=some (.slice x.a x.n x.c)/\w.cell? ⟨C.mb,7,none⟩=some (.int .i64 (x.pc:Nat))/\w.cell? ⟨C.mb,12,none⟩=some (.int .i64 (m.code:Nat))/\(∀o,w.frozen? ⟨C.mb,o,none⟩=false)/\(∀g,D g->g<w.heap.size/\C.mb≠g):=by
 obtain⟨ρ,s,x,fv,ab,lp,h⟩:=h;exact⟨x,h.now,A7 h.cell 6 _ rfl,A7 h.cell 7 _ rfl,A7 h.cell 12 _ rfl,Ci h.cell,fun g hg=>⟨(h.prot g (.inl hg)).1,fun e=>h.lo.2 (by rw[e];exact .inl hg)⟩⟩
theorem Afp{w:World}{b:Nat}{T:TypeId}{sz:Nat}{v:Value}{n:Nat}{xs:List Value}(h:w.ownsRow b T sz v n xs):n<=9223372036854775807:=by
 rcases h.2 with⟨_,h0⟩|⟨g,cap,cur,_,_,_,h1,h2,_⟩
 ·omega
 ·unfold maxLen at h2;omega
theorem Ew.pc{P:D5}{i:Af}(h:Ew P i m)(p:Nat):Ew P i { m with now:=⟨m.now.steps,p,m.now.base⟩ }:=⟨h.nice,h.ars,h.arv,h.cells,h.ins,h.vals,h.base,h.fuel,h.depth,h.out,h.str,h.lotn,h.lots,h.lotc,h.fns⟩
theorem Aku{P:Program}{ops:Array Oper}{o:Oper}{a:Act}{w:World}{K:Act->World->Prop}{Q:Exit->Act->World->Prop}{E:Prop}(hg:o.guard=none)(f:FuncId)(args:Array Value)
  (hrun:(execOp a.eval o).run P w=.ok (.enter f args) w) {R:Ending->World->Prop} (hC:Calls P f args w R)
  (h:∀e w',R e w'->∃u,e=.returned u/\K (a.put o.dst u) w'):if Region.wanted o (yielded ops a.tmps)=true then Oper.wp P o a w K Q else E:=by
 exact z20a
theorem Anr(h:C.Ms D X β w m){n:Nat}{m':MS}(hr:Fm C.P bets n m=some m')(hok:Qj C.P bets n m)(ht:G9 w)(hD:D Jt)(hb:J9 X w (.slice C.ba C.bn C.bc) bets)(hst:Vb C X bets) :
  Calls Tryz.prog 58 #[.pointer (some ⟨C.mb,0,none⟩)] w (MR C D X w m'):=by
 have HS:=A0 h;have HR:=A0 hr;have HO:=A0 hok;have HT:=A0 ht;have HB:=A0 hb;clear h hr hok ht hb;go_enter Tryz.func58,Tryz.ntmps58;go_wp2;go_loopg [] n (fun k wr=>∃(D2:Nat->Prop) (β:Nat->Nat) (m2:MS),(∀g,D g->D2 g)/\C.Ms D2 X β wr m2/\A2 (dx D X) w wr/\Fm C.P bets k m2=some m'/\Qj C.P bets k m2)
 case atStart=>exact⟨D,β,m,fun _ h=>h,HS.o,A2.refl _ _,HR.o,HO.o⟩
 case round=>
  obtain⟨D2,β,m2,hDD,Az,A9,Bm,hok2⟩:=hrel;obtain⟨x,hx,g6,g7,g12,gz,hlo⟩:=Az.Anb;have lb:=Az.At;have Ah:=A0 Az;have Aa:=A0 A9;have hxn:x.n=m2.now.steps.length:=(Cf hx.row.1).1;have hxp:=hx.pc;cases gk with
  | zero=>rw[Fm]at Bm;cases Bm
  | succ k=>
   rw[Fm]at Bm;by_cases hc:m2.code=0
   ·rw[if_neg (by rw[hc];simp)]at Bm;have tc:((m2.code:Int)==0)=true:=by rw[hc];rfl
    cases hi:m2.now.steps[m2.now.pc]? with
    | none=>
     rw[hi]at Bm;injection Bm with Bm;have hle:m2.now.steps.length<=m2.now.pc:=by
      rcases Nat.lt_or_ge m2.now.pc m2.now.steps.length with q|q
      ·rw[List.getElem?_eq_getElem q]at hi;cases hi
      ·exact q
     have tl:¬((x.pc:Nat):Int)<((x.n:Nat):Int):=by omega
     have HE:=A0 Bm;clear Az A9 hok2 Bm hx;go_wp2;go_region
     all_goals go_wp2
     all_goals go_end0
     all_goals rw[←HE.o]
     all_goals exact⟨β,rfl,⟨D2,hDD,Ah.o.Hy⟩,Aa.o.trans (Dk _ _ 1)⟩
    | some i=>
     rw[hi]at Bm;obtain⟨⟨hfit,hslo⟩,hok3⟩:=hok2 hc i hi;obtain⟨hlt,hie⟩:=List.getElem?_eq_some_iff.1 hi;have tl:((m2.now.pc:Nat):Int)<((x.n:Nat):Int):=by omega
     have hmx:=Afp hx.row.1;obtain⟨g,k1,_,hcap,lg,hcell⟩:=Hg hx.row.1 z4sa;have hgD:=hx.row.2 g (by rw[k1];rfl);have hng:=(hlo g hgD).2;rw[k1]at g6;rw[hxp]at g7;clear hxp;have d0:=hcell (m2.now.pc*8+0) _ ((G5 (f:=K5) (sz:=8) (fun _=>rfl) m2.now.steps m2.now.pc 0 hlt z4sa).trans rfl);have d1:=hcell (m2.now.pc*8+1) _ ((G5 (f:=K5) (sz:=8) (fun _=>rfl) m2.now.steps m2.now.pc 1 hlt z4sa).trans rfl);have d2:=hcell (m2.now.pc*8+2) _ ((G5 (f:=K5) (sz:=8) (fun _=>rfl) m2.now.steps m2.now.pc 2 hlt z4sa).trans rfl);have d3:=hcell (m2.now.pc*8+3) _ ((G5 (f:=K5) (sz:=8) (fun _=>rfl) m2.now.steps m2.now.pc 3 hlt z4sa).trans rfl);have d4:=hcell (m2.now.pc*8+4) _ ((G5 (f:=K5) (sz:=8) (fun _=>rfl) m2.now.steps m2.now.pc 4 hlt z4sa).trans rfl);have d5:=hcell (m2.now.pc*8+5) _ ((G5 (f:=K5) (sz:=8) (fun _=>rfl) m2.now.steps m2.now.pc 5 hlt z4sa).trans rfl);have d6:=hcell (m2.now.pc*8+6) _ ((G5 (f:=K5) (sz:=8) (fun _=>rfl) m2.now.steps m2.now.pc 6 hlt z4sa).trans rfl);have d7:=hcell (m2.now.pc*8+7) _ ((G5 (f:=K5) (sz:=8) (fun _=>rfl) m2.now.steps m2.now.pc 7 hlt z4sa).trans rfl);replace d0:wr.cell? ⟨g,m2.now.pc*8,none⟩=some (.int .i64 (m2.now.steps[m2.now.pc].op:Nat)):=d0;rw[hie]at d0 d1 d2 d3 d4 d5 d6;obtain⟨s1,s2⟩:=Az.Se ((m2.now.pc:Int)+1) z4sa;have hbA:Below (wr.setCell ⟨C.mb,7,none⟩ (.int .i64 ((m2.now.pc:Int)+1))).heap.size (wr.setCell ⟨C.mb,7,none⟩ (.int .i64 ((m2.now.pc:Int)+1))) ((wr.setCell ⟨C.mb,7,none⟩ (.int .i64 ((m2.now.pc:Int)+1))).alloc (.cells #[.int .i64 (i.op:Nat),.int .i64 i.arg,.int .i64 (i.line:Nat),.int .i64 (i.v.k:Nat),.bool i.v.y,.int .i64 i.v.n,.string ⟨i.v.t.toArray⟩,.pointer none] 251)):=Xr _ _;have hiA:=heap_alloc_new (wr.setCell ⟨C.mb,7,none⟩ (.int .i64 ((m2.now.pc:Int)+1))) (.cells #[.int .i64 (i.op:Nat),.int .i64 i.arg,.int .i64 (i.line:Nat),.int .i64 (i.v.k:Nat),.bool i.v.y,.int .i64 i.v.n,.string ⟨i.v.t.toArray⟩,.pointer none] 251);rw[show(wr.setCell ⟨C.mb,7,none⟩ (.int .i64 ((m2.now.pc:Int)+1))).heap.size=wr.heap.size by simp]at hiA;obtain⟨s3,s4⟩:=s1.below hbA;have hj:m2.jump ((m2.now.pc:Int)+1)={ m2 with now:=⟨m2.now.steps,m2.now.pc+1,m2.now.base⟩ }:=by unfold MS.jump;rw[show((m2.now.pc:Int)+1).toNat=m2.now.pc+1 by omega]
     rw[hj]at s3;obtain⟨w0,Dz⟩:∃w0,w0=((wr.setCell ⟨C.mb,7,none⟩ (.int .i64 ((m2.now.pc:Int)+1))).alloc (.cells #[.int .i64 (i.op:Nat),.int .i64 i.arg,.int .i64 (i.line:Nat),.int .i64 (i.v.k:Nat),.bool i.v.y,.int .i64 i.v.n,.string ⟨i.v.t.toArray⟩,.pointer none] 251)).drew.drew:=⟨_,rfl⟩;have hi0:w0.heap[wr.heap.size]?=some (.cells #[.int .i64 (i.op:Nat),.int .i64 i.arg,.int .i64 (i.line:Nat),.int .i64 (i.v.k:Nat),.bool i.v.y,.int .i64 i.v.n,.string ⟨i.v.t.toArray⟩,.pointer none] 251 (0,0)):=by rw[Dz];exact hiA
     have s5:C.Ms D2 X β w0 { m2 with now:=⟨m2.now.steps,m2.now.pc+1,m2.now.base⟩ }:=by rw[Dz];exact s3.Hy.Hy
     have hBel0:A2 (dx D X) w w0:=by rw[Dz];exact A9.trans (((s2.trans s4).trans (Dk _ _ 2)).weak (fun g hg=>hg.imp (fun q=>hDD g q) id))
     have hBel:A2 (dx D X) w w0.drew:=hBel0.trans (Dk _ _ 1);obtain⟨k9,hka,hke,hkc⟩:=hst D2 β _ _ i s5.Hy (hfit.pc _) hslo (HT.o.Bf hD hBel) (hDD _ hD) (HB.o.keep (K':=X) (fun g hg _=>⟨hBel.block g (.inr hg),hg⟩) hBel.size);have HKA:=A0 hka;have HKE:=A0 hke;have HKC:=A0 hkc;have HBel:=A0 hBel;have Eu:=A0 Bm;have Cd:=A0 hok3;have Ap:=A0 Dz;have As:=A0 hi0;have C9:=s5.At;unfold Ag at HKC;clear Az A9 hok2 Bm hx hok3 hslo s1 s2 s3 s4 s5 hj hbA hBel hBel0 hka hke hkc hcell hie hi hfit hiA hi0 Dz;go_wp2_with fail
     go_region
     all_goals go_wp2_with fail
     go_region
     all_goals go_wp2_with fail
     rw[←Ap.o];have q0:=A7 As.o 0 _ rfl;have q1:=A7 As.o 1 _ rfl;have q2:=A7 As.o 2 _ rfl;have q3:=A7 As.o 3 _ rfl;have q4:=A7 As.o 4 _ rfl;have q5:=A7 As.o 5 _ rfl;have q6:=A7 As.o 6 _ rfl;have q7:=A7 As.o 7 _ rfl;have lq:=A6 As.o;clear d0 d1 d2 d3 d4 d5 d6 d7 g6 g7 g12 gz As Ap;go_region_law (first
      | (refine Fg rfl 100 _ _ rfl #[.int .i64 (i.op:Nat)] z4va (HKA.o _) ?_;rintro e w9 ⟨rfl,hw9⟩;subst hw9;refine⟨_,rfl,?_⟩)
      | (refine Aku rfl k9 #[.pointer (some ⟨C.mb,0,none⟩),.agg #[.int .i64 (i.op:Nat),.int .i64 i.arg,.int .i64 (i.line:Nat),.int .i64 (i.v.k:Nat),.bool i.v.y,.int .i64 i.v.n,.string ⟨i.v.t.toArray⟩,.pointer none]] (Eq.trans (b:=(callFunc k9 #[.pointer (some ⟨C.mb,0,none⟩),.agg #[.int .i64 (i.op:Nat),.int .i64 i.arg,.int .i64 (i.line:Nat),.int .i64 (i.v.k:Nat),.bool i.v.y,.int .i64 i.v.n,.string ⟨i.v.t.toArray⟩,.pointer none]]).run Tryz.prog w0.drew) z4va (HKE.o _ _)) HKC.o ?_;rintro e w3 ⟨β3,rfl,⟨D3,hD3,h3⟩,k3⟩;refine⟨_,rfl,?_⟩;have HD3:Hid (∀g,D g->D3 g):=fun g hg=>hD3 g (hDD g hg);have Be:=A0 h3;have Ay:Hid (A2 (dx D X) w w3):=HBel.o.trans (k3.weak (fun g hg=>hg.imp (fun q=>hDD g q) id));have lb3:=h3.At;clear h3 k3 hD3))
     all_goals
      go_wp2;go_roundg k
      case measure=>omega
      case rel=>exact⟨D3,_,_,HD3.o,Be.o,Ay.o,Eu.o,Cd.o⟩
   ·rw[if_pos hc]at Bm;injection Bm with Bm;have tc:((m2.code:Int)==0)=false:=by rw[beq_eq_false_iff_ne];omega
    have HE:=A0 Bm;clear Az A9 hok2 Bm hx;go_wp2;go_region
    all_goals go_wp2
    all_goals go_end0
    all_goals rw[←HE.o]
    all_goals exact⟨β,rfl,⟨D2,hDD,Ah.o.Hy⟩,Aa.o.trans (Dk _ _ 1)⟩
def Ve(P:D5)(bets:List Da)(m':MS):Prop:=∀(C:MC) (D X:Nat->Prop) (β:Nat->Nat) (w:World),C.P=P->C.Ms D X β w (mstart P)->G9 w->D Jt->J9 X w (.slice C.ba C.bn C.bc) bets->Calls Tryz.prog 58 #[.pointer (some ⟨C.mb,0,none⟩)] w (MR C D X w m')
theorem Ans{P:D5}{n:Nat}{m':MS}(hr:Fm P bets n (mstart P)=some m')(hok:Qj P bets n (mstart P))(hst:∀(C:MC) (X:Nat->Prop),C.P=P->Vb C X bets):Ve P bets m':=by
 intro C D X β w hC h ht hD hb;subst hC;exact Anr h hr hok ht hD hb (hst C X rfl)
end
section
open Go.RowKit
open Go.Deep (BT)
def Pe(lb n gb k:Nat):O2:=⟨some ⟨lb,0,none⟩,n,n,some ⟨gb,0,none⟩,k,k,none,0,0,none,0,0,none,0,0⟩
def Of(P:D5):MS:=⟨[],Jw P.globals,[],⟨[],0,0⟩,2000,0,[],0,0,[],List.replicate P.fns.length ⟨0,none,0,0⟩⟩
theorem A22{C:MC}{E D:Nat->Prop}{w W:World}{lb gb:Nat}(hP:Ki E w C.pb C.P)(hE:∀g,E g->D g)(hDl:∀g,D g->g<w.heap.size)
  (hm:W.heap[C.mb]?=some (.cells (C.cells (Pe lb C.P.fns.length gb C.P.globals) Np 2000 0 0 0) 167 (0,0)))
  (hl:W.heap[lb]?=some (.cells (madeCells #[.int .i64 0,.pointer none,.int .i64 0,.int .i64 0] (C.P.fns.length*4)) 172 (0,0)))
  (hg:W.heap[gb]?=some (.cells (madeCells #[.int .i64 0,.bool false,.int .i64 0,.string ⟨#[]⟩,.pointer none] (C.P.globals*5)) 225 (0,0)))
  (hk:∀g,g<w.heap.size->W.heap[g]?=w.heap[g]?) (hs:w.heap.size<=W.heap.size) (h1:w.heap.size<=C.mb) (h2:w.heap.size<=lb) (h3:w.heap.size<=gb) (h12:C.mb≠lb) (h13:C.mb≠gb) (h23:lb≠gb) (hn:C.P.fns.length<=1000000) (hgn:C.P.globals<=1000000) (β:Nat->Nat) :
  C.Ms D (fun g=>g<w.heap.size) β W (Of C.P):=by
 have hkD:∀g,E g->g<w.heap.size->W.heap[g]?=w.heap[g]?/\D g:=fun g hg' hlt=>⟨hk g hlt,hE g hg'⟩;have hlots:=A1s (f:=L5) (sz:=4) (fun _=>rfl) z4sa _ ((none,⟨0,none,0,0⟩):Option Addr×Fs) rfl C.P.fns.length hn hl;have hgls:=A1s (f:=By β) (sz:=5) (fun _=>rfl) z4sa _ Bp rfl C.P.globals hgn hg;refine⟨fun g=>if g=C.mb then 1 else if g=lb then 2 else if g=gb then 3 else if g<w.heap.size then 0 else 6,Pe lb C.P.fns.length gb C.P.globals,Np,[],[],List.replicate C.P.fns.length (none,⟨0,none,0,0⟩),hm,hP.keep hkD,?_,?_,?_,?_,?_,?_,⟨rfl,.inl ⟨rfl,rfl⟩⟩,?_,⟨rfl,.inl ⟨rfl,rfl⟩⟩,?_,trivial,⟨⟨⟨rfl,.inl ⟨rfl,rfl⟩⟩,fun g hg'=>by simp[Np,Value.ownBlock]at hg'⟩,rfl,rfl⟩,⟨rfl,.inl ⟨rfl,rfl⟩⟩,?_,⟨rfl,fun i h=>by simp at h⟩,?_,⟨?_,?_⟩,⟨by simp[Of],by simp[Of],by simp[Of]⟩,⟨by simp[Of],?_,by simp[Of]⟩⟩
 ·rw[List.length_replicate];exact hlots
 ·intro g hg';simp only[Pe,Value.ownBlock,Option.some.injEq]at hg';subst hg';rw[if_neg (fun e=>h12 e.symm),if_pos rfl]
 ·simp[Of]
 ·intro q hq;rw[List.mem_replicate]at hq;rw[hq.2];rfl
 ·have:(Jw C.P.globals).length=C.P.globals:=by simp[Jw]
  show W.ownsRow 0 _ 5 _ (Jw C.P.globals).length (C5 (By β) (Jw C.P.globals));rw[this];exact hgls
 ·intro g hg';simp only[Pe,Value.ownBlock,Option.some.injEq]at hg';subst hg';rw[if_neg (fun e=>h13 e.symm),if_neg (fun e=>h23 e.symm),if_pos rfl]
 ·intro g hg';simp[Pe,Value.ownBlock]at hg'
 ·intro g hg';simp[Pe,Value.ownBlock]at hg'
 ·intro g hg';simp[Pe,Value.ownBlock]at hg'
 ·intro g hg';have hlt:g<w.heap.size:=by
   rcases hg' with q|q
   ·exact hDl g q
   ·exact q
  refine⟨by omega,?_⟩;rw[if_neg z4sa,if_neg z4sa,if_neg z4sa,if_pos hlt]
 ·rw[if_pos rfl]
 ·intro g hg';by_cases e:g=C.mb
  ·exact e
  ·rw[if_neg e]at hg';split at hg'
   ·cases hg'
   ·split at hg'
    ·cases hg'
    ·split at hg' <;> cases hg'
 ·intro v hv;simp only[Of,Jw,List.mem_replicate]at hv;rw[hv.2];exact Zl _
end
end Go.Proofs.YtjdlndhfaaolaaaGreatDoor
