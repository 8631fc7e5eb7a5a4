import Derived.Test.YtjdlndhfaaolaaaGreatDoorY08
import Derived.Test.YtjdlndhfaaolaaaGreatDoorY35
import Derived.Test.YtjdlndhfaaolaaaGreatDoorY37
import Derived.Test.YtjdlndhfaaolaaaGreatDoorY40
import Derived.Test.YtjdlndhfaaolaaaGreatDoorY41
set_option maxHeartbeats 20000000
set_option linter.all false
namespace Go.Proofs.YtjdlndhfaaolaaaGreatDoor
section
set_option maxRecDepth 100000
open Go.RowKit
open Go.Deep (BT)
variable {C:MC} {D X:Nat->Prop} {w w':World} {m:MS} {β:Nat->Nat}
def Lg:Nat:=4
def A2k:Tryz.prog.globalNamed "internal/strconv.uint64pow10"=some Lg:=by kernel_rfl
def Hr.of{w w':World}(h:Hr w)(hb:w'.heap[Lg]?=w.heap[Lg]?):Hr w':=by
 unfold Hr Lib.TabIs World.var? at *;rw[A2k]at h ⊢;simp only[A37]at h ⊢;rw[hb];exact h
def Hr.Bv{w w':World}(h:Hr w)(hD:D Lg)(hb:A3 (dx D X) w w'):Hr w':=h.of (hb.block _ (.inl hD))
def MC.Ms.Ud(h:C.Ms D X β w m):∃oa oc,w.cell? ⟨C.mb,11,none⟩=some (.slice oa m.out.length oc)/\(∀o,w.frozen? ⟨C.mb,o,none⟩=false):=by
 obtain⟨ρ,s,x,fv,ab,lp,h⟩:=h;have hv:s.on=m.out.length:=(Cm h.out).1;have:=A4 h.cell 11 (.slice s.oa s.on s.oc) rfl;rw[hv]at this;exact⟨_,_,this,By h.cell⟩
def Xb(m:MS):Prop:=F4 m.top/\(∀l∈m.arr,∀v∈l,F4 v)/\∀l∈m.arr,l.length<=1000
def z31a {P:Prop} (h:P:=by
  (try unfold Ca at h);cases hr:v.r with
  | none=>rw[hr]at h;exact absurd hk h
  | some r=>rw[hr]at h;exact⟨r,rfl,h.2⟩):P:=h
def Aa4{n:Nat}{v:PV}(h:Ca n v):R2 n v:=by
 intro hk;exact z31a
def MC.Ms.refs(h:C.Ms D X β w m):R2 m.arr.length m.top/\∀l∈m.arr,∀v∈l,R2 m.arr.length v:=by
 obtain⟨ρ,s,x,fv,ab,lp,h⟩:=h;refine⟨?_,fun l hl v hv=>Aa4 (h.vv.2.2 l hl v hv)⟩;unfold MS.top;rw[Sf];cases hq:m.vals.getLast? with
 | none=>intro q;cases q
 | some v=>exact Aa4 (h.vv.1 v (A3j hq))
def MC.Ms.n8(h:C.Ms D X β w m):Qw w.heap.size β w m.arr:=by
 obtain⟨ρ,s,x,fv,ab,lp,hv⟩:=h;intro i hi;have hl:=hv.arr.len;obtain⟨h1,h2,_⟩:=hv.arr.at' i z4ma hi;have hn:(ab[i]'z4ma).2.1=m.arr[i].length:=(Cm h2).1;unfold Nc at h1 h2;rw[hn]at h1 h2;refine⟨_,_,h1,A6 h1,fun q=>?_⟩;obtain⟨g,e,_,_,lg,hc⟩:=G1 h2 z4ma;exact⟨g,e,lg,hc⟩
def z0va {P:Prop} (h:P:=by
  have C2:=fun(W:World) (hb:Bw w2 W)=>C3 ((fun hs=>Ih hs 10 i) (Au.o.below hb).1) (Ab.trans (Ae (Au.o.below hb).2));unfold Ac at C2;go_wp2_with fail
  refine((C2 _ z4na).1).mono ?_;rintro e w3 ⟨rfl,h3,k3⟩;have Bu:=A0 h3.back;have Ba:A3 (dx D X) w w3:=(C2 _ z4na).2.trans (Ae k3);go_wp2;refine B9 (v:=.tuple #[]) (by simp[results,Tryz.results158,go_sem]) rfl ?_;exact⟨rfl,Bu.o,Ba⟩):P:=h
def Aed(h:C.Ms D X β w m)(i:Aa)(hf:Xb m)(ht:Hr w)(hD:D Lg)(hz:500<(Eg m.arr 4 [] m.top).length):Calls Tryz.prog 158 #[.p C.mb,Ac i] w (MP C D X β w (m.pop.fail 10 i) (.tuple #[])):=by
 have HRf:=A0 h.refs;obtain⟨w0,As,Av,Ag,Ao,Aw,nn,lb,C9⟩:=h.Ci i;have HTp:=A0 Av.o.pop;have hq:Pn (Eg m.arr 4 [] m.top)=.tuple #[.string ⟨#[]⟩,.bool false]:=by unfold Pn;rw[A7 hz]
 unfold B7 at HTp;generalize hl:Eg m.arr 4 [] m.top=l at *;unfold Ac;go_in;go_wp2_with fail
 rw[←As.o];refine HTp.o.mono ?_;rintro e w1 ⟨rfl,h1,k1⟩;have Bn:=h1.B3;have A9:A3 (dx D X) w w1:=Ag.o.trans (Ae k1);have An:=(k1.block _ Ao.o).trans Aw.o;have nn:=Bi An;have HL:=A1m (arr:=m.arr) m.top hf.1 HRf.o.1 (fun l hl v hv=>⟨hf.2.1 l hl v hv,HRf.o.2 l hl v hv⟩) hf.2.2 w1 h1.n8 (ht.Bv hD A9);rw[hl,hq]at HL;obtain⟨oa,oc,o11,oz⟩:=h1.Ud;go_wp2_with fail
 refine HL.mono ?_;rintro e w2 ⟨rfl,Ad⟩;have Bj:=h1.below Ad;have Ct:=(Ad.block _ (A6 An)).trans An;have Au:=A0 Bj.1;have Ab:A3 (dx D X) w w2:=A9.trans (Ae Bj.2);have nn:=Bi Ct;have Ed:=Au.o.B3;obtain⟨oa2,oc2,o11,oz⟩:=Au.o.Ud;exact z0va
def Aee(h:C.Ms D X β w m)(i:Aa)(hf:Xb m)(ht:Hr w)(hD:D Lg)(hz:(Eg m.arr 4 [] m.top).length<=500)(ho:m.out.length=100):Calls Tryz.prog 158 #[.p C.mb,Ac i] w (MP C D X β w (m.pop.fail 10 i) (.tuple #[])):=by
 have HRf:=A0 h.refs;obtain⟨w0,As,Av,Ag,Ao,Aw,nn,lb,C9⟩:=h.Ci i;have HTp:=A0 Av.o.pop;have hq:Pn (Eg m.arr 4 [] m.top)=.tuple #[.s (Eg m.arr 4 [] m.top),.bool true]:=by unfold Pn;rw[Ai]
 unfold B7 at HTp;generalize hl:Eg m.arr 4 [] m.top=l at *;unfold Ac;go_in;go_wp2_with fail
 rw[←As.o];refine HTp.o.mono ?_;rintro e w1 ⟨rfl,h1,k1⟩;have Bn:=h1.B3;have A9:A3 (dx D X) w w1:=Ag.o.trans (Ae k1);have An:=(k1.block _ Ao.o).trans Aw.o;have nn:=Bi An;have HL:=A1m (arr:=m.arr) m.top hf.1 HRf.o.1 (fun l hl v hv=>⟨hf.2.1 l hl v hv,HRf.o.2 l hl v hv⟩) hf.2.2 w1 h1.n8 (ht.Bv hD A9);rw[hl,hq]at HL;obtain⟨oa,oc,o11,oz⟩:=h1.Ud;go_wp2_with fail
 refine HL.mono ?_;rintro e w2 ⟨rfl,Ad⟩;have Bj:=h1.below Ad;have Ct:=(Ad.block _ (A6 An)).trans An;have Au:=A0 Bj.1;have Ab:A3 (dx D X) w w2:=A9.trans (Ae Bj.2);have nn:=Bi Ct;have Ed:=Au.o.B3;obtain⟨oa2,oc2,o11,oz⟩:=Au.o.Ud;have t0:(((m.pop.out.length:Nat):Int)==100)=true:=by show(((m.out.length:Nat):Int)==100)=true;rw[ho];rfl
 exact z0va
def Aef(h:C.Ms D X β w m)(i:Aa)(hf:Xb m)(ht:Hr w)(hD:D Lg)(hz:(Eg m.arr 4 [] m.top).length<=500)(ho:m.out.length<100):Calls Tryz.prog 158 #[.p C.mb,Ac i] w (MP C D X β w ({ m.pop with out:=m.out++[Eg m.arr 4 [] m.top] }) (.tuple #[])):=by
 have HRf:=A0 h.refs;obtain⟨w0,As,Av,Ag,Ao,Aw,nn,lb,C9⟩:=h.Ci i;clear h;have HTp:=A0 Av.o.pop;have HT0:=A0 ht;have hq:Pn (Eg m.arr 4 [] m.top)=.tuple #[.s (Eg m.arr 4 [] m.top),.bool true]:=by unfold Pn;rw[Ai]
 unfold B7 at HTp;clear ht;generalize hl:Eg m.arr 4 [] m.top=l at *;unfold Ac;go_in;go_wp2_with fail
 rw[←As.o];refine HTp.o.mono ?_;rintro e w1 ⟨rfl,h1,k1⟩;have Bn:=h1.B3;have B5:=A0 h1;have A9:A3 (dx D X) w w1:=Ag.o.trans (Ae k1);have An:=(k1.block _ Ao.o).trans Aw.o;have HI1:=A0 An;replace nn:=Bi An;clear h1 k1 An;have HL:=A1m (arr:=m.arr) m.top hf.1 HRf.o.1 (fun l hl v hv=>⟨hf.2.1 l hl v hv,HRf.o.2 l hl v hv⟩) hf.2.2 w1 B5.o.n8 (HT0.o.Bv hD A9);rw[hl,hq]at HL;have HF:=A0 hf;clear hf hq hl HT0 HRf;obtain⟨oa,oc,o11,oz⟩:=B5.o.Ud;go_wp2_with fail
 refine HL.mono ?_;rintro e w2 ⟨rfl,Ad⟩;have Bj:=B5.o.below Ad;have Ct:=(Ad.block _ (A6 HI1.o)).trans HI1.o;have Au:=A0 Bj.1;have Ab:A3 (dx D X) w w2:=A9.trans (Ae Bj.2);have HI2:=A0 Ct;clear nn o11 oz;have nn:=Bi Ct;have Ed:=Au.o.B3;obtain⟨oa2,oc2,o11,oz⟩:=Au.o.Ud;clear Ad Bj Ct HL;have t0:(((m.pop.out.length:Nat):Int)==100)=false:=by show(((m.out.length:Nat):Int)==100)=false;rw[Am];omega
 clear oa2 oc2 o11 oz;obtain⟨ρ,s,x,fv,ab,lp,hv⟩:=Au.o;have hvn:s.on=m.pop.out.length:=(Cm hv.out).1;have o11:=A4 hv.cell 11 (.slice s.oa s.on s.oc) rfl;have hown:=hv.out;rw[hvn]at o11 hown;have HV:=A0 hv;have HNe:∀g,(Value.slice s.oa m.pop.out.length s.oc).ownBlock=some g->g≠C.mb:=fun g hg e=>by
  have:=hv.outo g (by rw[hvn];exact hg);rw[e,hv.one.1]at this;cases this
 have HVn:=A0 hvn;have hlen:m.pop.out.length<=1000000:=by show m.out.length<=1000000;omega
 clear hv hvn;go_wp2_with (at_builtin;refine Lh w2 #[.s l] 9 rfl (.tmp 31) (.tmp 33) 37 rfl 0 1 16 (.string ⟨#[]⟩) Tryz.underlying37 Y9 rfl z4ma _ _ _ rfl rfl hown rfl z56a hlen z4ma (De _) ?_;intro g cap w3 Ev hgrow hat hg;have Ay:=(hgrow.block C.mb Ed (fun e=>HNe _ e.symm rfl)).trans HV.o.cell;have c11:=A4 Ay 11 (.slice s.oa s.on s.oc) rfl;have fz:=By Ay;have lb3:=A6 Ay;have Ba:=A0 Ay;have HO:=A0 Ev;have HG:=A0 hgrow;have HA:=A0 hat;clear hown Ev hgrow hat Ay o11)
 go_wp2;go_end0;have hgb:g≠C.mb:=by
  rcases HA.o with e|e
  ·exact HNe g e
  ·omega
 have hset:∀k,k≠C.mb->(w3.setCell ⟨C.mb,11,none⟩ (.slice (some ⟨g,0,none⟩) (m.pop.out.length+1) cap)).heap[k]?=w3.heap[k]?:=fun k hk=>Bh _ _ _ _ z5ja;have hc:Hq 6 ρ w2 (w3.setCell ⟨C.mb,11,none⟩ (.slice (some ⟨g,0,none⟩) (m.pop.out.length+1) cap)):=⟨by rw[Uk];exact HG.o.os,by rw[Um];exact HG.o.tape,by rw[Ul];exact HG.o.output,by simp[World.setCell];exact HG.o.size,fun k hk h1 h2=>(hset k (fun e=>h1 (by rw[e];exact HV.o.one.1))).trans (HG.o.block k hk (fun e=>h2 (HV.o.outo k (by rw[HVn.o];exact e.symm))))⟩;have hfin:=HV.o.Ard hc (oa:=some ⟨g,0,none⟩) (on:=m.pop.out.length+1) (oc:=cap) (out:=m.pop.out++[l]) (x':=x) (now:=m.pop.now) (fuel:=m.pop.fuel) (cells:=m.pop.cells) (code:=m.pop.code) (line:=m.pop.line) (by rw[heap_set (j:=11) Ba.o];simp[MC.cells])
  (by rw[Ds,T8,Wh];exact Bc HO.o (fun k hk _=>hset k (by simp only[Value.ownBlock,Cg]at hk;rw[←hk];exact hgb)))
  (fun k hk=>by
   simp only[Value.ownBlock,Cg]at hk;rw[←hk,HVn.o];rcases HA.o with e|e
   ·exact .inl e
   ·exact .inr z4ma) HV.o.now (by show(m.out++[l]).length<=100;simp;omega)
 exact⟨rfl,MC.Ms.back ⟨_,_,_,_,_,_,hfin⟩,Ab.trans (Ae (HV.o.Fv hc z4ma))⟩
end
section
open Go.RowKit
open Go.Deep (BT)
variable {C:MC} {D X:Nat->Prop} {w w':World} {m:MS} {β:Nat->Nat} {bets:List Cl}
def A2w(n:Nat):Ca n Bb:=by show(0:Nat)≠4;omega
def Aa3{n:Nat}{l:List PV}(h:∀v∈l,Ca n v)(i:Nat):Ca n ((l[i]?).getD Bb):=by
 rcases N2 i l.length with q|q
 ·rw[Eh q];exact h _ (Ho q)
 ·rw[N6 q];exact A2w n
def A2v{n:Nat}{l:List PV}(h:∀v∈l,Ca n v):Ca n (l.getLastD Bb):=by
 rw[Sf,Zi];exact Aa3 h _
def MC.Ms.vv(h:C.Ms D X β w m):∀v∈m.vals,Ca m.arr.length v:=by
 obtain⟨ρ,s,x,fv,ab,lp,h⟩:=h;exact h.vv.1
def MC.Ms.Qq(h:C.Ms D X β w m):Ca m.arr.length m.top:=A2v h.vv
def MC.Ms.Qp(h:C.Ms D X β w m):Ca m.arr.length m.pop.top:=A2v (fun v hv=>h.vv v (Q3 _ hv))
def MC.Ms.vat(h:C.Ms D X β w m)(i:Int):Ca m.arr.length (m.at' i):=by
 unfold MS.at';split
 ·exact A2w _
 ·exact Aa3 h.vv _
def U6{l:List PV}(h:∀v∈l,F4 v):F4 (l.getLastD Bb):=by
 rw[Sf,Zi];exact Vs h _
def Vq:∀(args:Array Value) (W:World),(callFunc 212 args).run Tryz.prog W=.ok (.enter 212 args) W:=Go.Proofs.enters_of Tryz.func212 z4pa rfl
def Aip:∀(args:Array Value) (W:World),(callFunc 157 args).run Tryz.prog W=.ok (.enter 157 args) W:=Go.Proofs.enters_of Tryz.func157 z4pa rfl
def A0y:∀(args:Array Value) (W:World),(callFunc 159 args).run Tryz.prog W=.ok (.enter 159 args) W:=Go.Proofs.enters_of Tryz.func159 z4pa rfl
def Og:∀(args:Array Value) (W:World),(callFunc 221 args).run Tryz.prog W=.ok (.enter 221 args) W:=Go.Proofs.enters_of Tryz.func221 z4pa rfl
def Y4:∀(args:Array Value) (W:World),(callFunc 222 args).run Tryz.prog W=.ok (.enter 222 args) W:=Go.Proofs.enters_of Tryz.func222 z4pa rfl
def Aiq:∀(args:Array Value) (W:World),(callFunc 148 args).run Tryz.prog W=.ok (.enter 148 args) W:=Go.Proofs.enters_of Tryz.func148 z4pa rfl
def U1:∀(args:Array Value) (W:World),(callFunc 156 args).run Tryz.prog W=.ok (.enter 156 args) W:=Go.Proofs.enters_of Tryz.func156 z4pa rfl
def A0z:∀(args:Array Value) (W:World),(callFunc 216 args).run Tryz.prog W=.ok (.enter 216 args) W:=Go.Proofs.enters_of Tryz.func216 z4pa rfl
def Air:∀(args:Array Value) (W:World),(callFunc 153 args).run Tryz.prog W=.ok (.enter 153 args) W:=Go.Proofs.enters_of Tryz.func153 z4pa rfl
def Ais:∀(args:Array Value) (W:World),(callFunc 219 args).run Tryz.prog W=.ok (.enter 219 args) W:=Go.Proofs.enters_of Tryz.func219 z4pa rfl
def A5u:∀(args:Array Value) (W:World),(callFunc 213 args).run Tryz.prog W=.ok (.enter 213 args) W:=Go.Proofs.enters_of Tryz.func213 z4pa rfl
def Ait:∀(args:Array Value) (W:World),(callFunc 154 args).run Tryz.prog W=.ok (.enter 154 args) W:=Go.Proofs.enters_of Tryz.func154 z4pa rfl
def A5v:∀(args:Array Value) (W:World),(callFunc 160 args).run Tryz.prog W=.ok (.enter 160 args) W:=Go.Proofs.enters_of Tryz.func160 z4pa rfl
def Aiu:∀(args:Array Value) (W:World),(callFunc 149 args).run Tryz.prog W=.ok (.enter 149 args) W:=Go.Proofs.enters_of Tryz.func149 z4pa rfl
def A5y:∀(args:Array Value) (W:World),(callFunc 215 args).run Tryz.prog W=.ok (.enter 215 args) W:=Go.Proofs.enters_of Tryz.func215 z4pa rfl
def A10:∀(args:Array Value) (W:World),(callFunc 218 args).run Tryz.prog W=.ok (.enter 218 args) W:=Go.Proofs.enters_of Tryz.func218 z4pa rfl
def A11:∀(args:Array Value) (W:World),(callFunc 220 args).run Tryz.prog W=.ok (.enter 220 args) W:=Go.Proofs.enters_of Tryz.func220 z4pa rfl
def A13:∀(args:Array Value) (W:World),(callFunc 217 args).run Tryz.prog W=.ok (.enter 217 args) W:=Go.Proofs.enters_of Tryz.func217 z4pa rfl
def Aiw:∀(args:Array Value) (W:World),(callFunc 151 args).run Tryz.prog W=.ok (.enter 151 args) W:=Go.Proofs.enters_of Tryz.func151 z4pa rfl
def A5z:∀(args:Array Value) (W:World),(callFunc 214 args).run Tryz.prog W=.ok (.enter 214 args) W:=Go.Proofs.enters_of Tryz.func214 z4pa rfl
def A14:∀(args:Array Value) (W:World),(callFunc 158 args).run Tryz.prog W=.ok (.enter 158 args) W:=Go.Proofs.enters_of Tryz.func158 z4pa rfl
def Rb:∀(args:Array Value) (W:World),(callFunc 155 args).run Tryz.prog W=.ok (.enter 155 args) W:=Go.Proofs.enters_of Tryz.func155 z4pa rfl
def MR(C:MC)(D X:Nat->Prop)(w:World)(m:MS)(e:Ending)(w':World):Prop:=∃β,MQ C D X β w m (.tuple #[]) e w'
def SA(C:MC)(D X:Nat->Prop)(w:World)(i:Aa)(m':MS):Prop:=∃k,(∀W:World,Calls Tryz.prog 100 #[.n i.op] W fun e w'=>e=.returned (.func (.func k) #[] #[])/\w'=W)/\(∀(args:Array Value) (W:World),(callFunc k args).run Tryz.prog W=.ok (.enter k args) W)/\Calls Tryz.prog k #[.p C.mb,Ac i] w (MR C D X w m')
def SA.of{i:Aa}{m':MS}{k:FuncId}{o:Nat}(ho:i.op=o)(ha:∀W:World,Calls Tryz.prog 100 #[.n o] W fun e w'=>e=.returned (.func (.func k) #[] #[])/\w'=W)(he:∀(args:Array Value) (W:World),(callFunc k args).run Tryz.prog W=.ok (.enter k args) W)(h:Calls Tryz.prog k #[.p C.mb,Ac i] w (MP C D X β w m' (.tuple #[]))):SA C D X w i m':=⟨k,by rw[ho];exact ha,he,h.mono (fun _ _ q=>⟨β,MQ.of q⟩)⟩
def At7(h:C.Ms D X β w m)(i:Aa)(hf:Ec C.P i m)(ho:i.op=0):SA C D X w i (Ap C.P bets i m):=by
 have hn:m.vals.length+1<=90000000000:=by have:=hf.vals;omega
 have e:Ap C.P bets i m=m.push i.v:=by unfold Ap;rw[ho] <;> rfl
 rw[e];exact SA.of ho Abv Aiq (aconst h i hf.ins.2.2.1 hf.ins.2.2.2.1 hn)
def At8(h:C.Ms D X β w m)(i:Aa)(hf:Ec C.P i m)(ho:i.op=1):SA C D X w i (Ap C.P bets i m):=by
 have hn:m.vals.length+1<=90000000000:=by have:=hf.vals;omega
 have e:Ap C.P bets i m=m.push (m.at' (m.now.base+i.arg)):=by unfold Ap;rw[ho] <;> rfl
 rw[e];exact SA.of ho Abw Aiu (Adf h i ⟨by have:=hf.base.1;omega,by have:=hf.base.2;omega⟩ ⟨by have:=hf.ins.1;omega,by have:=hf.ins.2.1;omega⟩ hn (h.vat _))
def Atu(h:C.Ms D X β w m)(i:Aa)(hf:Ec C.P i m)(ho:i.op=3):SA C D X w i (Ap C.P bets i m):=by
 have hn:m.vals.length+1<=90000000000:=by have:=hf.vals;omega
 have e:Ap C.P bets i m=m.pop.put (m.now.base+i.arg) m.top:=by unfold Ap;rw[ho] <;> rfl
 rw[e];exact SA.of ho Ac9 Aiw (Ae8 h i ⟨by have:=hf.base.1;omega,by have:=hf.base.2;omega⟩ ⟨by have:=hf.ins.1;omega,by have:=hf.ins.2.1;omega⟩ h.Qq)
def Aub(h:C.Ms D X β w m)(i:Aa)(hf:Ec C.P i m)(ho:i.op=5):SA C D X w i (Ap C.P bets i m):=by
 have hn:m.vals.length+1<=90000000000:=by have:=hf.vals;omega
 have e:Ap C.P bets i m=m.pop:=by unfold Ap;rw[ho] <;> rfl
 rw[e];exact SA.of ho Aci Air (Acu h i)
def Auc(h:C.Ms D X β w m)(i:Aa)(hf:Ec C.P i m)(ho:i.op=6):SA C D X w i (Ap C.P bets i m):=by
 have hn:m.vals.length+1<=90000000000:=by have:=hf.vals;omega
 have e:Ap C.P bets i m=m.jump i.arg:=by unfold Ap;rw[ho] <;> rfl
 rw[e];exact SA.of ho Acj Ait (Ad5 h i hf.ins.1)
def Aud(h:C.Ms D X β w m)(i:Aa)(hf:Ec C.P i m)(ho:i.op=7):SA C D X w i (Ap C.P bets i m):=by
 have hn:m.vals.length+1<=90000000000:=by have:=hf.vals;omega
 have e:Ap C.P bets i m=(if m.top.y then m.pop.Jd i (fun m'=>if m.top.k=1 then m' else m'.fail 5 i) else if m.top.k=1 then m.pop.jump i.arg else m.pop.fail 5 i):=by unfold Ap;rw[ho] <;> rfl
 rw[e];have hfu:m.fuel<=100000:=by have:=hf.fuel;omega
 cases hy:m.top.y
 ·rw[A1 z4ra];by_cases hk:m.top.k=1
  ·rw[A7 hk];exact SA.of ho Vh Rb (Ae3 h i ho hk hy hf.ins.1)
  ·rw[A1 hk];exact SA.of ho Vh Rb (Ae1 h i ho hk hy)
 ·rw[A7 rfl];unfold MS.Jd;by_cases hz:m.fuel=0
  ·rw[A7 (by exact hz)];exact SA.of ho Vh Rb (Ae4 h i ho hy hz)
  ·rw[A1 (by exact hz)];by_cases hk:m.top.k=1
   ·simp only[A7 hk];exact SA.of ho Vh Rb (Ae5 h i ho hk hy hz hfu)
   ·simp only[A1 hk];exact SA.of ho Vh Rb (Ae2 h i ho hk hy hz hfu)
def Aue(h:C.Ms D X β w m)(i:Aa)(hf:Ec C.P i m)(ho:i.op=8):SA C D X w i (Ap C.P bets i m):=by
 have hn:m.vals.length+1<=90000000000:=by have:=hf.vals;omega
 have e:Ap C.P bets i m=(if m.top.k=1 then(if m.top.y then m.pop else m.pop.jump i.arg) else m.pop.fail 5 i):=by unfold Ap;rw[ho] <;> rfl
 rw[e];by_cases hk:m.top.k=1
 ·rw[A7 hk];cases hy:m.top.y
  ·rw[A1 z4ra];exact SA.of ho j9 Rb (Aeh h i ho hk hy hf.ins.1)
  ·rw[A7 rfl];exact SA.of ho j9 Rb (Aei h i ho hk hy)
 ·rw[A1 hk];exact SA.of ho j9 Rb (Aeg h i ho hk)
def Auf(h:C.Ms D X β w m)(i:Aa)(hf:Ec C.P i m)(ho:i.op=9):SA C D X w i (Ap C.P bets i m):=by
 have hn:m.vals.length+1<=90000000000:=by have:=hf.vals;omega
 have e:Ap C.P bets i m=(if m.top.k=1 then(if m.top.y then m.pop else m.jump i.arg) else m.fail 5 i):=by unfold Ap;rw[ho] <;> rfl
 rw[e];by_cases hk:m.top.k=1
 ·rw[A7 hk];cases hy:m.top.y
  ·rw[A1 z4ra];exact SA.of ho k7 U1 (Aco h i ho hk hy hf.ins.1)
  ·rw[A7 rfl];exact SA.of ho k7 U1 (Acp h i ho hk hy)
 ·rw[A1 hk];exact SA.of ho k7 U1 (A4d h i hk)
def At9(h:C.Ms D X β w m)(i:Aa)(hf:Ec C.P i m)(ho:i.op=10):SA C D X w i (Ap C.P bets i m):=by
 have hn:m.vals.length+1<=90000000000:=by have:=hf.vals;omega
 have e:Ap C.P bets i m=(if m.top.k=1 then(if m.top.y then m.jump i.arg else m.pop) else m.fail 5 i):=by unfold Ap;rw[ho] <;> rfl
 rw[e];by_cases hk:m.top.k=1
 ·rw[A7 hk];cases hy:m.top.y
  ·rw[A1 z4ra];exact SA.of ho b5 U1 (Acm h i ho hk hy)
  ·rw[A7 rfl];exact SA.of ho b5 U1 (Acn h i ho hk hy hf.ins.1)
 ·rw[A1 hk];exact SA.of ho b5 U1 (A4d h i hk)
def Ata(h:C.Ms D X β w m)(i:Aa)(hf:Ec C.P i m)(ho:i.op=11):SA C D X w i (Ap C.P bets i m):=by
 have hn:m.vals.length+1<=90000000000:=by have:=hf.vals;omega
 have e:Ap C.P bets i m=(if m.top.k=1 then m else m.fail 5 i):=by unfold Ap;rw[ho] <;> rfl
 rw[e];exact SA.of ho Abx Aip (Abq h i)
def Atb(h:C.Ms D X β w m)(i:Aa)(hf:Ec C.P i m)(ho:i.op=12):SA C D X w i (Ap C.P bets i m):=by
 have hn:m.vals.length+1<=90000000000:=by have:=hf.vals;omega
 have e:Ap C.P bets i m=(if m.both 3 then m.join i else m.ints i (fun a b m'=>m'.push (ofInt (wr (a+b))))):=by unfold Ap;rw[ho] <;> rfl
 rw[e];have t1:m.top.t.length<=100000:=by have:=(U6 hf.str).1;unfold MS.top;omega
 have t2:m.pop.top.t.length<=100000:=Fu (U6 (fun v hv=>hf.str v (Q3 _ hv))).1 z4ma;cases h3:m.both 3
 ·rw[A1 z4ra];unfold MS.ints;cases h2:m.both 2
  ·rw[A1 z4ra];exact SA.of ho Xl Vq (Abl h i ho h3 h2)
  ·rw[A7 rfl];exact SA.of ho Xl Vq (Abp h i ho h3 h2 hn)
 ·rw[A7 rfl];unfold MS.join MS.two;dsimp only;by_cases hz:100<m.pop.top.t.length+m.top.t.length
  ·rw[A7 hz];exact SA.of ho Xl Vq (Abn h i ho h3 t2 t1 hz)
  ·rw[A1 hz];exact SA.of ho Xl Vq (Abo h i ho h3 z4ma hn)
def Atc(h:C.Ms D X β w m)(i:Aa)(hf:Ec C.P i m)(ho:i.op=13):SA C D X w i (Ap C.P bets i m):=by
 have hn:m.vals.length+1<=90000000000:=by have:=hf.vals;omega
 have e:Ap C.P bets i m=m.two fun a b m'=>m'.push (ofInt (wr (a.n+b.n))):=by unfold Ap;rw[ho] <;> rfl
 rw[e];exact SA.of ho Aby Vq (Abm h i ho hn)
def Atd(h:C.Ms D X β w m)(i:Aa)(hf:Ec C.P i m)(ho:i.op=14):SA C D X w i (Ap C.P bets i m):=by
 have hn:m.vals.length+1<=90000000000:=by have:=hf.vals;omega
 have e:Ap C.P bets i m=m.join i:=by unfold Ap;rw[ho] <;> rfl
 rw[e];have t1:m.top.t.length<=100000:=by have:=(U6 hf.str).1;unfold MS.top;omega
 have t2:m.pop.top.t.length<=100000:=Fu (U6 (fun v hv=>hf.str v (Q3 _ hv))).1 z4ma;unfold MS.join MS.two;dsimp only;by_cases hz:100<m.pop.top.t.length+m.top.t.length
 ·rw[A7 hz];exact SA.of ho A44 A5u (A4f h i t2 t1 hz)
 ·rw[A1 hz];exact SA.of ho A44 A5u (A4g h i z4ma hn)
def Ate(h:C.Ms D X β w m)(i:Aa)(hf:Ec C.P i m)(ho:i.op=15):SA C D X w i (Ap C.P bets i m):=by
 have hn:m.vals.length+1<=90000000000:=by have:=hf.vals;omega
 have e:Ap C.P bets i m=m.ints i (fun a b m'=>m'.push (ofInt (wr (a-b)))):=by unfold Ap;rw[ho] <;> rfl
 rw[e];exact SA.of ho Abz A5z (Aea h i ho hn)
def Atf(h:C.Ms D X β w m)(i:Aa)(hf:Ec C.P i m)(ho:i.op=16):SA C D X w i (Ap C.P bets i m):=by
 have hn:m.vals.length+1<=90000000000:=by have:=hf.vals;omega
 have e:Ap C.P bets i m=m.two fun a b m'=>m'.push (ofInt (wr (a.n-b.n))):=by unfold Ap;rw[ho] <;> rfl
 rw[e];exact SA.of ho Ac0 A5z (Aeb h i ho hn)
def Atg(h:C.Ms D X β w m)(i:Aa)(hf:Ec C.P i m)(ho:i.op=17):SA C D X w i (Ap C.P bets i m):=by
 have hn:m.vals.length+1<=90000000000:=by have:=hf.vals;omega
 have e:Ap C.P bets i m=m.ints i (fun a b m'=>m'.push (ofInt (wr (a*b)))):=by unfold Ap;rw[ho] <;> rfl
 rw[e];exact SA.of ho Ac1 A5y (Adi h i ho hn)
def Ath(h:C.Ms D X β w m)(i:Aa)(hf:Ec C.P i m)(ho:i.op=18):SA C D X w i (Ap C.P bets i m):=by
 have hn:m.vals.length+1<=90000000000:=by have:=hf.vals;omega
 have e:Ap C.P bets i m=m.two fun a b m'=>m'.push (ofInt (wr (a.n*b.n))):=by unfold Ap;rw[ho] <;> rfl
 rw[e];exact SA.of ho Ac2 A5y (Adj h i ho hn)
def Ati(h:C.Ms D X β w m)(i:Aa)(hf:Ec C.P i m)(ho:i.op=19):SA C D X w i (Ap C.P bets i m):=by
 have hn:m.vals.length+1<=90000000000:=by have:=hf.vals;omega
 have e:Ap C.P bets i m=m.ints i (fun a b m'=>if b=0 then m'.fail 6 i else m'.push (ofInt (wr (a.tdiv b)))):=by unfold Ap;rw[ho] <;> rfl
 rw[e];exact SA.of ho Ac3 A0z (Acq h i ho hn)
def Atk(h:C.Ms D X β w m)(i:Aa)(hf:Ec C.P i m)(ho:i.op=20):SA C D X w i (Ap C.P bets i m):=by
 have hn:m.vals.length+1<=90000000000:=by have:=hf.vals;omega
 have e:Ap C.P bets i m=m.two fun a b m'=>if b.n=0 then m'.fail 6 i else m'.push (ofInt (wr (a.n.tdiv b.n))):=by unfold Ap;rw[ho] <;> rfl
 rw[e];unfold MS.two;dsimp only;by_cases hz:m.top.n=0
 ·rw[A7 hz];exact SA.of ho A45 A0z (Acs h i ho hz)
 ·rw[A1 hz];exact SA.of ho A45 A0z (Acr h i ho hz hn)
def Atl(h:C.Ms D X β w m)(i:Aa)(hf:Ec C.P i m)(ho:i.op=21):SA C D X w i (Ap C.P bets i m):=by
 have hn:m.vals.length+1<=90000000000:=by have:=hf.vals;omega
 have e:Ap C.P bets i m=m.ints i (fun a b m'=>if b=0 then m'.fail 6 i else m'.push (ofInt (a.tmod b))):=by unfold Ap;rw[ho] <;> rfl
 rw[e];exact SA.of ho Ac5 A13 (Adx h i ho hn)
def Atm(h:C.Ms D X β w m)(i:Aa)(hf:Ec C.P i m)(ho:i.op=22):SA C D X w i (Ap C.P bets i m):=by
 have hn:m.vals.length+1<=90000000000:=by have:=hf.vals;omega
 have e:Ap C.P bets i m=m.two fun a b m'=>if b.n=0 then m'.fail 6 i else m'.push (ofInt (a.n.tmod b.n)):=by unfold Ap;rw[ho] <;> rfl
 rw[e];unfold MS.two;dsimp only;by_cases hz:m.top.n=0
 ·rw[A7 hz];exact SA.of ho A46 A13 (Adz h i ho hz)
 ·rw[A1 hz];exact SA.of ho A46 A13 (Ady h i ho hz hn)
def Atn(h:C.Ms D X β w m)(i:Aa)(hf:Ec C.P i m)(ho:i.op=23):SA C D X w i (Ap C.P bets i m):=by
 have hn:m.vals.length+1<=90000000000:=by have:=hf.vals;omega
 have e:Ap C.P bets i m=(if m.top.k=2 then m.pop.push (ofInt (wr (-m.top.n))) else m.fail 5 i):=by unfold Ap;rw[ho] <;> rfl
 rw[e];by_cases hk:m.top.k=2
 ·rw[A7 hk];exact SA.of ho A47 A10 (Adm h i ho hk hn)
 ·rw[A1 hk];exact SA.of ho A47 A10 (Adk h i ho hk)
def Ato(h:C.Ms D X β w m)(i:Aa)(hf:Ec C.P i m)(ho:i.op=24):SA C D X w i (Ap C.P bets i m):=by
 have hn:m.vals.length+1<=90000000000:=by have:=hf.vals;omega
 have e:Ap C.P bets i m=m.pop.push (ofInt (wr (-m.top.n))):=by unfold Ap;rw[ho] <;> rfl
 rw[e];exact SA.of ho Ac6 A10 (Adl h i ho hn)
def Atp(h:C.Ms D X β w m)(i:Aa)(hf:Ec C.P i m)(ho:i.op=25):SA C D X w i (Ap C.P bets i m):=by
 have hn:m.vals.length+1<=90000000000:=by have:=hf.vals;omega
 have e:Ap C.P bets i m=m.pop.pop.push (ofBool (m.pop.top.same m.top)):=by unfold Ap;rw[ho] <;> rfl
 rw[e];exact SA.of ho Ac7 Ais (A4e h i h.Qp h.Qq hn)
def Atq(h:C.Ms D X β w m)(i:Aa)(hf:Ec C.P i m)(ho:i.op=26):SA C D X w i (Ap C.P bets i m):=by
 have hn:m.vals.length+1<=90000000000:=by have:=hf.vals;omega
 have e:Ap C.P bets i m=m.pop.pop.push (ofBool (!m.pop.top.same m.top)):=by unfold Ap;rw[ho] <;> rfl
 rw[e];exact SA.of ho Ac8 A11 (Adp h i ho h.Qp h.Qq hn)
def Atr(h:C.Ms D X β w m)(i:Aa)(hf:Ec C.P i m)(ho:i.op=27):SA C D X w i (Ap C.P bets i m):=by
 have hn:m.vals.length+1<=90000000000:=by have:=hf.vals;omega
 have e:Ap C.P bets i m=(if m.top.k=1 then m.pop.push (ofBool (!m.top.y)) else m.pop.fail 5 i):=by unfold Ap;rw[ho] <;> rfl
 rw[e];by_cases hk:m.top.k=1
 ·rw[A7 hk];exact SA.of ho A48 A11 (Ado h i ho hk hn)
 ·rw[A1 hk];exact SA.of ho A48 A11 (Adn h i ho hk)
def Ats(h:C.Ms D X β w m)(i:Aa)(hf:Ec C.P i m)(ho:i.op=28):SA C D X w i (Ap C.P bets i m):=by
 have hn:m.vals.length+1<=90000000000:=by have:=hf.vals;omega
 have e:Ap C.P bets i m=(if m.both 2||m.both 3 then m.two fun a b m'=>m'.push (ofBool (before b a)) else m.fail 5 i):=by unfold Ap;rw[ho] <;> rfl
 rw[e];cases h2:m.both 2
 ·cases h3:m.both 3
  ·rw[A1 z4ra];exact SA.of ho b6 Og (Xu h i h2 h3)
  ·rw[A7 z4ra];exact SA.of ho b6 Og (Agi h i ho h2 h3 hn)
 ·rw[A7 z4ra];exact SA.of ho b6 Og (Agh h i ho h2 hn)
def Att(h:C.Ms D X β w m)(i:Aa)(hf:Ec C.P i m)(ho:i.op=29):SA C D X w i (Ap C.P bets i m):=by
 have hn:m.vals.length+1<=90000000000:=by have:=hf.vals;omega
 have e:Ap C.P bets i m=(if m.both 2||m.both 3 then m.two fun a b m'=>m'.push (ofBool (before a b)) else m.fail 5 i):=by unfold Ap;rw[ho] <;> rfl
 rw[e];cases h2:m.both 2
 ·cases h3:m.both 3
  ·rw[A1 z4ra];exact SA.of ho b7 Og (Xu h i h2 h3)
  ·rw[A7 z4ra];exact SA.of ho b7 Og (Ago h i ho h2 h3 hn)
 ·rw[A7 z4ra];exact SA.of ho b7 Og (Agn h i ho h2 hn)
def Atv(h:C.Ms D X β w m)(i:Aa)(hf:Ec C.P i m)(ho:i.op=30):SA C D X w i (Ap C.P bets i m):=by
 have hn:m.vals.length+1<=90000000000:=by have:=hf.vals;omega
 have e:Ap C.P bets i m=(if m.both 2||m.both 3 then m.two fun a b m'=>m'.push (ofBool (!before a b)) else m.fail 5 i):=by unfold Ap;rw[ho] <;> rfl
 rw[e];cases h2:m.both 2
 ·cases h3:m.both 3
  ·rw[A1 z4ra];exact SA.of ho b8 Og (Xu h i h2 h3)
  ·rw[A7 z4ra];exact SA.of ho b8 Og (Agg h i ho h2 h3 hn)
 ·rw[A7 z4ra];exact SA.of ho b8 Og (Agf h i ho h2 hn)
def Atw(h:C.Ms D X β w m)(i:Aa)(hf:Ec C.P i m)(ho:i.op=31):SA C D X w i (Ap C.P bets i m):=by
 have hn:m.vals.length+1<=90000000000:=by have:=hf.vals;omega
 have e:Ap C.P bets i m=(if m.both 2||m.both 3 then m.two fun a b m'=>m'.push (ofBool (!before b a)) else m.fail 5 i):=by unfold Ap;rw[ho] <;> rfl
 rw[e];cases h2:m.both 2
 ·cases h3:m.both 3
  ·rw[A1 z4ra];exact SA.of ho b9 Og (Xu h i h2 h3)
  ·rw[A7 z4ra];exact SA.of ho b9 Og (Agl h i ho h2 h3 hn)
 ·rw[A7 z4ra];exact SA.of ho b9 Og (Agk h i ho h2 hn)
def Atx(h:C.Ms D X β w m)(i:Aa)(hf:Ec C.P i m)(ho:i.op=32):SA C D X w i (Ap C.P bets i m):=by
 have hn:m.vals.length+1<=90000000000:=by have:=hf.vals;omega
 have e:Ap C.P bets i m=m.two fun a b m'=>m'.push (ofBool (decide (b.n<a.n))):=by unfold Ap;rw[ho] <;> rfl
 rw[e];exact SA.of ho Aca Y4 (Ad2 h i ho hn)
def Aty(h:C.Ms D X β w m)(i:Aa)(hf:Ec C.P i m)(ho:i.op=33):SA C D X w i (Ap C.P bets i m):=by
 have hn:m.vals.length+1<=90000000000:=by have:=hf.vals;omega
 have e:Ap C.P bets i m=m.two fun a b m'=>m'.push (ofBool (decide (a.n<b.n))):=by unfold Ap;rw[ho] <;> rfl
 rw[e];exact SA.of ho Acb Y4 (Adh h i ho hn)
def Atz(h:C.Ms D X β w m)(i:Aa)(hf:Ec C.P i m)(ho:i.op=34):SA C D X w i (Ap C.P bets i m):=by
 have hn:m.vals.length+1<=90000000000:=by have:=hf.vals;omega
 have e:Ap C.P bets i m=m.two fun a b m'=>m'.push (ofBool (decide (b.n<=a.n))):=by unfold Ap;rw[ho] <;> rfl
 rw[e];exact SA.of ho Acd Y4 (Ad1 h i ho hn)
def Au0(h:C.Ms D X β w m)(i:Aa)(hf:Ec C.P i m)(ho:i.op=35):SA C D X w i (Ap C.P bets i m):=by
 have hn:m.vals.length+1<=90000000000:=by have:=hf.vals;omega
 have e:Ap C.P bets i m=m.two fun a b m'=>m'.push (ofBool (decide (a.n<=b.n))):=by unfold Ap;rw[ho] <;> rfl
 rw[e];exact SA.of ho Ace Y4 (Ad9 h i ho hn)
def Au9(h:C.Ms D X β w m)(i:Aa)(hf:Ec C.P i m)(ho:i.op=43):SA C D X w i (Ap C.P bets i m):=by
 have hn:m.vals.length+1<=90000000000:=by have:=hf.vals;omega
 have e:Ap C.P bets i m={ (m.cut m.now.base).push Bb with now:=m.calls.getLastD ⟨[],0,0⟩,calls:=m.calls.dropLast }:=by unfold Ap;rw[ho] <;> rfl
 rw[e];exact SA.of ho Acg A5v (Adq h i ho hn)
def Aua(h:C.Ms D X β w m)(i:Aa)(hf:Ec C.P i m)(ho:i.op=44):SA C D X w i (Ap C.P bets i m):=by
 have hn:m.vals.length+1<=90000000000:=by have:=hf.vals;omega
 have e:Ap C.P bets i m={ (m.pop.cut m.now.base).push m.top with now:=m.calls.getLastD ⟨[],0,0⟩,calls:=m.calls.dropLast }:=by unfold Ap;rw[ho] <;> rfl
 rw[e];exact SA.of ho Ach A5v (Ae0 h i ho h.Qq hn)
def Au7(h:C.Ms D X β w m)(i:Aa)(hf:Ec C.P i m)(ht:Hr w)(hD:D Lg)(ho:i.op=41):SA C D X w i (Ap C.P bets i m):=by
 have hn:m.vals.length+1<=90000000000:=by have:=hf.vals;omega
 have e:Ap C.P bets i m=m.Nn i:=by unfold Ap;rw[ho] <;> rfl
 rw[e];have hft:Xb m:=⟨U6 hf.str,hf.arv,fun l hl=>by have:=hf.ars l hl;omega⟩;unfold MS.Nn;by_cases hz:500<(Eg m.arr 4 [] m.top).length
 ·rw[A7 (.inl hz)];exact SA.of ho j7 A14 (Aed h i hft ht hD hz)
 ·by_cases hq:m.out.length=100
  ·rw[A7 (.inr hq)];exact SA.of ho j7 A14 (Aee h i hft ht hD z4ma hq)
  ·rw[Ai];exact SA.of ho j7 A14 (Aef h i hft ht hD z4ma (by have:=hf.out;omega))
def Au8(h:C.Ms D X β w m)(i:Aa)(hf:Ec C.P i m)(hb:H7 X w (.slice C.ba C.bn C.bc) bets)(hB:A3u C D bets m)(ho:i.op=42):SA C D X w i (Ap C.P bets i m):=by
 have hfu:m.fuel<=100000:=by have:=hf.fuel;omega
 have hlt:=hf.ins.2.2.2.2.2.1 ho;have hfn:=Eh hlt;have hll:i.arg.toNat<m.lots.length:=by rw[hf.lotn];exact hlt
 have hl:=Eh hll;by_cases hz:m.fuel=0
 ·have e:Ap C.P bets i m=m.fail 8 i:=by
   unfold Ap;rw[ho];show MS.Jd _ _ _=_;unfold MS.Jd;rw[A7 hz]
  rw[e];exact SA.of ho j8 A0y (Abt h i hz)
 by_cases hd:m.calls.length=40
 ·have e:Ap C.P bets i m={ m with fuel:=m.fuel-1 }.fail 9 i:=by
   unfold Ap;rw[ho];show MS.Jd _ _ _=_;unfold MS.Jd;rw[A1 hz];dsimp only;rw[A7 hd]
  rw[e];exact SA.of ho j8 A0y (Abs h i hz hfu hd)
 ·rw[Abu m i ho hz hd hfn];refine⟨_,by rw[ho];exact j8,A0y,(Abr h i hz hfu (by have:=hf.depth;omega) (j:=i.arg.toNat) (by have:=hf.ins.1;omega) hfn hl hb hf.fns (hB _ _ _ hfn hl) hf.vals).mono (fun _ _ q=>⟨β,q⟩)⟩
def Aiv:∀(args:Array Value) (W:World),(callFunc 150 args).run Tryz.prog W=.ok (.enter 150 args) W:=Go.Proofs.enters_of Tryz.func150 z4pa rfl
def Aix:∀(args:Array Value) (W:World),(callFunc 152 args).run Tryz.prog W=.ok (.enter 152 args) W:=Go.Proofs.enters_of Tryz.func152 z4pa rfl
def A5x:∀(args:Array Value) (W:World),(callFunc 161 args).run Tryz.prog W=.ok (.enter 161 args) W:=Go.Proofs.enters_of Tryz.func161 z4pa rfl
def A5w:∀(args:Array Value) (W:World),(callFunc 162 args).run Tryz.prog W=.ok (.enter 162 args) W:=Go.Proofs.enters_of Tryz.func162 z4pa rfl
def A12:∀(args:Array Value) (W:World),(callFunc 163 args).run Tryz.prog W=.ok (.enter 163 args) W:=Go.Proofs.enters_of Tryz.func163 z4pa rfl
def U2:∀(args:Array Value) (W:World),(callFunc 164 args).run Tryz.prog W=.ok (.enter 164 args) W:=Go.Proofs.enters_of Tryz.func164 z4pa rfl
def U3:∀(args:Array Value) (W:World),(callFunc 165 args).run Tryz.prog W=.ok (.enter 165 args) W:=Go.Proofs.enters_of Tryz.func165 z4pa rfl
def MC.Ms.vgl(h:C.Ms D X β w m):∀v∈m.gl,Ca m.arr.length v:=by
 obtain⟨ρ,s,x,fv,ab,lp,h⟩:=h;exact h.vv.2.1
def MC.Ms.var(h:C.Ms D X β w m):∀l∈m.arr,∀v∈l,Ca m.arr.length v:=by
 obtain⟨ρ,s,x,fv,ab,lp,h⟩:=h;exact h.vv.2.2
def A2u{n:Nat}{v:PV}(h:Ca n v)(hk:v.k=4):∃r,v.r=some r/\r<n:=by
 exact z31a
def A7k{α:Type}(l:List α)(r:Nat)(h:r<l.length)(f:α->α):l.modify r f=l.set r (f l[r]):=by
 apply List.ext_getElem?;intro k;rw[A3k,A3n];by_cases e:r=k
 ·subst e;rw[A7 rfl,A7 h,Eh h];simp
 ·rw[A1 e];simp[e]
def Atj(h:C.Ms D X β w m)(i:Aa)(hf:Ec C.P i m)(ho:i.op=2):SA C D X w i (Ap C.P bets i m):=by
 have hn:m.vals.length+1<=90000000000:=by have:=hf.vals;omega
 have hg:=hf.nice (.inl ho);have e:Ap C.P bets i m=m.push ((m.gl[i.arg.toNat]?).getD Bb):=by unfold Ap;rw[ho] <;> rfl
 rw[e,Eh hg,A3o];exact SA.of ho Ac4 Aiv (Adg h i (k:=i.arg.toNat) (by have:=hf.ins.1;omega) hg hn (h.vgl _ (Ho hg)))
def Au5(h:C.Ms D X β w m)(i:Aa)(hf:Ec C.P i m)(ho:i.op=4):SA C D X w i (Ap C.P bets i m):=by
 have hg:=hf.nice (.inr ho);have e:Ap C.P bets i m={ m.pop with gl:=m.gl.set i.arg.toNat m.top }:=by unfold Ap;rw[ho] <;> rfl
 rw[e];exact SA.of ho Acf Aix (Ae9 h i (k:=i.arg.toNat) (by have:=hf.ins.1;omega) hg h.Qq)
def Au1(h:C.Ms D X β w m)(i:Aa)(hf:Ec C.P i m)(ho:i.op=36):SA C D X w i (Ap C.P bets i m):=by
 have hi:i.arg=(i.arg.toNat:Nat):=by have:=hf.ins.1;omega
 have hl:=hf.vals;have hc:=hf.cells;generalize i.arg.toNat=n at *;have e:Ap C.P bets i m=m.room (n:Nat) i (fun m'=>MS.push (Pp m'.arr.length) { (MS.cut ((m'.vals.length:Int)-(n:Nat)) m') with arr:=m'.arr++[(List.range n).map (fun(j:Nat)=>m'.at' ((m'.vals.length:Int)-(n:Nat)+j))] }):=by
  unfold Ap;rw[ho,hi] <;> rfl
 rw[e];unfold MS.room;by_cases hz:(500:Int)-m.cells<(n:Nat)
 ·rw[A7 hz];exact SA.of ho A49 A5x (Adc h i hi z4ma hc)
 ·rw[A1 hz];dsimp only;rw[O8];refine⟨_,by rw[ho];exact A49,A5x,(Ade h i hi z4ma z4ma).mono ?_⟩;rintro e w' ⟨rfl,b,h1,h2⟩;exact⟨_,rfl,⟨D,fun _ q=>q,h1⟩,h2⟩
def Au2(h:C.Ms D X β w m)(i:Aa)(hf:Ec C.P i m)(ho:i.op=37):SA C D X w i (Ap C.P bets i m):=by
 have hn:=hf.vals;have e:Ap C.P bets i m=(match sizeOf' m m.top with|some n=>m.pop.push (ofInt (n:Nat))|none=>m.pop.fail 5 i):=by unfold Ap;rw[ho] <;> rfl
 rw[e];cases hq:sizeOf' m m.top with
 | some n=>exact SA.of ho A4a A5w (Adb h i h.Qq (n:=n) (by unfold Gj;rw[show sizeOf' m.pop m.top=some n from hq];rfl) z4ma)
 | none=>exact SA.of ho A4a A5w (Ada h i h.Qq (by unfold Gj;rw[show sizeOf' m.pop m.top=none from hq];rfl))
def Au3(h:C.Ms D X β w m)(i:Aa)(hf:Ec C.P i m)(ho:i.op=38):SA C D X w i (Ap C.P bets i m):=by
 have hn:=hf.vals;have hc:=hf.cells;have e:Ap C.P bets i m=(if m.pop.top.k=4 then m.pop.pop.room 1 i (fun m2=>MS.push m.top { m2 with arr:=m2.arr.modify (m.pop.top.r.getD 0) (·++[m.top]) }) else m.pop.pop.fail 5 i):=by unfold Ap;rw[ho] <;> rfl
 rw[e];by_cases hk:m.pop.top.k=4
 ·rw[A7 hk];obtain⟨r,hr,hra⟩:=A2u h.Qp hk;unfold MS.room;by_cases hz:(500:Int)-m.pop.pop.cells<1
  ·rw[A7 hz];exact SA.of ho j0 A12 (Adu h i hk (by have:m.pop.pop.cells=m.cells:=rfl;omega) hc)
  ·rw[A1 hz,hr];have hz':m.cells+1<=500:=by have:m.pop.pop.cells=m.cells:=rfl;omega
   have e2:(m.arr.modify r (·++[m.top]))=m.arr.set r (m.arr[r]++[m.top]):=A7k _ _ hra _;have:=SA.of ho j0 A12 (Adv h i hr hra hk hz' z4ma (by have:=hf.ars _ (Ho hra);omega) h.Qq);rw[←e2]at this;exact this
 ·rw[A1 hk];exact SA.of ho j0 A12 (Adw h i hk)
def A9n{m:MS}{v:PV}(h:sizeOf' m v=none):Gj m v=.tuple #[.i 0,.bool false]:=by unfold Gj;rw[h];rfl
def Ur{m:MS}{v:PV}{n:Nat}(h:sizeOf' m v=some n):Gj m v=.tuple #[.n n,.bool true]:=by unfold Gj;rw[h];rfl
def A98{m:MS}{v:PV}{n r:Nat}(h:sizeOf' m v=some n)(hk:v.k=4)(hr:v.r=some r)(hra:r<m.arr.length):n=m.arr[r].length:=by
 unfold sizeOf' at h;rw[Ai,A7 hk,hr]at h;injection h with h;rw[←h];show(((m.arr)[r]?).getD []).length=_;rw[Eh hra];rfl
def Au4(h:C.Ms D X β w m)(i:Aa)(hf:Ec C.P i m)(ho:i.op=39):SA C D X w i (Ap C.P bets i m):=by
 have hn:=hf.vals;have e:Ap C.P bets i m=m.pop.pop.place m.pop.top m.top i (fun m2=>m2.push (if m.pop.top.k=3 then ofStr ((m.pop.top.t.drop m.top.n.toNat).take 1) else(((m2.arr[m.pop.top.r.getD 0]?).getD [])[m.top.n.toNat]?).getD Bb)):=by unfold Ap;rw[ho] <;> rfl
 rw[e];unfold MS.place;cases hq:sizeOf' m.pop.pop m.pop.top with
 | none=>exact SA.of ho Tt U2 (Xm h i (fun W hs=>A7n hs _ _ i h.Qp (A9n hq)))
 | some n=>
  dsimp only;by_cases h2:m.top.k=2
  ·rw[A1 (by simpa using h2)];by_cases hlo:m.top.n<0
   ·rw[A7 (.inl hlo)];exact SA.of ho Tt U2 (Xm h i (fun W hs=>A7m hs _ _ i h.Qp (Ur hq) h2 hlo))
   ·by_cases hhi:(n:Int)<=m.top.n
    ·rw[A7 (.inr hhi)];exact SA.of ho Tt U2 (Xm h i (fun W hs=>A7l hs _ _ i h.Qp (Ur hq) h2 hlo hhi))
    ·rw[Ai];by_cases h3:m.pop.top.k=3
     ·have hnl:n=m.pop.top.t.length:=by
       unfold sizeOf' at hq;rw[A7 h3]at hq;injection hq with hq;exact hq.symm
      have htl:m.pop.top.t.length<=2000:=(U6 (fun v hv=>hf.str v (Q3 _ hv))).1;simp only[A7 h3];exact SA.of ho Tt U2 (Ad4 h i h3 h.Qp h2 (k:=m.top.n.toNat) z4ma z4ma z4ma hf.vals)
     simp only[A1 h3];have h4:m.pop.top.k=4:=by
      unfold sizeOf' at hq;rw[A1 h3]at hq;by_cases q:m.pop.top.k=4
      ·exact q
      ·rw[A1 q]at hq;cases hq
     obtain⟨r,hr,hra⟩:=A2u h.Qp h4;have hnl:=A98 hq h4 hr hra;have hnl':n=m.arr[r].length:=hnl;have hki:m.top.n.toNat<m.arr[r].length:=by omega
     have:=SA.of ho Tt U2 (Ad3 h i hr hra h4 h2 (k:=m.top.n.toNat) z4ma hki z4ma (h.var _ (Ho hra) _ (Ho hki)));rw[hr];show SA C D X w i (m.pop.pop.push (((((m.arr)[r]?).getD [])[m.top.n.toNat]?).getD Bb));rw[Eh hra,A3o,Eh hki,A3o];exact this
  ·rw[A7 h2];exact SA.of ho Tt U2 (Xm h i (fun W hs=>A7o hs _ _ i h.Qp (Ur hq) h2))
def MC.Ms.Wv(h:C.Ms D X β w m):Ca m.arr.length m.pop.pop.top:=A2v (fun v hv=>h.vv v (Q3 _ (Q3 _ hv)))
def Au6(h:C.Ms D X β w m)(i:Aa)(ho:i.op=40):SA C D X w i (Ap C.P bets i m):=by
 have e:Ap C.P bets i m=(if m.pop.pop.top.k=4 then m.pop.pop.pop.place m.pop.pop.top m.pop.top i (fun m2=>{ m2 with arr:=m2.arr.modify (m.pop.pop.top.r.getD 0) (·.set m.pop.top.n.toNat m.top) }) else m.pop.pop.pop.fail 5 i):=by unfold Ap;rw[ho] <;> rfl
 rw[e];by_cases h4:m.pop.pop.top.k=4
 ·rw[A7 h4];obtain⟨r,hr,hra⟩:=A2u h.Wv h4;unfold MS.place;cases hq:sizeOf' m.pop.pop.pop m.pop.pop.top with
  | none=>exact SA.of ho Tu U3 (Xn h i h4 (fun X' W hs=>A7n hs _ _ i h.Wv (A9n hq)))
  | some n=>
   dsimp only;by_cases h2:m.pop.top.k=2
   ·rw[A1 (by simpa using h2)];by_cases hlo:m.pop.top.n<0
    ·rw[A7 (.inl hlo)];exact SA.of ho Tu U3 (Xn h i h4 (fun X' W hs=>A7m hs _ _ i h.Wv (Ur hq) h2 hlo))
    ·by_cases hhi:(n:Int)<=m.pop.top.n
     ·rw[A7 (.inr hhi)];exact SA.of ho Tu U3 (Xn h i h4 (fun X' W hs=>A7l hs _ _ i h.Wv (Ur hq) h2 hlo hhi))
     ·rw[Ai,hr];have hnl:n=m.arr[r].length:=A98 hq h4 hr hra;have hki:m.pop.top.n.toNat<m.arr[r].length:=by omega
      have e2:(m.arr.modify r (·.set m.pop.top.n.toNat m.top))=m.arr.set r (m.arr[r].set m.pop.top.n.toNat m.top):=A7k _ _ hra _;have:=SA.of ho Tu U3 (Ae6 h i hr hra h4 h2 (k:=m.pop.top.n.toNat) z4ma hki h.Qq);rw[←e2]at this;exact this
   ·rw[A7 h2];exact SA.of ho Tu U3 (Xn h i h4 (fun X' W hs=>A7o hs _ _ i h.Wv (Ur hq) h2))
 ·rw[A1 h4];exact SA.of ho Tu U3 (Ae7 h i h4)
def Zx(C:MC)(X:Nat->Prop)(bets:List Cl):Prop:=∀(D:Nat->Prop) (β:Nat->Nat) (w:World) (m:MS) (i:Aa),C.Ms D X β w m->Ec C.P i m->Uo bets i m->Hr w->D Lg->H7 X w (.slice C.ba C.bn C.bc) bets->SA C D X w i (Ap C.P bets i m)
end
section
set_option maxRecDepth 100000
open Go.RowKit
open Go.Deep (BT)
variable {C:MC} {D X:Nat->Prop} {w w':World} {m:MS} {β:Nat->Nat} {bets:List Cl}
def A1i(w:World)(o:Obj):Bw w (w.alloc o):=Ah (Al _ _) (Af _) _
def MC.Ms.Aw0(h:C.Ms D X β w m):∃x,Ld D w x m.now/\w.cell? ⟨C.mb,6,none⟩=some (.slice x.a x.n x.c)/\w.cell? ⟨C.mb,7,none⟩=some (.n x.pc)/\w.cell? ⟨C.mb,12,none⟩=some (.n m.code)/\(∀o,w.frozen? ⟨C.mb,o,none⟩=false)/\(∀g,D g->g<w.heap.size/\C.mb≠g):=by
 obtain⟨ρ,s,x,fv,ab,lp,h⟩:=h;exact⟨x,h.now,A4 h.cell 6 _ rfl,A4 h.cell 7 _ rfl,A4 h.cell 12 _ rfl,By h.cell,fun g hg=>⟨(h.prot g (.inl hg)).1,fun e=>h.lo.2 (by rw[e];exact .inl hg)⟩⟩
def An1{w:World}{b:Nat}{T:TypeId}{sz:Nat}{v:Value}{n:Nat}{xs:List Value}(h:w.ownsRow b T sz v n xs):n<=9223372036854775807:=by
 rcases h.2 with⟨_,h0⟩|⟨g,cap,cur,_,_,_,h1,h2,_⟩
 ·omega
 ·unfold maxLen at h2;omega
def Ec.pc{P:C5}{i:Aa}(h:Ec P i m)(p:Nat):Ec P i { m with now:=⟨m.now.steps,p,m.now.base⟩ }:=⟨h.nice,h.ars,h.arv,h.cells,h.ins,h.vals,h.base,h.fuel,h.depth,h.out,h.str,h.lotn,h.lots,h.lotc,h.fns⟩
def At5{P:Program}{ops:Array Oper}{o:Oper}{a:Act}{w:World}{K:Act->World->Prop}{Q:Exit->Act->World->Prop}{E:Prop}(hg:o.guard=none)(f:FuncId)(args:Array Value)
  (hrun:(execOp a.eval o).run P w=.ok (.enter f args) w) {R:Ending->World->Prop} (hC:Calls P f args w R)
  (h:∀e w',R e w'->∃u,e=.returned u/\K (a.put o.dst u) w'):if Region.wanted o (yielded ops a.tmps)=true then Oper.wp P o a w K Q else E:=by
 exact z1ua
def Awe(h:C.Ms D X β w m){n:Nat}{m':MS}(hr:Hi C.P bets n m=some m')(hok:T4 C.P bets n m)(ht:Hr w)(hD:D Lg)(hb:H7 X w (.slice C.ba C.bn C.bc) bets)(hst:Zx C X bets) :
  Calls Tryz.prog 58 #[.p C.mb] w (MR C D X w m'):=by
 have HS:=A0 h;have HR:=A0 hr;have HO:=A0 hok;have HT:=A0 ht;have HB:=A0 hb;clear h hr hok ht hb;go_in;go_wp2;go_loopg [] n (fun k wr=>∃(D2:Nat->Prop) (β:Nat->Nat) (m2:MS),(∀g,D g->D2 g)/\C.Ms D2 X β wr m2/\A3 (dx D X) w wr/\Hi C.P bets k m2=some m'/\T4 C.P bets k m2)
 case atStart=>exact⟨D,β,m,fun _ h=>h,HS.o,A3.refl _ _,HR.o,HO.o⟩
 case round=>
  obtain⟨D2,β,m2,hDD,Bj,Ad,C7,hok2⟩:=hrel;obtain⟨x,hx,g6,g7,g12,gz,hlo⟩:=Bj.Aw0;have lb:=Bj.B3;have Au:=A0 Bj;have Ab:=A0 Ad;have hxn:x.n=m2.now.steps.length:=(Cm hx.row.1).1;have hxp:=hx.pc;cases gk with
  | zero=>rw[Hi]at C7;cases C7
  | succ k=>
   rw[Hi]at C7;by_cases hc:m2.code=0
   ·rw[A1 (by rw[hc];simp)]at C7;have tc:((m2.code:Int)==0)=true:=by rw[hc];rfl
    cases hi:m2.now.steps[m2.now.pc]? with
    | none=>
     rw[hi]at C7;injection C7 with C7;have hle:m2.now.steps.length<=m2.now.pc:=by
      rcases N2 m2.now.pc m2.now.steps.length with q|q
      ·rw[Eh q]at hi;cases hi
      ·exact q
     have tl:¬((x.pc:Nat):Int)<((x.n:Nat):Int):=by omega
     have HE:=A0 C7;clear Bj Ad hok2 C7 hx;go_wp2;go_region
     all_goals go_wp2
     all_goals go_end0
     all_goals rw[←HE.o]
     all_goals exact⟨β,rfl,⟨D2,hDD,Au.o.J6⟩,Ab.o.trans (Eb _ _ 1)⟩
    | some i=>
     rw[hi]at C7;obtain⟨⟨hfit,hslo⟩,hok3⟩:=hok2 hc i hi;obtain⟨hlt,hie⟩:=K4.1 hi;have tl:((m2.now.pc:Nat):Int)<((x.n:Nat):Int):=by omega
     have hmx:=An1 hx.row.1;obtain⟨g,k1,_,hcap,lg,hcell⟩:=G1 hx.row.1 z4ma;have hgD:=hx.row.2 g (by rw[k1];rfl);have hng:=(hlo g hgD).2;rw[k1]at g6;rw[hxp]at g7;clear hxp;have d0:=hcell (m2.now.pc*8+0) _ ((D8 (f:=Fg) (sz:=8) (fun _=>rfl) m2.now.steps m2.now.pc 0 hlt z4ma).trans rfl);have d1:=hcell (m2.now.pc*8+1) _ ((D8 (f:=Fg) (sz:=8) (fun _=>rfl) m2.now.steps m2.now.pc 1 hlt z4ma).trans rfl);have d2:=hcell (m2.now.pc*8+2) _ ((D8 (f:=Fg) (sz:=8) (fun _=>rfl) m2.now.steps m2.now.pc 2 hlt z4ma).trans rfl);have d3:=hcell (m2.now.pc*8+3) _ ((D8 (f:=Fg) (sz:=8) (fun _=>rfl) m2.now.steps m2.now.pc 3 hlt z4ma).trans rfl);have d4:=hcell (m2.now.pc*8+4) _ ((D8 (f:=Fg) (sz:=8) (fun _=>rfl) m2.now.steps m2.now.pc 4 hlt z4ma).trans rfl);have d5:=hcell (m2.now.pc*8+5) _ ((D8 (f:=Fg) (sz:=8) (fun _=>rfl) m2.now.steps m2.now.pc 5 hlt z4ma).trans rfl);have d6:=hcell (m2.now.pc*8+6) _ ((D8 (f:=Fg) (sz:=8) (fun _=>rfl) m2.now.steps m2.now.pc 6 hlt z4ma).trans rfl);have d7:=hcell (m2.now.pc*8+7) _ ((D8 (f:=Fg) (sz:=8) (fun _=>rfl) m2.now.steps m2.now.pc 7 hlt z4ma).trans rfl);replace d0:wr.cell? ⟨g,m2.now.pc*8,none⟩=some (.n (m2.now.steps[m2.now.pc].op)):=d0;rw[hie]at d0 d1 d2 d3 d4 d5 d6;obtain⟨s1,s2⟩:=Bj.Wj ((m2.now.pc:Int)+1) z4ma;have hbA:Below (wr.setCell ⟨C.mb,7,none⟩ (.i ((m2.now.pc:Int)+1))).heap.size (wr.setCell ⟨C.mb,7,none⟩ (.i ((m2.now.pc:Int)+1))) ((wr.setCell ⟨C.mb,7,none⟩ (.i ((m2.now.pc:Int)+1))).alloc (.cells #[.n i.op,.i i.arg,.n i.line,.n i.v.k,.bool i.v.y,.i i.v.n,.s i.v.t,.pointer none] 251)):=A1i _ _;have hiA:=Bp (wr.setCell ⟨C.mb,7,none⟩ (.i ((m2.now.pc:Int)+1))) (.cells #[.n i.op,.i i.arg,.n i.line,.n i.v.k,.bool i.v.y,.i i.v.n,.s i.v.t,.pointer none] 251);rw[show(wr.setCell ⟨C.mb,7,none⟩ (.i ((m2.now.pc:Int)+1))).heap.size=wr.heap.size by simp]at hiA;obtain⟨s3,s4⟩:=s1.below hbA;have hj:m2.jump ((m2.now.pc:Int)+1)={ m2 with now:=⟨m2.now.steps,m2.now.pc+1,m2.now.base⟩ }:=by unfold MS.jump;rw[show((m2.now.pc:Int)+1).toNat=m2.now.pc+1 by omega]
     rw[hj]at s3;obtain⟨w0,Dk⟩:∃w0,w0=((wr.setCell ⟨C.mb,7,none⟩ (.i ((m2.now.pc:Int)+1))).alloc (.cells #[.n i.op,.i i.arg,.n i.line,.n i.v.k,.bool i.v.y,.i i.v.n,.s i.v.t,.pointer none] 251)).drew.drew:=⟨_,rfl⟩;have hi0:w0.heap[wr.heap.size]?=some (.cells #[.n i.op,.i i.arg,.n i.line,.n i.v.k,.bool i.v.y,.i i.v.n,.s i.v.t,.pointer none] 251 (0,0)):=by rw[Dk];exact hiA
     have s5:C.Ms D2 X β w0 { m2 with now:=⟨m2.now.steps,m2.now.pc+1,m2.now.base⟩ }:=by rw[Dk];exact s3.J6.J6
     have hBel0:A3 (dx D X) w w0:=by rw[Dk];exact Ad.trans (((s2.trans s4).trans (Eb _ _ 2)).weak (fun g hg=>hg.imp (fun q=>hDD g q) id))
     have hBel:A3 (dx D X) w w0.drew:=hBel0.trans (Eb _ _ 1);obtain⟨k9,hka,hke,hkc⟩:=hst D2 β _ _ i s5.J6 (hfit.pc _) hslo (HT.o.Bv hD hBel) (hDD _ hD) (HB.o.keep (K':=X) (fun g hg _=>⟨hBel.block g (.inr hg),hg⟩) hBel.size);have HKA:=A0 hka;have HKE:=A0 hke;have HKC:=A0 hkc;have HBel:=A0 hBel;have Jr:=A0 C7;have D1:=A0 hok3;have As:=A0 Dk;have Aw:=A0 hi0;have C9:=s5.B3;unfold Ac at HKC;clear Bj Ad hok2 C7 hx hok3 hslo s1 s2 s3 s4 s5 hj hbA hBel hBel0 hka hke hkc hcell hie hi hfit hiA hi0 Dk;go_wp2_with fail
     go_region
     all_goals go_wp2_with fail
     go_region
     all_goals go_wp2_with fail
     rw[←As.o];have q0:=A4 Aw.o 0 _ rfl;have q1:=A4 Aw.o 1 _ rfl;have q2:=A4 Aw.o 2 _ rfl;have q3:=A4 Aw.o 3 _ rfl;have q4:=A4 Aw.o 4 _ rfl;have q5:=A4 Aw.o 5 _ rfl;have q6:=A4 Aw.o 6 _ rfl;have q7:=A4 Aw.o 7 _ rfl;have lq:=A6 Aw.o;clear d0 d1 d2 d3 d4 d5 d6 d7 g6 g7 g12 gz Aw As;go_region_law (first
      | (refine F9 rfl 100 _ _ rfl #[.n i.op] z4pa (HKA.o _) ?_;rintro e w9 ⟨rfl,Ff⟩;subst Ff;refine⟨_,rfl,?_⟩)
      | (refine At5 rfl k9 #[.p C.mb,.agg #[.n i.op,.i i.arg,.n i.line,.n i.v.k,.bool i.v.y,.i i.v.n,.s i.v.t,.pointer none]] (Eq.trans (b:=(callFunc k9 #[.p C.mb,.agg #[.n i.op,.i i.arg,.n i.line,.n i.v.k,.bool i.v.y,.i i.v.n,.s i.v.t,.pointer none]]).run Tryz.prog w0.drew) z4pa (HKE.o _ _)) HKC.o ?_;rintro e w3 ⟨β3,rfl,⟨D3,hD3,h3⟩,k3⟩;refine⟨_,rfl,?_⟩;have HD3:Hid (∀g,D g->D3 g):=fun g hg=>hD3 g (hDD g hg);have Bu:=A0 h3;have Ba:Hid (A3 (dx D X) w w3):=HBel.o.trans (k3.weak (fun g hg=>hg.imp (fun q=>hDD g q) id));have lb3:=h3.B3;clear h3 k3 hD3))
     all_goals
      go_wp2;go_roundg k
      case measure=>omega
      case rel=>exact⟨D3,_,_,HD3.o,Bu.o,Ba.o,Jr.o,D1.o⟩
   ·rw[A7 hc]at C7;injection C7 with C7;have tc:((m2.code:Int)==0)=false:=by rw[Am];omega
    have HE:=A0 C7;clear Bj Ad hok2 C7 hx;go_wp2;go_region
    all_goals go_wp2
    all_goals go_end0
    all_goals rw[←HE.o]
    all_goals exact⟨β,rfl,⟨D2,hDD,Au.o.J6⟩,Ab.o.trans (Eb _ _ 1)⟩
def Zz(P:C5)(bets:List Cl)(m':MS):Prop:=∀(C:MC) (D X:Nat->Prop) (β:Nat->Nat) (w:World),C.P=P->C.Ms D X β w (mstart P)->Hr w->D Lg->H7 X w (.slice C.ba C.bn C.bc) bets->Calls Tryz.prog 58 #[.p C.mb] w (MR C D X w m')
def Awf{P:C5}{n:Nat}{m':MS}(hr:Hi P bets n (mstart P)=some m')(hok:T4 P bets n (mstart P))(hst:∀(C:MC) (X:Nat->Prop),C.P=P->Zx C X bets):Zz P bets m':=by
 intro C D X β w hC h ht hD hb;subst hC;exact Awe h hr hok ht hD hb (hst C X rfl)
end
section
open Go.RowKit
open Go.Deep (BT)
def T1(lb n gb k:Nat):Qz:=⟨some ⟨lb,0,none⟩,n,n,some ⟨gb,0,none⟩,k,k,none,0,0,none,0,0,none,0,0⟩
def Rj(P:C5):MS:=⟨[],Jc P.globals,[],⟨[],0,0⟩,2000,0,[],0,0,[],List.replicate P.fns.length ⟨0,none,0,0⟩⟩
def A7r{C:MC}{E D:Nat->Prop}{w W:World}{lb gb:Nat}(hP:M0 E w C.pb C.P)(hE:∀g,E g->D g)(hDl:∀g,D g->g<w.heap.size)
  (hm:W.heap[C.mb]?=some (.cells (C.cells (T1 lb C.P.fns.length gb C.P.globals) Qi 2000 0 0 0) 167 (0,0)))
  (hl:W.heap[lb]?=some (.cells (madeCells #[.i 0,.pointer none,.i 0,.i 0] (C.P.fns.length*4)) 172 (0,0)))
  (hg:W.heap[gb]?=some (.cells (madeCells #[.i 0,.bool false,.i 0,.string ⟨#[]⟩,.pointer none] (C.P.globals*5)) 225 (0,0)))
  (hk:∀g,g<w.heap.size->W.heap[g]?=w.heap[g]?) (hs:w.heap.size<=W.heap.size) (h1:w.heap.size<=C.mb) (h2:w.heap.size<=lb) (h3:w.heap.size<=gb) (h12:C.mb≠lb) (h13:C.mb≠gb) (h23:lb≠gb) (hn:C.P.fns.length<=1000000) (hgn:C.P.globals<=1000000) (β:Nat->Nat) :
  C.Ms D (fun g=>g<w.heap.size) β W (Rj C.P):=by
 have hkD:∀g,E g->g<w.heap.size->W.heap[g]?=w.heap[g]?/\D g:=fun g hg' hlt=>⟨hk g hlt,hE g hg'⟩;have hlots:=A7g (f:=Jz) (sz:=4) (fun _=>rfl) z4ma _ ((none,⟨0,none,0,0⟩):Option Addr×En) rfl C.P.fns.length hn hl;have hgls:=A7g (f:=Cj β) (sz:=5) (fun _=>rfl) z4ma _ Bb rfl C.P.globals hgn hg;refine⟨fun g=>if g=C.mb then 1 else if g=lb then 2 else if g=gb then 3 else if g<w.heap.size then 0 else 6,T1 lb C.P.fns.length gb C.P.globals,Qi,[],[],List.replicate C.P.fns.length (none,⟨0,none,0,0⟩),hm,hP.keep hkD,?_,?_,?_,?_,?_,?_,⟨rfl,.inl ⟨rfl,rfl⟩⟩,?_,⟨rfl,.inl ⟨rfl,rfl⟩⟩,?_,trivial,⟨⟨⟨rfl,.inl ⟨rfl,rfl⟩⟩,fun g hg'=>by simp[Qi,Value.ownBlock]at hg'⟩,rfl,rfl⟩,⟨rfl,.inl ⟨rfl,rfl⟩⟩,?_,⟨rfl,fun i h=>by simp at h⟩,?_,⟨?_,?_⟩,⟨by simp[Rj],by simp[Rj],by simp[Rj]⟩,⟨by simp[Rj],?_,by simp[Rj]⟩⟩
 ·rw[Tl];exact hlots
 ·intro g hg';simp only[T1,Value.ownBlock,Cg]at hg';subst hg';rw[A1 (fun e=>h12 e.symm),A7 rfl]
 ·simp[Rj]
 ·intro q hq;rw[Qv]at hq;rw[hq.2];rfl
 ·have:(Jc C.P.globals).length=C.P.globals:=by simp[Jc]
  show W.ownsRow 0 _ 5 _ (Jc C.P.globals).length (C0 (Cj β) (Jc C.P.globals));rw[this];exact hgls
 ·intro g hg';simp only[T1,Value.ownBlock,Cg]at hg';subst hg';rw[A1 (fun e=>h13 e.symm),A1 (fun e=>h23 e.symm),A7 rfl]
 ·intro g hg';simp[T1,Value.ownBlock]at hg'
 ·intro g hg';simp[T1,Value.ownBlock]at hg'
 ·intro g hg';simp[T1,Value.ownBlock]at hg'
 ·intro g hg';have hlt:g<w.heap.size:=by
   rcases hg' with q|q
   ·exact hDl g q
   ·exact q
  refine⟨by omega,?_⟩;rw[Ai,Ai,Ai,A7 hlt]
 ·rw[A7 rfl]
 ·intro g hg';by_cases e:g=C.mb
  ·exact e
  ·rw[A1 e]at hg';split at hg'
   ·cases hg'
   ·split at hg'
    ·cases hg'
    ·split at hg' <;> cases hg'
 ·intro v hv;simp only[Rj,Jc,Qv]at hv;rw[hv.2];exact A2w _
