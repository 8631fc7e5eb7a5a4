import Derived.Test.YtjdlndhfaaolaaaGreatDoorY29
import Derived.Test.YtjdlndhfaaolaaaGreatDoorY36
set_option maxHeartbeats 20000000
set_option linter.all false
namespace Go.Proofs.YtjdlndhfaaolaaaGreatDoor
section
set_option maxRecDepth 100000
open Go.RowKit
open Go.Deep (BT)
variable {C:MC} {D X:Nat->Prop} {w w':World} {m:MS} {β:Nat->Nat}
def z39a {P:Prop} (h:P:=by
  go_wp2;refine B9 (v:=.tuple #[]) (by simp[results,Tryz.results163,go_sem]) rfl ?_;exact⟨rfl,Au.o,Ab⟩):P:=h
def Adw(h:C.Ms D X β w m)(i:Aa)(Jk:m.pop.top.k≠4):Calls Tryz.prog 163 #[.p C.mb,Ac i] w (MP C D X β w (m.pop.pop.fail 5 i) (.tuple #[])):=by
 obtain⟨w0,As,Av,Ag,Ao,Aw,nn,lb,C9⟩:=h.Ci i;have HT:=F1 Av.o;have t4:(((m.pop.top.k:Nat):Int) !=4)=true:=by rw[P8];omega
 generalize m.pop.top=u at *;generalize m.top=p at *;unfold Ac;go_in;go_wp2_with fail
 rw[←As.o];refine HT.mono ?_;rintro e w1 ⟨rfl,h1,k1⟩;unfold B7;have Bn:=h1.B3;have A9:A3 (dx D X) w w1:=Ag.o.trans (Ae k1);have An:=(k1.block _ Ao.o).trans Aw.o;have nn:=Bi An;have HF:=fun(W:World) (hb:Bw w1 W)=>C3 (Ih (h1.below hb).1 5 i) (A9.trans (Ae (h1.below hb).2));unfold Ac at HF;go_wp2_with fail
 refine((HF _ z4na).1).mono ?_;rintro e w2 ⟨rfl,h2,k2⟩;have Au:=A0 h2.back;have Ab:A3 (dx D X) w w2:=(HF _ z4na).2.trans (Ae k2);exact z39a
def Adu(h:C.Ms D X β w m)(i:Aa)(Jk:m.pop.top.k=4)(hc:500<m.cells+1)(h5:m.cells<=500):Calls Tryz.prog 163 #[.p C.mb,Ac i] w (MP C D X β w (m.pop.pop.fail 10 i) (.tuple #[])):=by
 obtain⟨w0,As,Av,Ag,Ao,Aw,nn,lb,C9⟩:=h.Ci i;have HT:=F1 Av.o;have t4:(((m.pop.top.k:Nat):Int) !=4)=false:=by rw[Jk];rfl
 have HR:=fun(W:World) (hs':C.Ms D (Dd X w) β W m.pop.pop)=>A7p hs' 1 i hc h5;unfold Ac at HR;generalize m.pop.top=u at *;generalize m.top=p at *;unfold Ac;go_in;go_wp2_with fail
 rw[←As.o];refine HT.mono ?_;rintro e w1 ⟨rfl,h1,k1⟩;unfold B7;have Bn:=h1.B3;have A9:A3 (dx D X) w w1:=Ag.o.trans (Ae k1);have An:=(k1.block _ Ao.o).trans Aw.o;have nn:=Bi An;have HH2:=fun(W:World) (hb:Bw w1 W)=>C3 (HR W (h1.below hb).1) (A9.trans (Ae (h1.below hb).2));go_wp2_with fail
 refine((HH2 _ z4na).1).mono ?_;rintro e w2 ⟨rfl,h2,k2⟩;have Au:=A0 h2.back;have Ab:A3 (dx D X) w w2:=(HH2 _ z4na).2.trans (Ae k2);exact z39a
end
section
open Go.RowKit
open Go.Deep (BT)
variable {C:MC} {D X Y:Nat->Prop} {w w':World} {m:MS} {β:Nat->Nat}
def Pc(β:Nat->Nat)(n b:Nat):Nat->Nat:=fun i=>if i=n then b else β i
def A4b{n b i:Nat}(h:i<n):Pc β n b i=β i:=Ai
def Aph{n b:Nat}{v:PV}(h:Ca n v):Cj (Pc β n b) v=Cj β v:=by
 have:Bf (Pc β n b) v=Bf β v:=by
  unfold Bf;unfold Ca at h;cases hr:v.r with
  | none=>rfl
  | some i=>rw[hr]at h;simp only;rw[A4b h.2]
 unfold Cj;rw[this]
def Yo{n b:Nat}{l:List PV}(h:∀v∈l,Ca n v):C0 (Cj (Pc β n b)) l=C0 (Cj β) l:=by
 unfold C0;induction l with
 | nil=>rfl
 | cons x r ih=>rw[A34,A34,Aph (h x (Q0 ..)),ih (fun v hv=>h v (Sb _ hv))]
def Z3{n:Nat}{v:PV}(h:Ca n v):Ca (n+1) v:=by
 unfold Ca at h ⊢;cases hr:v.r with
 | none=>rw[hr]at h;exact h
 | some i=>rw[hr]at h;exact⟨h.1,by omega⟩
def MC.Ms.Ack(h:C.Ms D Y β w m)(hX:∀g,X g->Y g){b rb:Nat}{l:List PV}(hb:Y b/\¬D b/\¬X b)(hr:Y rb/\¬D rb/\¬X rb)(hn:rb≠b)(hh:w.heap[b]?=some (.cells #[.slice (some ⟨rb,0,none⟩) l.length l.length] 356 (0,0)))
  (hrow:w.ownsRow 0 225 5 (.slice (some ⟨rb,0,none⟩) l.length l.length) l.length (C0 (Cj β) l)) (hvv:∀v∈l,Ca m.arr.length v) :
  C.Ms D X (Pc β m.arr.length b) w { m with arr:=m.arr++[l] }:=by
 classical
 obtain⟨ρ,s,x,fv,ab,lp,h⟩:=h;have Bq:=(h.prot b (.inr hb.1)).2;have hr0:=(h.prot rb (.inr hr.1)).2;have hl:=h.arr.len;obtain⟨σ,hσ⟩:∃σ:Nat->Nat,σ=fun g=>if g=b then 7+2*m.arr.length else if g=rb then 8+2*m.arr.length else ρ g:=⟨_,rfl⟩;have up:∀g,ρ g≠0->σ g=ρ g:=fun g hg=>by
  rw[hσ];show(if g=b then _ else _)=_;rw[A1 (fun e=>hg (by rw[e];exact Bq)),A1 (fun e=>hg (by rw[e];exact hr0))]
 have sb:σ b=7+2*m.arr.length:=by rw[hσ];exact A7 rfl
 have sr:σ rb=8+2*m.arr.length:=by rw[hσ];show(if rb=b then _ else _)=_;rw[A1 hn,A7 rfl]
 have hd:∀g,dx D X g->g≠b/\g≠rb:=fun g hg=>by
  rcases hg with q|q
  ·exact⟨fun e=>hb.2.1 (by rw[←e];exact q),fun e=>hr.2.1 (by rw[←e];exact q)⟩
  ·exact⟨fun e=>hb.2.2 (by rw[←e];exact q),fun e=>hr.2.2 (by rw[←e];exact q)⟩
 refine⟨σ,s,x,fv,ab++[(some ⟨rb,0,none⟩,l.length,l.length)],lp,h.cell,h.prog,h.lots,fun g hg=>by rw[up g z4ya];exact h.loto g hg,h.lotm,h.forms,
  by rw[Yo h.vv.2.1];exact h.gl,fun g hg=>by rw[up g z50a];exact h.glo g hg,by rw[Yo h.vv.1];exact h.vals,fun g hg=>by rw[up g z4wa];exact h.valo g hg,
  h.calls,fun g hg=>by rw[up g z4va];exact h.callo g hg,h.frs,h.now,h.out,fun g hg=>by rw[up g z4xa];exact h.outo g hg,⟨by simp[hl],fun i hi hi'=>?_⟩,?_,⟨by rw[up _ z5ba];exact h.one.1,?_⟩,h.C1,?_⟩
 ·by_cases e:i<m.arr.length
  ·have An:i<ab.length:=by omega
   obtain⟨a1,a2,a3,a4⟩:=h.arr.at' i An e;rw[A3b An,A3b e,A4b e,Yo (h.vv.2.2 _ (Ho e))];exact⟨a1,a2,by rw[up _ (by rw[a3];omega)];exact a3,fun g hg=>by rw[up g (by rw[a4 g hg];omega)];exact a4 g hg⟩
  ·have e1:i=m.arr.length:=by simp at hi';omega
   subst e1;have q1:(ab++[((some ⟨rb,0,none⟩:Option Addr),l.length,l.length)])[m.arr.length]'hi=(some ⟨rb,0,none⟩,l.length,l.length):=by
    rw[A3c z4ma];simp
   have q2:(m.arr++[l])[m.arr.length]'hi'=l:=by rw[A3c (Af _)];simp
   have q3:Pc β m.arr.length b m.arr.length=b:=A7 rfl;rw[q1,q2,q3,Yo hvv];refine⟨hh,hrow,sb,fun g hg=>?_⟩;have:rb=g:=by simpa [Nc,Value.ownBlock]using hg
   rw[←this];exact sr
 ·intro g hg;obtain⟨n1,n2⟩:=hd g hg;have hY:dx D Y g:=hg.imp id (hX g);refine⟨(h.prot g hY).1,?_⟩;rw[hσ];show(if g=b then _ else _)=_;rw[A1 n1,A1 n2];exact(h.prot g hY).2
 ·intro g hg;rw[hσ]at hg;have hg':(if g=b then 7+2*m.arr.length else if g=rb then 8+2*m.arr.length else ρ g)=1:=hg;split at hg'
  ·omega
  ·split at hg'
   ·omega
   ·exact h.one.2 g hg'
 ·simp only[Ds,Lw];refine⟨fun v hv=>Z3 (h.vv.1 v hv),fun v hv=>Z3 (h.vv.2.1 v hv),fun q hq v hv=>?_⟩;rcases Jp.1 hq with e|e
  ·exact Z3 (h.vv.2.2 q e v hv)
  ·rw[Lb.1 e]at hv;exact Z3 (hvv v hv)
end
section
set_option maxRecDepth 100000
open Go.RowKit
open Go.Deep (BT)
variable {C:MC} {D X:Nat->Prop} {w w':World} {m:MS} {β:Nat->Nat}
def Ad4(h:C.Ms D X β w m)(i:Aa){k:Nat}(hk3:m.pop.top.k=3)(hvu:Ca m.arr.length m.pop.top)(D4:m.top.k=2)(hkn:m.top.n=(k:Nat))(hki:k<m.pop.top.t.length)(htl:m.pop.top.t.length<=100000)(hn:m.vals.length<=80000000000):Calls Tryz.prog 164 #[.p C.mb,Ac i] w (MP C D X β w (m.pop.pop.push (ofStr ((m.pop.top.t.drop k).take 1))) (.tuple #[])):=by
 obtain⟨w0,As,Av,Ag,Ao,Aw,nn,lb,C9⟩:=h.Ci i;clear h;have HT:=F1 Av.o;have hs:Gj m.pop.pop m.pop.top=.tuple #[.n m.pop.top.t.length,.bool true]:=by
  unfold Gj sizeOf';rw[A7 hk3];rfl
 have HH:=fun(W:World) (hs':C.Ms D (Dd X w) β W m.pop.pop)=>A1r hs' m.pop.top m.top i hvu hs D4 z4ma z4ma;have hl:m.pop.pop.vals.length+1<=90000000000:=by simp only[MS.pop,Sg];omega
 have HP:=fun(W:World) (hs':C.Ms D (Dd X w) β W m.pop.pop)=>hs'.push (ofStr ((m.pop.top.t.drop k).take 1)) (by simp[Ca,ofStr]) hl;have t3:(((m.pop.top.k:Nat):Int)==3)=true:=by rw[hk3];rfl
 clear hk3 D4 hs hvu hl hn;generalize m.pop.top=u at *;generalize m.top=p at *;unfold Ac;unfold Ac at HH;unfold B7 at HH HP HT;unfold ofStr at HP ⊢;dsimp only[Bf]at HP;have t1:(0:Int)<=(k:Int):=by omega
 have t2:(k:Int)<(u.t.length:Int):=by omega
 rw[hkn]at HH HT;clear hkn;go_in;go_wp2_with fail
 rw[←As.o];refine HT.mono ?_;rintro e w1 ⟨rfl,h1,k1⟩;have Bn:=h1.B3;have B5:=A0 h1;have A9:A3 (dx D X) w w1:=Ag.o.trans (Ae k1);have An:=(k1.block _ Ao.o).trans Aw.o;replace nn:=Bi An;obtain⟨W,hW,z0,z1,hbW,hsW⟩:=A2t w1 (.cells #[.n u.k,.bool u.y,.i u.n,.s u.t,.pointer (Bf β u)] 225) (.cells #[.n p.k,.bool p.y,.n k,.s p.t,.pointer (Bf β p)] 225);have HW:=A0 hW;have HH2:=HH W (B5.o.below hbW).1;have HBe:=fun(V:World) (hb:Bw W V)=>B5.o.below (hbW.trans (hb.mono hbW.size));clear hW hbW HH h1 k1 An HT;go_wp2_with fail
 rw[←HW.o];refine HH2.mono ?_;rintro e w2 ⟨rfl,Ad⟩;have q0:=(Ad.block _ z4ma).trans z0;have q1:=(Ad.block _ z4ma).trans z1;obtain⟨s1,s2⟩:=HBe w2 Ad;obtain⟨u0,u1,u2,u3,u4,lu⟩:=Kg q0;obtain⟨p0,p1,p2,p3,p4,lp⟩:=Kg q1;have Ed:=s1.B3;have HPs:=fun(V:World) (hb:Bw w2 V)=>C3 (HP V (s1.below hb).1) ((A9.trans (Ae s2)).trans (Ae (s1.below hb).2));have hw:IntKind.i64.wrap ((k:Int)+1)=(k:Int)+1:=by rw[O7];omega
 have t4:(0:Int)<=(k:Int)+1:=by omega
 have t5:(k:Int)+1<=(u.t.length:Int):=by omega
 have t6:((k:Int)+1).toNat=k+1:=by omega
 have t7:(k:Int)<=(k:Int)+1:=by omega
 have ex:=U4 u.t k (k+1);rw[show k+1-k=1 by omega]at ex;clear Ad q0 q1 s1 s2 z0 z1 HP HBe HH2;generalize hx:(u.t.drop k).take 1=x at *;have HX:=A0 hx;clear hx;go_wp2;go_region_law (first
  | (refine F9 rfl 99 _ _ rfl #[.pointer (some ⟨C.mb,4,none⟩),.agg #[.i 3,.bool false,.i 0,.s x,.pointer none]] z4pa HQ.o.1 ?_;rintro e w3 ⟨rfl,h3,k3⟩;refine⟨_,rfl,?_⟩;have Bu:=A0 h3.back;have Ba:Hid (A3 (dx D X) w w3):=HQ.o.2.trans (Ae k3);clear h3 k3)
  | (refine F9 rfl 86 _ _ rfl #[.s x] z4pa (A1u _ _) ?_;rintro e w4 ⟨rfl,hb2'⟩;refine⟨_,rfl,?_⟩;have Ad:Bw w2 w4:=Ib z4na (N7 (Tx hb2') z4ra);have HQ:=A0 (HPs w4 Ad);have Ed:=Ad.size;clear Ad hb2'))
 all_goals go_wp2
 all_goals go_end0
 all_goals exact⟨rfl,Bu.o,Ba.o⟩
end
section
open Go.RowKit
open Go.Deep (BT)
def Xi(w:World)(code line:Nat)(out:List (List UInt8))(lots:List En)(e:Ending)(w':World):Prop:=∃va vn vc fa fn fc da dn dc,e=.returned (.agg #[.slice va vn vc,.n code,.n line,.slice fa fn fc,.slice da dn dc])/\w'.ownsRow 0 9 1 (.slice va vn vc) out.length (strs out)/\
 w'.ownsRow 0 3 1 (.slice fa fn fc) lots.length (lots.map fun l=>.n l.fast)/\w'.ownsRow 0 3 1 (.slice da dn dc) lots.length (lots.map fun l=>.n l.drops)/\Bw w w'
def Xh(P:C5)(bets:List Cl)(m':MS):Prop:=∀(w:World) (gb:Nat) (E:Nat->Prop) (v:Value),Tp E w gb P->(∀g,E g->g<w.heap.size)->Hr w->H7 M1 w v bets->
 Calls Tryz.prog 23 #[.p gb,v] w (Xi w m'.code m'.line m'.out m'.lots)
def A1s{W:World}{T T':TypeId}{n b:Nat}{v:Value}{xs:List Value}{cs:Array Value}(ho:W.ownsRow 0 T 1 v n xs)(hb:W.heap[b]?=some (.cells cs T' (0,0)))(hT:T≠T'):∀k,v.ownBlock=some k->k≠b:=by
 intro k hk e;obtain⟨_,h1|⟨g,cap,cur,hv,_,hg,_⟩⟩:=ho
 ·rw[h1.1]at hk;cases hk
 ·rw[hv]at hk;have hgk:g=k:=by simpa [Value.ownBlock]using hk
  rw[hgk,e,hb]at hg;injection hg with hg;injection hg with _ ht;exact hT ht.symm
