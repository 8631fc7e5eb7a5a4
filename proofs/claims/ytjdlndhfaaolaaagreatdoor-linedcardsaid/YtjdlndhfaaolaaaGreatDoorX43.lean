import Derived.Test.YtjdlndhfaaolaaaGreatDoorX16
import Derived.Test.YtjdlndhfaaolaaaGreatDoorX30
import Derived.Test.YtjdlndhfaaolaaaGreatDoorX32
import Derived.Test.YtjdlndhfaaolaaaGreatDoorX41
set_option maxHeartbeats 20000000
namespace Go.Proofs.YtjdlndhfaaolaaaGreatDoor
section
set_option maxRecDepth 100000
open Go.RowKit
open Go.Deep (BT)
variable {C:MC} {D X:Nat->Prop} {w w':World} {m:MS} {β:Nat->Nat}
theorem z30a {P:Prop} (h:P:=by
  clear h2 k2;go_wp2;refine bodyPost_ret (v:=.tuple #[]) (by simp[results,Tryz.results163,go_sem]) rfl ?_;exact⟨rfl,Ah.o,Aa.o⟩):P:=h
theorem A7w(h:C.Ms D X β w m)(i:Af)(Gs:m.pop.top.k≠4):Calls Tryz.prog 163 #[.pointer (some ⟨C.mb,0,none⟩),Ag i] w (MP C D X β w (m.pop.pop.fail 5 i) (.tuple #[])):=by
 obtain⟨w0,Ap,Aq,Ae,Ao,As,n0,n1,n2,n3,n4,n5,n6,n7,ln,lb,C9⟩:=h.Ca i;clear h;have HT:=A0 (Fe Aq.o);have t4:(((m.pop.top.k:Nat):Int) !=4)=true:=by rw[bne_iff_ne];omega
 clear Gs;generalize m.pop.top=u at *;generalize m.top=p at *;unfold Ag;go_enter Tryz.func163,Tryz.ntmps163;go_wp2_with fail
 rw[←Ap.o];refine HT.o.mono ?_;rintro e w1 ⟨rfl,h1,k1⟩;unfold B3;have Bk:=h1.At;have A8:=A0 h1;have A4:Hid (A2 (dx D X) w w1):=Ae.o.trans (Ac k1);have Ad:=(k1.block _ Ao.o).trans As.o;clear n0 n1 n2 n3 n4 n5 n6 n7 ln;obtain⟨n0,n1,n2,n3,n4,n5,n6,n7,ln⟩:=Bj Ad;clear h1 k1 Ad HT;have HF:=A0 (fun(W:World) (hb:Below w1.heap.size w1 W)=>And.intro (I6 (A8.o.below hb).1 5 i) (A4.o.trans (Ac (A8.o.below hb).2)));unfold Ag at HF;go_wp2_with fail
 refine((HF.o _ z4xa).1).mono ?_;rintro e w2 ⟨rfl,h2,k2⟩;have Ah:=A0 h2.back;have Aa:Hid (A2 (dx D X) w w2):=(HF.o _ z4xa).2.trans (Ac k2);exact z30a
theorem A7u(h:C.Ms D X β w m)(i:Af)(Gs:m.pop.top.k=4)(hc:500<m.cells+1)(h5:m.cells<=500):Calls Tryz.prog 163 #[.pointer (some ⟨C.mb,0,none⟩),Ag i] w (MP C D X β w (m.pop.pop.fail 10 i) (.tuple #[])):=by
 obtain⟨w0,Ap,Aq,Ae,Ao,As,n0,n1,n2,n3,n4,n5,n6,n7,ln,lb,C9⟩:=h.Ca i;clear h;have HT:=A0 (Fe Aq.o);have t4:(((m.pop.top.k:Nat):Int) !=4)=false:=by rw[Gs];rfl
 have HR:=A0 (fun(W:World) (hs':C.Ms D (Cu X w) β W m.pop.pop)=>A20 hs' 1 i hc h5);unfold Ag at HR;clear Gs hc;generalize m.pop.top=u at *;generalize m.top=p at *;unfold Ag;go_enter Tryz.func163,Tryz.ntmps163;go_wp2_with fail
 rw[←Ap.o];refine HT.o.mono ?_;rintro e w1 ⟨rfl,h1,k1⟩;unfold B3;have Bk:=h1.At;have A8:=A0 h1;have A4:Hid (A2 (dx D X) w w1):=Ae.o.trans (Ac k1);have Ad:=(k1.block _ Ao.o).trans As.o;clear n0 n1 n2 n3 n4 n5 n6 n7 ln;obtain⟨n0,n1,n2,n3,n4,n5,n6,n7,ln⟩:=Bj Ad;clear h1 k1 Ad HT;have HH2:=A0 (fun(W:World) (hb:Below w1.heap.size w1 W)=>And.intro (HR.o W (A8.o.below hb).1) (A4.o.trans (Ac (A8.o.below hb).2)));clear HR;go_wp2_with fail
 refine((HH2.o _ z4xa).1).mono ?_;rintro e w2 ⟨rfl,h2,k2⟩;have Ah:=A0 h2.back;have Aa:Hid (A2 (dx D X) w w2):=(HH2.o _ z4xa).2.trans (Ac k2);exact z30a
end
section
open Go.RowKit
open Go.Deep (BT)
variable {C:MC} {D X Y:Nat->Prop} {w w':World} {m:MS} {β:Nat->Nat}
def Mr(β:Nat->Nat)(n b:Nat):Nat->Nat:=fun i=>if i=n then b else β i
theorem j0{n b i:Nat}(h:i<n):Mr β n b i=β i:=if_neg z4sa
theorem Ahd{n b:Nat}{v:PV}(h:Bs n v):By (Mr β n b) v=By β v:=by
 have:B5 (Mr β n b) v=B5 β v:=by
  unfold B5;unfold Bs at h;cases hr:v.r with
  | none=>rfl
  | some i=>rw[hr]at h;simp only;rw[j0 h.2]
 unfold By;rw[this]
theorem Ue{n b:Nat}{l:List PV}(h:∀v∈l,Bs n v):C5 (By (Mr β n b)) l=C5 (By β) l:=by
 unfold C5;induction l with
 | nil=>rfl
 | cons x r ih=>rw[List.flatMap_cons,List.flatMap_cons,Ahd (h x (List.mem_cons_self ..)),ih (fun v hv=>h v (List.mem_cons_of_mem _ hv))]
theorem Ux{n:Nat}{v:PV}(h:Bs n v):Bs (n+1) v:=by
 unfold Bs at h ⊢;cases hr:v.r with
 | none=>rw[hr]at h;exact h
 | some i=>rw[hr]at h;exact⟨h.1,by omega⟩
theorem MC.Ms.A6s(h:C.Ms D Y β w m)(hX:∀g,X g->Y g){b rb:Nat}{l:List PV}(hb:Y b/\¬D b/\¬X b)(hr:Y rb/\¬D rb/\¬X rb)(hn:rb≠b)(hh:w.heap[b]?=some (.cells #[.slice (some ⟨rb,0,none⟩) l.length l.length] 356 (0,0)))
  (hrow:w.ownsRow 0 225 5 (.slice (some ⟨rb,0,none⟩) l.length l.length) l.length (C5 (By β) l)) (hvv:∀v∈l,Bs m.arr.length v) :
  C.Ms D X (Mr β m.arr.length b) w { m with arr:=m.arr++[l] }:=by
 classical
 obtain⟨ρ,s,x,fv,ab,lp,h⟩:=h;have Bv:=(h.prot b (.inr hb.1)).2;have hr0:=(h.prot rb (.inr hr.1)).2;have hl:=h.arr.len;obtain⟨σ,hσ⟩:∃σ:Nat->Nat,σ=fun g=>if g=b then 7+2*m.arr.length else if g=rb then 8+2*m.arr.length else ρ g:=⟨_,rfl⟩;have up:∀g,ρ g≠0->σ g=ρ g:=fun g hg=>by
  rw[hσ];show(if g=b then _ else _)=_;rw[if_neg (fun e=>hg (by rw[e];exact Bv)),if_neg (fun e=>hg (by rw[e];exact hr0))]
 have sb:σ b=7+2*m.arr.length:=by rw[hσ];exact if_pos rfl
 have sr:σ rb=8+2*m.arr.length:=by rw[hσ];show(if rb=b then _ else _)=_;rw[if_neg hn,if_pos rfl]
 have hd:∀g,dx D X g->g≠b/\g≠rb:=fun g hg=>by
  rcases hg with q|q
  ·exact⟨fun e=>hb.2.1 (by rw[←e];exact q),fun e=>hr.2.1 (by rw[←e];exact q)⟩
  ·exact⟨fun e=>hb.2.2 (by rw[←e];exact q),fun e=>hr.2.2 (by rw[←e];exact q)⟩
 refine⟨σ,s,x,fv,ab++[(some ⟨rb,0,none⟩,l.length,l.length)],lp,h.cell,h.prog,h.lots,fun g hg=>by rw[up g z56a];exact h.loto g hg,h.lotm,h.forms,
  by rw[Ue h.vv.2.1];exact h.gl,fun g hg=>by rw[up g z58a];exact h.glo g hg,by rw[Ue h.vv.1];exact h.vals,fun g hg=>by rw[up g z54a];exact h.valo g hg,
  h.calls,fun g hg=>by rw[up g z53a];exact h.callo g hg,h.frs,h.now,h.out,fun g hg=>by rw[up g z55a];exact h.outo g hg,⟨by simp[hl],fun i hi hi'=>?_⟩,?_,⟨by rw[up _ z5fa];exact h.one.1,?_⟩,h.Bz,?_⟩
 ·by_cases e:i<m.arr.length
  ·have Ad:i<ab.length:=by omega
   obtain⟨a1,a2,a3,a4⟩:=h.arr.at' i Ad e;rw[List.getElem_append_left Ad,List.getElem_append_left e,j0 e,Ue (h.vv.2.2 _ (List.getElem_mem e))];exact⟨a1,a2,by rw[up _ (by rw[a3];omega)];exact a3,fun g hg=>by rw[up g (by rw[a4 g hg];omega)];exact a4 g hg⟩
  ·have e1:i=m.arr.length:=by simp at hi';omega
   subst e1;have q1:(ab++[((some ⟨rb,0,none⟩:Option Addr),l.length,l.length)])[m.arr.length]'hi=(some ⟨rb,0,none⟩,l.length,l.length):=by
    rw[List.getElem_append_right z4sa];simp
   have q2:(m.arr++[l])[m.arr.length]'hi'=l:=by rw[List.getElem_append_right (Nat.le_refl _)];simp
   have q3:Mr β m.arr.length b m.arr.length=b:=if_pos rfl;rw[q1,q2,q3,Ue hvv];refine⟨hh,hrow,sb,fun g hg=>?_⟩;have:rb=g:=by simpa [Kx,Value.ownBlock]using hg
   rw[←this];exact sr
 ·intro g hg;obtain⟨n1,n2⟩:=hd g hg;have hY:dx D Y g:=hg.imp id (hX g);refine⟨(h.prot g hY).1,?_⟩;rw[hσ];show(if g=b then _ else _)=_;rw[if_neg n1,if_neg n2];exact(h.prot g hY).2
 ·intro g hg;rw[hσ]at hg;have hg':(if g=b then 7+2*m.arr.length else if g=rb then 8+2*m.arr.length else ρ g)=1:=hg;split at hg'
  ·omega
  ·split at hg'
   ·omega
   ·exact h.one.2 g hg'
 ·simp only[List.length_append,List.length_singleton];refine⟨fun v hv=>Ux (h.vv.1 v hv),fun v hv=>Ux (h.vv.2.1 v hv),fun q hq v hv=>?_⟩;rcases List.mem_append.1 hq with e|e
  ·exact Ux (h.vv.2.2 q e v hv)
  ·rw[List.mem_singleton.1 e]at hv;exact Ux (hvv v hv)
end
section
set_option maxRecDepth 100000
open Go.RowKit
open Go.Deep (BT)
variable {C:MC} {D X:Nat->Prop} {w w':World} {m:MS} {β:Nat->Nat}
theorem A77(h:C.Ms D X β w m)(i:Af){k:Nat}(hk3:m.pop.top.k=3)(hvu:Bs m.arr.length m.pop.top)(C7:m.top.k=2)(hkn:m.top.n=(k:Nat))(hki:k<m.pop.top.t.length)(htl:m.pop.top.t.length<=100000)(hn:m.vals.length<=80000000000):Calls Tryz.prog 164 #[.pointer (some ⟨C.mb,0,none⟩),Ag i] w (MP C D X β w (m.pop.pop.push (ofStr ((m.pop.top.t.drop k).take 1))) (.tuple #[])):=by
 obtain⟨w0,Ap,Aq,Ae,Ao,As,n0,n1,n2,n3,n4,n5,n6,n7,ln,lb,C9⟩:=h.Ca i;clear h;have HT:=A0 (Fe Aq.o);have hs:Fh m.pop.pop m.pop.top=.tuple #[.int .i64 (m.pop.top.t.length:Nat),.bool true]:=by
  unfold Fh sizeOf';rw[if_pos hk3];rfl
 have HH:=A0 (fun(W:World) (hs':C.Ms D (Cu X w) β W m.pop.pop)=>Xz hs' m.pop.top m.top i hvu hs C7 z4sa z4sa);have hl:m.pop.pop.vals.length+1<=90000000000:=by simp only[MS.pop,List.length_dropLast];omega
 have HP:=A0 (fun(W:World) (hs':C.Ms D (Cu X w) β W m.pop.pop)=>hs'.push (ofStr ((m.pop.top.t.drop k).take 1)) (by simp[Bs,ofStr]) hl);have t3:(((m.pop.top.k:Nat):Int)==3)=true:=by rw[hk3];rfl
 clear hk3 C7 hs hvu hl hn;generalize m.pop.top=u at *;generalize m.top=p at *;unfold Ag;unfold Ag at HH;unfold B3 at HH HP HT;unfold ofStr at HP ⊢;dsimp only[B5]at HP;have t1:(0:Int)<=(k:Int):=by omega
 have t2:(k:Int)<(u.t.length:Int):=by omega
 rw[hkn]at HH HT;clear hkn;go_enter Tryz.func164,Tryz.ntmps164;go_wp2_with fail
 rw[←Ap.o];refine HT.o.mono ?_;rintro e w1 ⟨rfl,h1,k1⟩;have Bk:=h1.At;have A8:=A0 h1;have A4:Hid (A2 (dx D X) w w1):=Ae.o.trans (Ac k1);have Ad:=(k1.block _ Ao.o).trans As.o;clear n0 n1 n2 n3 n4 n5 n6 n7 ln;obtain⟨n0,n1,n2,n3,n4,n5,n6,n7,ln⟩:=Bj Ad;obtain⟨W,hW,z0,z1,hbW,hsW⟩:=Zi w1 (.cells #[.int .i64 (u.k:Nat),.bool u.y,.int .i64 u.n,.string ⟨u.t.toArray⟩,.pointer (B5 β u)] 225) (.cells #[.int .i64 (p.k:Nat),.bool p.y,.int .i64 (k:Nat),.string ⟨p.t.toArray⟩,.pointer (B5 β p)] 225);have HW:=A0 hW;have HH2:=A0 (HH.o W (A8.o.below hbW).1);have HBe:=A0 (fun(V:World) (hb:Below W.heap.size W V)=>A8.o.below (hbW.trans (hb.mono hbW.size)));clear hW hbW HH h1 k1 Ad HT;go_wp2_with fail
 rw[←HW.o];refine HH2.o.mono ?_;rintro e w2 ⟨rfl,A9⟩;have q0:=(A9.block _ z4sa).trans z0;have q1:=(A9.block _ z4sa).trans z1;obtain⟨s1,s2⟩:=HBe.o w2 A9;obtain⟨u0,u1,u2,u3,u4,lu⟩:=Jb q0;obtain⟨p0,p1,p2,p3,p4,lp⟩:=Jb q1;have Eb:=s1.At;have HPs:=A0 (fun(V:World) (hb:Below w2.heap.size w2 V)=>And.intro (HP.o V (s1.below hb).1) ((A4.o.trans (Ac s2)).trans (Ac (s1.below hb).2)));have hw:IntKind.i64.wrap ((k:Int)+1)=(k:Int)+1:=by rw[IntKind.wrap_i64];omega
 have t4:(0:Int)<=(k:Int)+1:=by omega
 have t5:(k:Int)+1<=(u.t.length:Int):=by omega
 have t6:((k:Int)+1).toNat=k+1:=by omega
 have t7:(k:Int)<=(k:Int)+1:=by omega
 have ex:=Qa u.t k (k+1);rw[show k+1-k=1 by omega]at ex;clear A9 q0 q1 s1 s2 z0 z1 HP HBe HH2;generalize hx:(u.t.drop k).take 1=x at *;have HX:=A0 hx;clear hx;go_wp2;go_region_law (first
  | (refine Fg rfl 99 _ _ rfl #[.pointer (some ⟨C.mb,4,none⟩),.agg #[.int .i64 3,.bool false,.int .i64 0,.string ⟨x.toArray⟩,.pointer none]] z4va HQ.o.1 ?_;rintro e w3 ⟨rfl,h3,k3⟩;refine⟨_,rfl,?_⟩;have Be:=A0 h3.back;have Ay:Hid (A2 (dx D X) w w3):=HQ.o.2.trans (Ac k3);clear h3 k3)
  | (refine Fg rfl 86 _ _ rfl #[.string ⟨x.toArray⟩] z4va (Y6 _ _) ?_;rintro e w4 ⟨rfl,hb2'⟩;refine⟨_,rfl,?_⟩;have A9:Below w2.heap.size w2 w4:=Below.trans z4xa (Below.mono (Q3 hb2') z4wa);have HQ:=A0 (HPs.o w4 A9);have Eb:=A9.size;clear A9 hb2'))
 all_goals go_wp2
 all_goals go_end0
 all_goals exact⟨rfl,Be.o,Ay.o⟩
end
section
open Go.RowKit
open Go.Deep (BT)
def Sz(w:World)(code line:Nat)(out:List (List UInt8))(lots:List Fs)(e:Ending)(w':World):Prop:=∃va vn vc fa fn fc da dn dc,e=.returned (.agg #[.slice va vn vc,.int .i64 (code:Nat),.int .i64 (line:Nat),.slice fa fn fc,.slice da dn dc])/\w'.ownsRow 0 9 1 (.slice va vn vc) out.length (strs out)/\
 w'.ownsRow 0 3 1 (.slice fa fn fc) lots.length (lots.map fun l=>.int .i64 (l.fast:Nat))/\w'.ownsRow 0 3 1 (.slice da dn dc) lots.length (lots.map fun l=>.int .i64 (l.drops:Nat))/\Below w.heap.size w w'
def Va(P:D5)(bets:List Da)(m':MS):Prop:=∀(w:World) (gb:Nat) (E:Nat->Prop) (v:Value),P1 E w gb P->(∀g,E g->g<w.heap.size)->G9 w->J9 T4 w v bets->
 Calls Tryz.prog 23 #[.pointer (some ⟨gb,0,none⟩),v] w (Sz w m'.code m'.line m'.out m'.lots)
theorem Y1{W:World}{T T':TypeId}{n b:Nat}{v:Value}{xs:List Value}{cs:Array Value}(ho:W.ownsRow 0 T 1 v n xs)(hb:W.heap[b]?=some (.cells cs T' (0,0)))(hT:T≠T'):∀k,v.ownBlock=some k->k≠b:=by
 intro k hk e;obtain⟨_,h1|⟨g,cap,cur,hv,_,hg,_⟩⟩:=ho
 ·rw[h1.1]at hk;cases hk
 ·rw[hv]at hk;have hgk:g=k:=by simpa [Value.ownBlock]using hk
  rw[hgk,e,hb]at hg;injection hg with hg;injection hg with _ ht;exact hT ht.symm
end
end Go.Proofs.YtjdlndhfaaolaaaGreatDoor
