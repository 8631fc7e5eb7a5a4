import Derived.Test.YtjdlndhfaaolaaaGreatDoorT37
set_option maxHeartbeats 20000000
namespace Go.Proofs.YtjdlndhfaaolaaaGreatDoor
section
set_option maxRecDepth 100000
open Go.RowKit
open Go.Deep (BT)
variable {C:MC} {D X:Nat->Prop} {w w':World} {m:MS} {β:Nat->Nat}
theorem T9(h:C.Ms D X β w m)(i:Af){m':MS}(hp:∀W,C.Ms D (Cs X w) β W m.pop.pop->Calls Tryz.prog 211 #[.pointer (some ⟨C.mb,0,none⟩),B0 β m.pop.top,B0 β m.top,Ac i] W (MP C D (Cs X w) β W m' (.bool false))):Calls Tryz.prog 164 #[.pointer (some ⟨C.mb,0,none⟩),Ac i] w (MP C D X β w m' (.tuple #[])):=by
 obtain⟨w0,An,Aq,Ah,Am,Ar,n0,n1,n2,n3,n4,n5,n6,n7,ln,lb,C2⟩:=h.C6 i;clear h;have HT:=A0 (Ei Aq.o);have HH:=A0 hp;clear hp;generalize m.pop.top=u at *;generalize m.top=p at *;unfold Ac;unfold Ac at HH;go_enter Tryz.func164,Tryz.ntmps164;go_wp2_with fail
 rw[<-An.o];refine HT.o.mono ?_;rintro e w1 ⟨rfl,h1,k1⟩;unfold B0 at HH ⊢;have Bp:=h1.Aw;have A7:=A0 h1;have A4:Hid (A3 (dx D X) w w1):=Ah.o.trans (Ag k1);have Ad:=(k1.block _ Am.o).trans Ar.o;clear n0 n1 n2 n3 n4 n5 n6 n7 ln;obtain⟨n0,n1,n2,n3,n4,n5,n6,n7,ln⟩:=B3 Ad;have Bt:=A0 Ad;clear h1 k1 Ad HT;have HH2:=A0 (fun(W:World) (hb:Below w1.heap.size w1 W)=>And.intro (HH.o W (A7.o.below hb).1) (A4.o.trans (Ag (A7.o.below hb).2)));clear HH;go_wp2_with fail
 refine((HH2.o _ z50a).1).mono ?_;rintro e w2 ⟨rfl,h2,k2⟩;have Aj:=A0 h2.back;have Aa:Hid (A3 (dx D X) w w2):=(HH2.o _ z50a).2.trans (Ag k2);clear h2 k2;go_wp2;refine bodyPost_ret (v:=.tuple #[]) (by simp[results,Tryz.results164,go_sem]) rfl ?_;exact z3ba
theorem A4h(w:World)(a b:Obj):∃W,W=(w.alloc a).alloc b/\W.heap[w.heap.size]?=some a/\W.heap[w.heap.size+1]?=some b/\Below w.heap.size w W/\W.heap.size=w.heap.size+2:=by
 have z0:=alloc_old (o':=b) (heap_alloc_new w a);have z1:=heap_alloc_new (w.alloc a) b;have hs:∀(v:World) (o:Obj),(v.alloc o).heap.size=v.heap.size+1:=fun v o=>by simp
 simp only[hs]at z0 z1;exact⟨_,rfl,z0,z1,Below.alloc (Below.alloc (Below.refl _ _) (Nat.le_refl _) _) z56a _,by simp⟩
theorem z2fa {P:Prop} (h:P:=by
  unfold G3 sizeOf';rw[if_neg z51a,if_pos Gr,hr];show Value.tuple #[.int .i64 (((some (((m.arr)[r]?).getD []).length).getD 0:Nat):Int),.bool true]=_;rw[List.getElem?_eq_getElem hra];rfl):P:=h
theorem A75(h:C.Ms D X β w m)(i:Af){r k:Nat}(hr:m.pop.top.r=some r)(hra:r<m.arr.length)(Gr:m.pop.top.k=4)(Cm:m.top.k=2)(hkn:m.top.n=(k:Nat))(hki:k<m.arr[r].length)(hn:m.vals.length<=100000)(hvv:Cc m.arr.length m.arr[r][k]):Calls Tryz.prog 164 #[.pointer (some ⟨C.mb,0,none⟩),Ac i] w (MP C D X β w (m.pop.pop.push m.arr[r][k]) (.tuple #[])):=by
 obtain⟨w0,An,Aq,Ah,Am,Ar,n0,n1,n2,n3,n4,n5,n6,n7,ln,lb,C2⟩:=h.C6 i;clear h;have HT:=A0 (Ei Aq.o);have hs:G3 m.pop.pop m.pop.top=.tuple #[.int .i64 (m.arr[r].length:Nat),.bool true]:=by
  exact z2fa
 have hvu:Cc m.arr.length m.pop.top:=by unfold Cc;rw[hr];exact⟨Gr,hra⟩
 have HH:=A0 (fun(W:World) (hs':C.Ms D (Cs X w) β W m.pop.pop)=>A1o hs' m.pop.top m.top i hvu hs Cm z51a z51a);have HA:Hid (∀W:World,C.Ms D (Cs X w) β W m.pop.pop->∃a c,W.cell? ⟨β r,0,none⟩=some (.slice a m.arr[r].length c)/\β r<W.heap.size/\W.ownsRow 0 225 5 (.slice a m.arr[r].length c) m.arr[r].length (C0 (Cb β) m.arr[r])):=fun W hs'=>hs'.Vp hra;have hl:m.pop.pop.vals.length+1<=100000:=by simp only[MS.pop,List.length_dropLast];omega
 have HP:=A0 (fun(W:World) (hs':C.Ms D (Cs X w) β W m.pop.pop)=>hs'.push m.arr[r][k] hvv hl);have er:Bq β m.pop.top=some ⟨β r,0,none⟩:=by unfold Bq;rw[hr]
 have t3:(((m.pop.top.k:Nat):Int)==3)=false:=by rw[Gr];rfl
 clear hr Gr Cm hs hvu hl hvv hn;generalize hx:m.arr[r][k]=x at *;generalize hL:m.arr[r]=L at *;have HX:=A0 hx;clear hx hL;generalize m.pop.top=u at *;generalize m.top=p at *;unfold Ac;unfold Ac at HH;unfold B0 at HH HP HT;rw[er]at HH HT;have t1:(0:Int)<=(k:Int):=by omega
 have t2:(k:Int)<(L.length:Int):=by omega
 rw[hkn]at HH HT;clear hkn er;go_enter Tryz.func164,Tryz.ntmps164;go_wp2_with fail
 rw[<-An.o];refine HT.o.mono ?_;rintro e w1 ⟨rfl,h1,k1⟩;have Bp:=h1.Aw;have A7:=A0 h1;have A4:Hid (A3 (dx D X) w w1):=Ah.o.trans (Ag k1);have Ad:=(k1.block _ Am.o).trans Ar.o;clear n0 n1 n2 n3 n4 n5 n6 n7 ln;obtain⟨n0,n1,n2,n3,n4,n5,n6,n7,ln⟩:=B3 Ad;obtain⟨W,hW,z0,z1,hbW,hsW⟩:=A4h w1 (.cells #[.int .i64 (u.k:Nat),.bool u.y,.int .i64 u.n,.string ⟨u.t.toArray⟩,.pointer (some ⟨β r,0,none⟩)] 225) (.cells #[.int .i64 (p.k:Nat),.bool p.y,.int .i64 (k:Nat),.string ⟨p.t.toArray⟩,.pointer (Bq β p)] 225);have HW:=A0 hW;have HH2:=A0 (HH.o W (A7.o.below hbW).1);have HBe:=A0 (fun(V:World) (hb:Below W.heap.size W V)=>A7.o.below (hbW.trans (hb.mono hbW.size)));clear hW hbW HH h1 k1 Ad HT;go_wp2_with fail
 rw[<-HW.o];refine HH2.o.mono ?_;rintro e w2 ⟨rfl,A8⟩;have q0:=(A8.block _ z51a).trans z0;have q1:=(A8.block _ z51a).trans z1;obtain⟨s1,s2⟩:=HBe.o w2 A8;obtain⟨a,c,c0,lr,ho⟩:=HA.o w2 s1;obtain⟨g,ea,_,hcp,lg,hcell⟩:=G2 ho z51a;subst ea;have hat:∀j v,(Cb β x)[j]?=some v->j<5->w2.cell? ⟨g,k*5+j,none⟩=some v:=fun j v hv hj=>hcell (k*5+j) v ((D6 (f:=Cb β) (sz:=5) (fun _=>rfl) L k j hki hj).trans (by rw[HX.o];exact hv));have e0:=hat 0 _ rfl z51a;have e1:=hat 1 _ rfl z51a;have e2:=hat 2 _ rfl z51a;have e3:=hat 3 _ rfl z51a;have e4:=hat 4 _ rfl z51a;rw[Nat.add_zero]at e0;obtain⟨u0,u1,u2,u3,u4,lu⟩:=Jl q0;obtain⟨p0,p1,p2,p3,p4,lp⟩:=Jl q1;have E2:=s1.Aw;have B4:=A0 (HP.o _ s1.Hq);have Aa:Hid (A3 (dx D X) w w2):=A4.o.trans (Ag s2);clear A8 q0 q1 s1 s2 ho hcell hat z0 z1 HP HA HBe HH2 HX;go_wp2;refine Ic 12 z53a z53a ?_;simp only[List.take_succ_cons,List.take_zero,List.drop_succ_cons,List.drop_zero];iterate 12 (refine Ez (fun K' hK'=>?_);go_simp;refine hK' _ ?_;clear hK' K')
 refine Ib ?_;go_wp2_with fail
 refine(B4.o).mono ?_;rintro e w3 ⟨rfl,h3,k3⟩;have Bg:=A0 h3.back;have Ay:Hid (A3 (dx D X) w w3):=Aa.o.trans ((Dv _ w2 1).trans (Ag k3));clear h3 k3;exact z27a
end
section
open Go.RowKit
open Go.Deep (BT)
variable {C:MC} {D X:Nat->Prop} {w w':World} {m:MS} {ρ β:Nat->Nat} {s:O4} {x:Eu} {fv:List Eu} {ab:List AB} {lp:List (Option Addr×Ey)}
theorem MC.Mv.A3n(h:C.Mv D X w m ρ β s x fv ab lp){r:Nat}(hr:r<m.arr.length)(ho:w'.os=w.os)(ht:w'.tape=w.tape)(hu:w'.output=w.output)(hz:w.heap.size<=w'.heap.size)(hk:∀g,g<w.heap.size->ρ g≠7+2*r->ρ g≠8+2*r->w'.heap[g]?=w.heap[g]?){nb:AB}{l:List PV}
  (hh:w'.heap[β r]?=some (.cells #[La nb] 356 (0,0))) (hrow:w'.ownsRow 0 225 5 (La nb) l.length (C0 (Cb β) l)) (hro:∀g,(La nb).ownBlock=some g->(La (ab[r]'(by rw[h.arr.len];exact hr))).ownBlock=some g\/w.heap.size<=g) (hvv:∀v∈l,Cc m.arr.length v) :
  C.Mv D X w' { m with arr:=m.arr.set r l } (F3 ρ w.heap.size (8+2*r)) β s x fv (ab.set r nb) lp/\A3 (dx D X) w w':=by
 have hl:=h.arr.len;have hrb:r<ab.length:=by omega
 have hlow:∀g,g<w.heap.size->ρ g<=6->w'.heap[g]?=w.heap[g]?:=fun g hg h6=>hk g hg z51a z51a;have hbd:A3 (dx D X) w w':=⟨ho,ht,hu,hz,fun g hg=>hlow g (h.prot g hg).1 (by rw[(h.prot g hg).2];omega)⟩;have hkD:∀g,D g->g<w.heap.size->w'.heap[g]?=w.heap[g]?/\D g:=fun g hg _=>⟨hbd.block g (.inl hg),hg⟩;have hmb:w'.heap[C.mb]?=w.heap[C.mb]?:=hlow _ h.lo.1 z5pa;have hlen:(m.arr.set r l).length=m.arr.length:=by simp
 have up:∀g,g<w.heap.size->F3 ρ w.heap.size (8+2*r) g=ρ g:=fun g hg=>Br hg;refine⟨⟨hmb.trans h.cell,h.prog.keep hkD,B8 h.lots (fun g hg hl'=>hlow g hl' z5ea),fun g hg=>by rw[up g (Bs h.lots g hg)];exact h.loto g hg,h.lotm,fun q hq=>(h.forms q hq).keep hkD,
  B8 h.gl (fun g hg hl'=>hlow g hl' z5ga),fun g hg=>by rw[up g (Bs h.gl g hg)];exact h.glo g hg,
  B8 h.vals (fun g hg hl'=>hlow g hl' z5ca),fun g hg=>by rw[up g (Bs h.vals g hg)];exact h.valo g hg,
  B8 h.calls (fun g hg hl'=>hlow g hl' z5ba),fun g hg=>by rw[up g (Bs h.calls g hg)];exact h.callo g hg,h.frs.keep hkD,h.now.keep hkD,
  B8 h.out (fun g hg hl'=>hlow g hl' z5da),fun g hg=>by rw[up g (Bs h.out g hg)];exact h.outo g hg,⟨by simp[hl],fun i hi hi'=>?_⟩,
  fun g hg=>⟨Nat.lt_of_lt_of_le (h.prot g hg).1 hz,by rw[up g (h.prot g hg).1];exact(h.prot g hg).2⟩,⟨by rw[up _ h.lo.1];exact h.one.1,fun g hg=>?_⟩,h.Bw,?_⟩,hbd⟩
 ·have Ad:i<ab.length:=by simpa using hi
  have Ax:i<m.arr.length:=by simpa using hi'
  obtain⟨a1,a2,a3,a4⟩:=h.arr.at' i Ad Ax;by_cases e:i=r
  ·subst e;have e1:(ab.set i nb)[i]'hi=nb:=by simp
   have e2:(m.arr.set i l)[i]'hi'=l:=by simp
   rw[e1,e2];refine⟨hh,hrow,by rw[up _ (A5 a1)];exact a3,fun g hg=>?_⟩;rcases hro g hg with q|q
   ·rw[up g (Bs a2 g q)];exact a4 g q
   ·exact Hi q
  ·have e1:(ab.set r nb)[i]'hi=ab[i]:=by rw[List.getElem_set_ne (fun q=>e q.symm)]
   have e2:(m.arr.set r l)[i]'hi'=m.arr[i]:=by rw[List.getElem_set_ne (fun q=>e q.symm)]
   rw[e1,e2];refine⟨(hk _ (A5 a1) (by rw[a3];omega) (by rw[a3];omega)).trans a1,B8 a2 (fun g hg hl'=>hk g hl' (by rw[a4 g hg];omega) (by rw[a4 g hg];omega)),by rw[up _ (A5 a1)];exact a3,fun g hg=>by rw[up g (Bs a2 g hg)];exact a4 g hg⟩
 ·by_cases hlt:g<w.heap.size
  ·rw[up g hlt]at hg;exact h.one.2 g hg
  ·rw[Hi z51a]at hg;omega
 ·rw[hlen];refine⟨h.vv.1,h.vv.2.1,fun l' hl' v hv=>?_⟩;rcases List.mem_or_eq_of_mem_set hl' with q|q
  ·exact h.vv.2.2 l' q v hv
  ·rw[q]at hv;exact hvv v hv
end
section
open Go.RowKit
open Go.Deep (BT)
variable {C:MC} {D X:Nat->Prop} {w w':World} {m:MS} {β:Nat->Nat}
theorem MC.Ms.A7t(h:C.Ms D X β w m){r:Nat}(hr:r<m.arr.length){a:Option Addr}{c:Nat}(hc:w.cell? ⟨β r,0,none⟩=some (.slice a m.arr[r].length c)){w1:World}{g cap:Nat}(v:PV)(hv:Cc m.arr.length v)(ho:w1.ownsRow 0 225 5 (.slice (some ⟨g,0,none⟩) (m.arr[r].length+1) cap) (m.arr[r].length+1) (C0 (Cb β) m.arr[r]++Cb β v))(hg:w.grownBy w1 (Value.slice a m.arr[r].length c).ownBlock)(hat:(Value.slice a m.arr[r].length c).ownBlock=some g\/w.heap.size<=g) :
  C.Ms D X β (w1.setCell ⟨β r,0,none⟩ (.slice (some ⟨g,0,none⟩) (m.arr[r].length+1) cap)) { m with arr:=m.arr.set r (m.arr[r]++[v]) }/\A3 (dx D X) w (w1.setCell ⟨β r,0,none⟩ (.slice (some ⟨g,0,none⟩) (m.arr[r].length+1) cap)):=by
 obtain⟨ρ,s,x,fv,ab,lp,h⟩:=h;have hl:=h.arr.len;obtain⟨a1,a2,a3,a4⟩:=h.arr.at' r z51a hr;have c0:=(A2 a1 0 _ rfl).symm.trans hc;have c1:La (ab[r]'z51a)=.slice a m.arr[r].length c:=by injection c0
 have lr:=A5 a1;have hrow:∀q,(Value.slice a m.arr[r].length c).ownBlock=some q->ρ q=8+2*r:=fun q hq=>a4 q (by rw[c1];exact hq);have hnb:(Value.slice a m.arr[r].length c).ownBlock≠some (β r):=fun e=>by have:=hrow _ e;rw[a3]at this;omega
 have b1:=(hg.block (β r) lr (fun e=>hnb e.symm)).trans a1;have hgr:g≠β r:=by
  rcases hat with e|e
  ·exact fun q=>hnb (by rw[<-q];exact e)
  ·omega
 have hq:=h.A3n (w':=w1.setCell ⟨β r,0,none⟩ (.slice (some ⟨g,0,none⟩) (m.arr[r].length+1) cap)) hr (by exact hg.os) (by exact hg.tape) (by exact hg.output) (by have:=hg.size;simp[World.setCell];omega) (fun q hq h7 h8=>(Below.heap_setCell _ _ _ _ (show q≠β r from fun e=>h7 (by rw[e];exact a3))).trans (hg.block q hq (fun e=>h8 (hrow q e.symm)))) (nb:=(some ⟨g,0,none⟩,m.arr[r].length+1,cap)) (l:=m.arr[r]++[v])
  (by rw[heap_set (j:=0) b1];rfl) (by
   have e:C0 (Cb β) (m.arr[r]++[v])=C0 (Cb β) m.arr[r]++Cb β v:=by rw[Qr];simp[C0]
   rw[e,List.length_append];exact B8 ho (fun k hk _=>Below.heap_setCell _ _ _ _ (show k≠β r from fun q=>hgr (by have:some g=some k:=hk;injection this with this;rw[this,q]))))
  (fun q hq=>by
   have e:g=q:=by have:some g=some q:=hq;injection this
   rw[c1,<-e];exact hat) (fun u hu=>by
   rcases List.mem_append.1 hu with q|q
   ·exact h.vv.2.2 _ (List.getElem_mem hr) u q
   ·rw[List.mem_singleton.1 q];exact hv)
 exact⟨⟨_,s,x,fv,_,lp,hq.1⟩,hq.2⟩
end
end Go.Proofs.YtjdlndhfaaolaaaGreatDoor
