import Derived.Test.YtjdlndhfaaolaaaGreatDoorT20
set_option maxHeartbeats 20000000
namespace Go.Proofs.YtjdlndhfaaolaaaGreatDoor
section
open Go.RowKit
open Go.Deep (BT)
theorem Wv:(Tryz.prog.info? 251).map (fun i=>(i.zero,i.size,i.bytes))=some (some (.agg #[.int .i64 0,.int .i64 0,.int .i64 0,.int .i64 0,.bool false,.int .i64 0,.string ⟨#[]⟩,.pointer none]),8,72):=by kernel_rfl
structure Hl (D : Nat -> Prop) (wb te : Nat) (w : World) (fs gs ls ps : Value) (slots : Nat) (st : List Af) (sa : Option Addr) (sn sc : Nat) : Prop where
 cell:w.heap[wb]?=some (.cells #[fs,gs,ls,ps,.int .i64 (slots:Nat),.slice sa sn sc] te (0,0))
 own:w.ownsRow 0 251 8 (.slice sa sn sc) st.length (El st)
 Gv:¬D wb
 D7:∀g,(Value.slice sa sn sc).ownBlock=some g->¬D g/\g≠wb
 lo:∀g,D g->g<w.heap.size
def K2(D:Nat->Prop)(wb te:Nat)(w:World)(fs gs ls ps:Value)(slots:Nat)(st:List Af):Prop:=∃sa sn sc,Hl D wb te w fs gs ls ps slots st sa sn sc
structure EC where
 wb:Nat
 te:Nat
 fns:List (Nm×Nat)
 fa:Option Addr
 fn:Nat
 fc:Nat
 gl:List Nm
 ga:Option Addr
 gn:Nat
 gc:Nat
structure EC.Ex (K : EC) (D : Nat -> Prop) (w : World) (la : Option Addr) (ln lc : Nat) (ps : Value) (e : Em) : Prop where
 ew:K2 D K.wb K.te w (.slice K.fa K.fn K.fc) (.slice K.ga K.gn K.gc) (.slice la ln lc) ps e.slots e.st
 fr:I7 D w K.fns K.fa K.fn K.fc
 gr:Cz D w 9 1 (.slice K.ga K.gn K.gc) K.gl.length (Dg K.gl)
 lr:Cz D w 9 1 (.slice la ln lc) e.loc.length (Dg e.loc)
 Bw:e.loc.length<=100000/\K.gl.length<=100000
variable {K:EC} {D:Nat->Prop} {w w':World} {la:Option Addr} {ln lc:Nat} {ps:Value} {e e':Em}
theorem K2.keep{wb te:Nat}{fs gs ls ps:Value}{slots:Nat}{st:List Af}(h:K2 D wb te w fs gs ls ps slots st)(hk:∀g,g<w.heap.size->w'.heap[g]?=w.heap[g]?)(hs:w.heap.size<=w'.heap.size):K2 D wb te w' fs gs ls ps slots st:=by
 obtain⟨sa,sn,sc,h⟩:=h;exact⟨sa,sn,sc,(hk wb (A5 h.cell)).trans h.cell,B8 h.own (fun g _ hl=>hk g hl),h.Gv,h.D7,fun g hg=>Nat.lt_of_lt_of_le (h.lo g hg) hs⟩
theorem EC.Ex.next(h:K.Ex D w la ln lc ps e)(hb:A3 D w w')(hew:K2 D K.wb K.te w' (.slice K.fa K.fn K.fc) (.slice K.ga K.gn K.gc) (.slice la ln lc) ps e'.slots e'.st)(hl:e'.loc=e.loc):K.Ex D w' la ln lc ps e':=
 ⟨hew,h.fr.keep hb,h.gr.Bv hb,by rw[hl];exact h.lr.Bv hb,by rw[hl];exact h.Bw⟩
theorem EC.Ex.lo(h:K.Ex D w la ln lc ps e):(∀g,D g->g<w.heap.size)/\K.wb<w.heap.size/\¬D K.wb:=by
 obtain⟨_,_,_,h⟩:=h.ew;exact⟨h.lo,A5 h.cell,h.Gv⟩
theorem EC.Ex.keep(h:K.Ex D w la ln lc ps e)(hk:∀g,g<w.heap.size->w'.heap[g]?=w.heap[g]?)(hs:w.heap.size<=w'.heap.size)(ho:w'.os=w.os)(ht:w'.tape=w.tape)(hu:w'.output=w.output):K.Ex D w' la ln lc ps e:=
 h.next ⟨ho,ht,hu,hs,fun g hg=>hk g (h.lo.1 g hg)⟩ (h.ew.keep hk hs) rfl
theorem EC.Ex.drewN(h:K.Ex D w la ln lc ps e)(n:Nat):K.Ex D (w.drewN n) la ln lc ps e:=⟨h.ew.keep (fun _ _=>rfl) (Nat.le_refl _),h.fr.keep (Dv D w n),h.gr.Bv (Dv D w n),h.lr.Bv (Dv D w n),h.Bw⟩
theorem Hl.A34{wb te:Nat}{fs gs ls ps:Value}{slots:Nat}{st:List Af}{sa:Option Addr}{sn sc:Nat}(h:Hl D wb te w fs gs ls ps slots st sa sn sc)(i:Af){w1:World}{g cap:Nat}
  (hown:w1.ownsRow 0 251 8 (.slice (some ⟨g,0,none⟩) (st.length+1) cap) (st.length+1) (El st++Es i)) (hgr:w.grownBy w1 (Value.slice sa sn sc).ownBlock) (hat:(Value.slice sa sn sc).ownBlock=some g\/w.heap.size<=g) :
  Hl D wb te (w1.setCell ⟨wb,5,none⟩ (.slice (some ⟨g,0,none⟩) (st.length+1) cap)) fs gs ls ps slots (st++[i]) (some ⟨g,0,none⟩) (st.length+1) cap/\A3 D w (w1.setCell ⟨wb,5,none⟩ (.slice (some ⟨g,0,none⟩) (st.length+1) cap)):=by
 have hwb:w1.heap[wb]?=w.heap[wb]?:=hgr.block wb (A5 h.cell) (fun e=>(h.D7 wb e.symm).2 rfl);have hg:¬D g/\g≠wb:=by
  rcases hat with e|e
  ·exact h.D7 g e
  ·exact⟨fun hd=>by have:=h.lo g hd;omega,fun e2=>by have:=A5 h.cell;omega⟩
 refine⟨⟨?_,?_,h.Gv,?_,?_⟩,hgr.os,hgr.tape,hgr.output,by simp[World.setCell];exact hgr.size,?_⟩
 ·rw[heap_set (hwb.trans h.cell)];simp
 ·rw[Ae3,Ae6,List.length_append];exact B8 hown (fun k hk _=>Below.heap_setCell _ _ _ _ (by simp only[Value.ownBlock,Option.some.injEq]at hk;show k≠wb;rw[<-hk];exact hg.2))
 ·intro k hk;simp only[Value.ownBlock,Option.some.injEq]at hk;subst hk;exact hg
 ·intro k hk;have:=h.lo k hk;have:=hgr.size;simp[World.setCell];omega
 ·intro k hk;exact(Below.heap_setCell _ _ _ _ (by show k≠wb;exact fun e=>h.Gv (e ▸ hk))).trans (hgr.block k (h.lo k hk) (fun e=>(h.D7 k e.symm).1 hk))
end
section
set_option maxRecDepth 100000
open Go.RowKit
open Go.Deep (BT)
theorem Ws{D:Nat->Prop}{wb te:Nat}{w:World}{fs gs ls ps:Value}{slots:Nat}{st:List Af}(h:K2 D wb te w fs gs ls ps slots st) :
  Calls Tryz.prog 92 #[.pointer (some ⟨wb,0,none⟩)] w fun e w'=>e=.returned (.int .i64 (st.length:Nat))/\w'=w:=by
 obtain⟨sa,sn,sc,h⟩:=h;have c:=A2 h.cell 5 _ rfl;have lb:=A5 h.cell;have hv:sn=st.length:=(Cg h.own).1;subst hv;clear h;go_enter Tryz.func92,Tryz.ntmps92;exact z0xa
theorem Ko{D:Nat->Prop}{wb te:Nat}{w:World}{fs gs ls ps:Value}{slots:Nat}{st:List Af}(h:K2 D wb te w fs gs ls ps slots st)(hn:st.length<=900000)(op:Nat)(arg:Int)(line:Nat) :
  Calls Tryz.prog 55 #[.pointer (some ⟨wb,0,none⟩),.int .i64 (op:Nat),.int .i64 arg,.int .i64 (line:Nat)] w fun e w'=>e=.returned (.int .i64 (st.length:Nat))/\K2 D wb te w' fs gs ls ps slots (st++[⟨op,arg,line,Ab⟩])/\A3 D w w':=by
 obtain⟨sa,sn,sc,h⟩:=h;have c:=A2 h.cell 5 _ rfl;have lb:=A5 h.cell;have hv:sn=st.length:=(Cg h.own).1;subst hv;have hown:=h.own;have HH:=A0 h;have HP:=A0 (fun(w1:World) (g cap:Nat)=>h.A34 ⟨op,arg,line,Ab⟩ (w1:=w1) (g:=g) (cap:=cap));clear h;go_enter Tryz.func55,Tryz.ntmps55;go_wp2_with (at_builtin;refine Kb w #[.int .i64 (op:Nat),.int .i64 arg,.int .i64 (line:Nat),.int .i64 0,.bool false,.int .i64 0,.string ⟨#[]⟩,.pointer none] 251 rfl (.tmp 14) (.tmp 19) 96 rfl 0 8 72 _ Tryz.underlying96 Wv rfl z51a (.slice sa st.length sc) st.length (El st) rfl rfl hown rfl (fun v hv=>by simp at hv;rcases hv with rfl|rfl|rfl|rfl|rfl|rfl|rfl|rfl <;> rfl) z51a z51a (Nat.zero_le _) ?_;intro g cap w1 F0 hgrow hat hg;have A1:=(hgrow.block wb lb (fun e=>(HH.o.D7 wb e.symm).2 rfl)).trans HH.o.cell;have c1:=A2 A1 5 _ rfl;have f1:=Bh A1;have Bp:=A5 A1;have Bz:=A0 (HP.o w1 g cap F0 hgrow (hat.imp id (fun e=>by omega)));clear A1 F0 hgrow hat)
 refine(Ws ⟨_,_,_,Bz.o.1⟩).mono ?_;rintro e w' ⟨rfl,rfl⟩;have hl:((st++[(⟨op,arg,line,Ab⟩:Af)]).length:Int)=(st.length:Int)+1:=by simp
 rw[hl];clear hl;go_wp2;go_ret;exact⟨Xt z51a,⟨_,_,_,Bz.o.1⟩,Bz.o.2⟩
end
section
open Go.RowKit
open Go.Deep (BT)
def F3(ρ:Nat->Nat)(n c:Nat):Nat->Nat:=fun k=>if k<n then ρ k else c
def dX(n:Nat)(ρ:Nat->Nat):Nat->Prop:=fun g=>g<n/\ρ g≠1/\ρ g≠4
theorem Br{ρ:Nat->Nat}{n c k:Nat}(h:k<n):F3 ρ n c k=ρ k:=if_pos h
theorem Hi{ρ:Nat->Nat}{n c k:Nat}(h:n<=k):F3 ρ n c k=c:=if_neg z51a
theorem Ab5{ρ:Nat->Nat}{n n':Nat}(h:n<=n'):dX n' (F3 ρ n 4)=dX n ρ:=by
 funext g
 apply propext;unfold dX;by_cases hg:g<n
 ·rw[Br hg];exact⟨fun⟨_,h1,h2⟩=>⟨hg,h1,h2⟩,fun⟨_,h1,h2⟩=>⟨by omega,h1,h2⟩⟩
 ·rw[Hi z51a];exact⟨fun⟨_,_,h2⟩=>absurd rfl h2,fun⟨h1,_⟩=>absurd h1 hg⟩
abbrev LB:=Nat×Option Addr×Nat×Nat
def N0(b:LB):Value:=.slice b.2.1 b.2.2.1 b.2.2.2
def O3(w:World)(ρ:Nat->Nat):List LB->List (Nat×List Nat)->Prop
 | [],[]=>True
 | b::br,l::lr=>w.heap[b.1]?=some (.cells #[.int .i64 (l.1:Nat),N0 b] 263 (0,0))/\w.ownsRow 0 3 1 (N0 b) (Db l.2).length (Db l.2)/\ρ b.1=5+2*br.length/\(∀g,(N0 b).ownBlock=some g->ρ g=6+2*br.length)/\O3 w ρ br lr
 | [],_::_=>False
 | _::_,[]=>False
theorem O3.len{w:World}{ρ:Nat->Nat}:∀{bl:List LB} {ls:List (Nat×List Nat)},O3 w ρ bl ls->bl.length=ls.length:=by
 intro bl;induction bl with
 | nil=>intro ls h;cases ls with
  | nil=>rfl
  | cons=>exact h.elim
 | cons b br ih=>intro ls h;cases ls with
  | nil=>exact h.elim
  | cons l lr=>simp only[List.length_cons];rw[ih h.2.2.2.2]
theorem z5oa {P:Prop} (h:P:=by rw[h4 g hg];omega):P:=h
theorem O3.keep{w w':World}{ρ ρ':Nat->Nat}(n:Nat)(hk:∀g,g<w.heap.size->5<=ρ g->ρ g<5+2*n->w'.heap[g]?=w.heap[g]?/\ρ' g=ρ g):∀{bl:List LB} {ls:List (Nat×List Nat)},O3 w ρ bl ls->bl.length<=n->O3 w' ρ' bl ls:=by
 intro bl;induction bl with
 | nil=>intro ls h _;cases ls with
  | nil=>trivial
  | cons=>exact h.elim
 | cons b br ih=>intro ls h hn;cases ls with
  | nil=>exact h.elim
  | cons l lr=>
   obtain⟨h1,h2,h3,h4,h5⟩:=h;simp only[List.length_cons]at hn;have k1:=hk b.1 (A5 h1) z51a z51a;refine⟨k1.1.trans h1,B8 h2 (fun g hg hl=>(hk g hl z5oa z5oa).1),k1.2.trans h3,fun g hg=>?_,ih h5 z51a⟩;exact((hk g (Bs h2 g hg) z5oa z5oa).2).trans (h4 g hg)
theorem I7.weak{D D':Nat->Prop}{w:World}{fns:List (Nm×Nat)}{fa:Option Addr}{fn fc:Nat}(h:I7 D w fns fa fn fc)(hd:∀g,D g->D' g):I7 D' w fns fa fn fc:=by
 refine⟨h.len,h.Bw,h.cap,fun i hi=>?_⟩;obtain⟨g,pb,pa,pc,e1,e2,e3,e4,e5,e6⟩:=h.at' i hi;exact⟨g,pb,pa,pc,e1,hd _ e2,e3,e4,hd _ e5,e6⟩
theorem Cz.weak{D D':Nat->Prop}{w:World}{t:TypeId}{size:Nat}{v:Value}{n:Nat}{cs:List Value}(h:Cz D w t size v n cs)(hd:∀g,D g->D' g):Cz D' w t size v n cs:=h.keep (fun g hg _=>⟨rfl,hd g hg⟩)
theorem Bx.weak{D D':Nat->Prop}{w:World}{l:A6}{v:Value}{ks:List Value}(h:Bx D w l v ks)(hd:∀g,D g->D' g):Bx D' w l v ks:=Bx.keep (fun g hg _=>⟨rfl,hd g hg⟩) h
structure EC.Sv (K : EC) (D : Nat -> Prop) (w : World) (e : Em) (ρ : Nat -> Nat) (la : Option Addr) (ln lc : Nat) (pa : Option Addr) (pn pc : Nat) (bl : List LB) : Prop where
 ew:K2 (dX w.heap.size ρ) K.wb K.te w (.slice K.fa K.fn K.fc) (.slice K.ga K.gn K.gc) (.slice la ln lc) (.slice pa pn pc) e.slots e.st
 fr:I7 D w K.fns K.fa K.fn K.fc
 gr:Cz D w 9 1 (.slice K.ga K.gn K.gc) K.gl.length (Dg K.gl)
 lr:w.ownsRow 0 9 1 (.slice la ln lc) e.loc.length (Dg e.loc)
 lro:∀g,(Value.slice la ln lc).ownBlock=some g->ρ g=2
 pr:w.ownsRow 0 260 1 (.slice pa pn pc) (bl.map fun b=>Ch b.1).reverse.length (bl.map fun b=>Ch b.1).reverse
 pro:∀g,(Value.slice pa pn pc).ownBlock=some g->ρ g=3
 lps:O3 w ρ bl e.lps
 prot:∀g,D g->g<w.heap.size/\ρ g=0
 one:ρ K.wb=1/\∀g,ρ g=1->g=K.wb
 Bw:e.loc.length<=100000/\K.gl.length<=100000
def EC.St(K:EC)(lbs:List Nat)(D:Nat->Prop)(w:World)(e:Em):Prop:=∃ρ la ln lc pa pn pc bl,K.Sv D w e ρ la ln lc pa pn pc bl/\bl.map Prod.fst=lbs
variable {K:EC} {D:Nat->Prop} {w w':World} {e e':Em} {ρ:Nat->Nat} {la:Option Addr} {ln lc:Nat} {pa:Option Addr} {pn pc:Nat} {bl:List LB}
theorem EC.Sv.dx(h:K.Sv D w e ρ la ln lc pa pn pc bl):∀g,D g->dX w.heap.size ρ g:=fun g hg=>⟨(h.prot g hg).1,by rw[(h.prot g hg).2];omega,by rw[(h.prot g hg).2];omega⟩
theorem EC.Sv.N8(h:K.Sv D w e ρ la ln lc pa pn pc bl):K.Ex (dX w.heap.size ρ) w la ln lc (.slice pa pn pc) e:=
 ⟨h.ew,h.fr.weak h.dx,h.gr.weak h.dx,⟨h.lr,fun g hg=>⟨Bs h.lr g hg,by rw[h.lro g hg];omega,by rw[h.lro g hg];omega⟩⟩,h.Bw⟩
theorem EC.Sv.lo(h:K.Sv D w e ρ la ln lc pa pn pc bl):(∀g,D g->g<w.heap.size)/\K.wb<w.heap.size/\¬D K.wb:=
 ⟨fun g hg=>(h.prot g hg).1,h.N8.lo.2.1,fun hd=>by have:=(h.prot _ hd).2;have:=h.one.1;omega⟩
theorem EC.St.lo{lbs:List Nat}(h:K.St lbs D w e):(∀g,D g->g<w.heap.size)/\K.wb<w.heap.size/\¬D K.wb:=by
 obtain⟨_,_,_,_,_,_,_,_,h,_⟩:=h;exact h.lo
theorem z30a {P:Prop} (h:P:=by
  exact⟨Nat.lt_of_lt_of_le this.1 hb.size,by rw[Br this.1];exact this.2⟩):P:=h
theorem z17a {P:Prop} (h:P:=by
  by_cases hl:g<w.heap.size
  ·rw[Br hl]at hg;exact h.one.2 g hg
  ·rw[Hi z51a]at hg;cases hg):P:=h
theorem EC.Sv.Om(h:K.Sv D w e ρ la ln lc pa pn pc bl)(hb:A3 (dX w.heap.size ρ) w w')(hx:K.Ex (dX w.heap.size ρ) w' la ln lc (.slice pa pn pc) e')(hl:e'.lps=e.lps) :
  K.Sv D w' e' (F3 ρ w.heap.size 4) la ln lc pa pn pc bl/\A3 D w w':=by
 have hbd:A3 D w w':=hb.weak h.dx;refine⟨⟨by rw[Ab5 hb.size];exact hx.ew,h.fr.keep hbd,h.gr.Bv hbd,hx.lr.1,fun g hg=>by rw[Br (Bs h.lr g hg)];exact h.lro g hg,?_,fun g hg=>by rw[Br (Bs h.pr g hg)];exact h.pro g hg,?_,fun g hg=>?_,⟨by rw[Br h.lo.2.1];exact h.one.1,fun g hg=>?_⟩,hx.Bw⟩,hbd⟩
 ·exact B8 h.pr (fun g hg hl=>hb.block g ⟨hl,by rw[h.pro g hg];omega,by rw[h.pro g hg];omega⟩)
 ·rw[hl];exact h.lps.keep bl.length (fun g hl h5 _=>⟨hb.block g ⟨hl,by omega,by omega⟩,Br hl⟩) (Nat.le_refl _)
 ·have:=h.prot g hg;exact z30a
 ·exact z17a
structure Ga (c : Nat) (ρ : Nat -> Nat) (w w' : World) : Prop where
 os:w'.os=w.os
 tape:w'.tape=w.tape
 output:w'.output=w.output
 size:w.heap.size<=w'.heap.size
 block:∀k,k<w.heap.size->ρ k≠1->ρ k≠c->w'.heap[k]?=w.heap[k]?
theorem Hl.Mu{c:Nat}{fs gs ls ps:Value}{slots:Nat}{st:List Af}{wb te:Nat}{sa:Option Addr}{sn sc:Nat}(h:Hl (dX w.heap.size ρ) wb te w fs gs ls ps slots st sa sn sc)(hone:ρ wb=1/\∀g,ρ g=1->g=wb)(hc:Ga c ρ w w')(hc4:c≠4)(hc1:c≠1){ls' ps':Value}{slots':Nat}
  (hcell:w'.heap[wb]?=some (.cells #[fs,gs,ls',ps',.int .i64 (slots':Nat),.slice sa sn sc] te (0,0))):Hl (dX w'.heap.size (F3 ρ w.heap.size c)) wb te w' fs gs ls' ps' slots' st sa sn sc:=by
 have hwb:=A5 h.cell;have h4:∀g,(Value.slice sa sn sc).ownBlock=some g->ρ g=4:=by
  intro g hg;have h1:=h.D7 g hg;have h2:=Bs h.own g hg;by_cases e1:ρ g=1
  ·exact absurd (hone.2 g e1) h1.2
  ·by_cases e4:ρ g=4
   ·exact e4
   ·exact absurd ⟨h2,e1,e4⟩ h1.1
 refine⟨hcell,B8 h.own (fun g hg hl=>hc.block g hl z5oa z5oa),fun hd=>hd.2.1 (by rw[Br hwb];exact hone.1),fun g hg=>⟨fun hd=>hd.2.2 (by rw[Br (Bs h.own g hg)];exact h4 g hg),(h.D7 g hg).2⟩,fun g hg=>hg.1⟩
theorem Ft.Mu{row:Option Nat}{c:Nat}(h:Ft K.wb row w w')(hone:ρ K.wb=1)(hr:∀g,row=some g->ρ g=c):Ga c ρ w w':=
 ⟨h.os,h.tape,h.output,h.size,fun k hk h1 h2=>h.block k hk (fun e=>h1 (by rw[e];exact hone)) (fun e=>h2 (hr k e))⟩
theorem Ga.set{c:Nat}(h:Ga c ρ w w'){b:Nat}(hb:ρ b=1)(o:Nat)(v:Value):Ga c ρ w (w'.setCell ⟨b,o,none⟩ v):=
 ⟨h.os,h.tape,h.output,by simp[World.setCell];exact h.size,fun k hk h1 h2=>(Below.heap_setCell _ _ _ _ (by show k≠b;exact fun e=>h1 (by rw[e];exact hb))).trans (h.block k hk h1 h2)⟩
theorem Ga.Bv{c:Nat}(h:Ga c ρ w w')(hp:∀g,D g->g<w.heap.size/\ρ g=0)(hc:c≠0):A3 D w w':=
 ⟨h.os,h.tape,h.output,h.size,fun k hk=>h.block k (hp k hk).1 (by rw[(hp k hk).2];omega) (by rw[(hp k hk).2];omega)⟩
theorem On{c n:Nat}(hone:ρ K.wb=1/\∀g,ρ g=1->g=K.wb)(hw:K.wb<n)(hc:c≠1):F3 ρ n c K.wb=1/\∀g,F3 ρ n c g=1->g=K.wb:=by
 refine⟨by rw[Br hw];exact hone.1,fun g hg=>?_⟩;by_cases hl:g<n
 ·rw[Br hl]at hg;exact hone.2 g hg
 ·rw[Hi z51a]at hg;exact absurd hg hc
theorem Qm{c:Nat}(hp:∀g,D g->g<w.heap.size/\ρ g=0)(hs:w.heap.size<=w'.heap.size):∀g,D g->g<w'.heap.size/\F3 ρ w.heap.size c g=0:=
 fun g hg=>⟨Nat.lt_of_lt_of_le (hp g hg).1 hs,by rw[Br (hp g hg).1];exact(hp g hg).2⟩
theorem z2aa {P:Prop} (h:P:=by
  exact h.lps.keep bl.length (fun k hl h5 _=>⟨hc.block k hl z51a z51a,Br hl⟩) (Nat.le_refl _)):P:=h
theorem z45a {P:Prop} (h:P:=by
  rw[Br (Bs h.pr k hk)];exact h.pro k hk):P:=h
theorem z6qa {P:Prop} (h:P:=by rw[h.pro k hk];omega):P:=h
theorem z41a {P:Prop} (h:P:=by
  exact B8 h.pr (fun k hk hl=>hc.block k hl z6qa z6qa)):P:=h
theorem z6ua {P:Prop} (h:P:=by simp only[Value.ownBlock,ne_eq,Option.some.injEq];exact hgw):P:=h
theorem EC.Sv.Ai6(h:K.Sv D w e ρ la ln lc pa pn pc bl)(s:Nm){sa:Option Addr}{sn sc:Nat}(hv:Hl (dX w.heap.size ρ) K.wb K.te w (.slice K.fa K.fn K.fc) (.slice K.ga K.gn K.gc) (.slice la ln lc) (.slice pa pn pc) e.slots e.st sa sn sc){w1:World}(hn:e.loc.length+1<=100000)
  (hp:Ng 9 K.wb 2 w #[.slice K.fa K.fn K.fc,.slice K.ga K.gn K.gc,.slice la ln lc,.slice pa pn pc,.int .i64 (e.slots:Nat),.slice sa sn sc] K.te la ln lc (Dg e.loc) (Nv s) w1) :
  K.St (bl.map Prod.fst) D (w1.setCell ⟨K.wb,4,none⟩ (.int .i64 ((max e.slots (e.loc.length+1):Nat):Nat))) (e.local' s)/\A3 D w (w1.setCell ⟨K.wb,4,none⟩ (.int .i64 ((max e.slots (e.loc.length+1):Nat):Nat))):=by
 obtain⟨g,cap,hs,hat,hf⟩:=hp;have hc0:Ga 2 ρ w w1:=hf.Mu h.one.1 h.lro;have hc:=hc0.set h.one.1 4 (.int .i64 ((max e.slots (e.loc.length+1):Nat):Nat));have hwb:=A5 hv.cell;have hgw:g≠K.wb:=by
  have:=hs.ne;simp only[Value.ownBlock,ne_eq,Option.some.injEq]at this;exact this
 have hnm:Dg (e.loc++[s])=Dg e.loc++[Nv s]:=by simp[Dg]
 have hln:(Dg e.loc).length=e.loc.length:=by simp[Dg]
 refine⟨⟨F3 ρ w.heap.size 2,some ⟨g,0,none⟩,(Dg e.loc).length+1,cap,pa,pn,pc,bl,⟨⟨sa,sn,sc,hv.Mu h.one hc z51a z51a ?_⟩,h.fr.keep (hc.Bv h.prot z51a),h.gr.Bv (hc.Bv h.prot z51a),?_,?_,?_,?_,?_,Qm h.prot hc.size,On h.one hwb z51a,⟨?_,h.Bw.2⟩⟩,rfl⟩,hc.Bv h.prot z51a⟩
 ·rw[heap_set hs.blk];simp[Em.local']
 ·show(w1.setCell _ _).ownsRow 0 _ 1 _ (e.loc++[s]).length (Dg (e.loc++[s]));rw[hnm];have:=hs.own;rw[List.length_append,hln]at this;rw[List.length_append,hln];exact U9 this _ _ z6ua
 ·intro k hk;simp only[Value.ownBlock,Option.some.injEq]at hk;subst hk;rcases hat with h1|h1
  ·rw[Br (Bs h.lr g h1)];exact h.lro g h1
  ·exact Hi h1
 ·exact z41a
 ·intro k hk;exact z45a
 ·exact z2aa
 ·show(e.loc++[s]).length<=_;simp;omega
theorem z46a {P:Prop} (h:P:=by
  rw[Br (Bs h.lr k hk)];exact h.lro k hk):P:=h
theorem EC.Sv.Zy(h:K.Sv D w e ρ la ln lc pa pn pc bl)(m:Nat){sa:Option Addr}{sn sc:Nat}(hv:Hl (dX w.heap.size ρ) K.wb K.te w (.slice K.fa K.fn K.fc) (.slice K.ga K.gn K.gc) (.slice la ln lc) (.slice pa pn pc) e.slots e.st sa sn sc)
  (hp:Lr 9 K.wb 2 w #[.slice K.fa K.fn K.fc,.slice K.ga K.gn K.gc,.slice la ln lc,.slice pa pn pc,.int .i64 (e.slots:Nat),.slice sa sn sc] K.te la ln lc (Dg e.loc) m w'):K.St (bl.map Prod.fst) D w' (e.cut m)/\A3 D w w':=by
 obtain⟨hs,hf⟩:=hp;have hc:Ga 2 ρ w w':=hf.Mu h.one.1 h.lro;have hwb:=A5 hv.cell;have hnm:Dg (e.loc.take m)=(Dg e.loc).take m:=by simp[Dg,List.map_take]
 have ho:∀g,(Value.slice la m lc).ownBlock=some g->(Value.slice la ln lc).ownBlock=some g:=fun g e=>(Mb _ _ _ _).trans e;refine⟨⟨F3 ρ w.heap.size 2,la,m,lc,pa,pn,pc,bl,⟨⟨sa,sn,sc,hv.Mu h.one hc z51a z51a ?_⟩,h.fr.keep (hc.Bv h.prot z51a),h.gr.Bv (hc.Bv h.prot z51a),?_,?_,?_,?_,?_,Qm h.prot hc.size,On h.one hwb z51a,⟨?_,h.Bw.2⟩⟩,rfl⟩,hc.Bv h.prot z51a⟩
 ·rw[hs.blk];simp[Em.cut]
 ·show w'.ownsRow 0 _ 1 _ (e.loc.take m).length (Dg (e.loc.take m));rw[hnm];have:=hs.own;rw[List.length_take]at this ⊢;simpa [Dg]using this
 ·intro k hk;have hk:=ho k hk;exact z46a
 ·exact z41a
 ·intro k hk;exact z45a
 ·exact z2aa
 ·show(e.loc.take m).length<=_;have:=h.Bw.1;simp;omega
end
section
open Go.RowKit
open Go.Deep (BT)
variable {K:EC} {D:Nat->Prop} {w w':World} {e e':Em} {ρ:Nat->Nat} {la:Option Addr} {ln lc:Nat} {pa:Option Addr} {pn pc:Nat} {bl:List LB}
theorem EC.Sv.alloc(h:K.Sv D w e ρ la ln lc pa pn pc bl)(o:Obj)(c:Nat)(hc:5<=c):K.Sv D (w.alloc o) e (F3 ρ w.heap.size c) la ln lc pa pn pc bl:=by
 obtain⟨sa,sn,sc,hv⟩:=h.ew;have hk:∀g,g<w.heap.size->(w.alloc o).heap[g]?=w.heap[g]?:=fun g hg=>Below.heap_alloc _ _ _ hg;have hch:Ga c ρ w (w.alloc o):=⟨rfl,rfl,rfl,by simp,fun k hk1 _ _=>hk k hk1⟩;have hbd:=hch.Bv h.prot z51a;have hwb:=A5 hv.cell;exact⟨⟨sa,sn,sc,hv.Mu h.one hch z51a z51a ((hk _ hwb).trans hv.cell)⟩,h.fr.keep hbd,h.gr.Bv hbd,B8 h.lr (fun g _ hl=>hk g hl),fun g hg=>by rw[Br (Bs h.lr g hg)];exact h.lro g hg,
  B8 h.pr (fun g _ hl=>hk g hl),fun g hg=>by rw[Br (Bs h.pr g hg)];exact h.pro g hg,h.lps.keep bl.length (fun g hl _ _=>⟨hk g hl,Br hl⟩) (Nat.le_refl _),Qm h.prot hch.size,On h.one hwb z51a,h.Bw⟩
theorem z6sa {P:Prop} (h:P:=by rw[h.lro k hk];omega):P:=h
theorem z42a {P:Prop} (h:P:=by
  exact B8 h.lr (fun k hk hl=>hc.block k hl z6sa z6sa)):P:=h
theorem EC.Sv.Xq(h:K.Sv D w e ρ la ln lc pa pn pc bl)(s lb:Nat){sa:Option Addr}{sn sc:Nat}(hv:Hl (dX w.heap.size ρ) K.wb K.te w (.slice K.fa K.fn K.fc) (.slice K.ga K.gn K.gc) (.slice la ln lc) (.slice pa pn pc) e.slots e.st sa sn sc)
  (hb:w.heap[lb]?=some (.cells #[.int .i64 (s:Nat),.slice none 0 0] 263 (0,0))) (hr:ρ lb=5+2*bl.length)
  (hp:Ng 260 K.wb 3 w #[.slice K.fa K.fn K.fc,.slice K.ga K.gn K.gc,.slice la ln lc,.slice pa pn pc,.int .i64 (e.slots:Nat),.slice sa sn sc] K.te pa pn pc (bl.map fun b=>Ch b.1).reverse (Ch lb) w') :
  K.St (lb::bl.map Prod.fst) D w' ⟨e.loc,e.slots,e.st,(s,[])::e.lps⟩/\A3 D w w':=by
 obtain⟨g,cap,hs,hat,hf⟩:=hp;have hc:Ga 3 ρ w w':=hf.Mu h.one.1 h.pro;have hwb:=A5 hv.cell;have hbd:=hc.Bv h.prot z51a;refine⟨⟨F3 ρ w.heap.size 3,la,ln,lc,some ⟨g,0,none⟩,(bl.map fun b=>Ch b.1).reverse.length+1,cap,(lb,none,0,0)::bl,⟨⟨sa,sn,sc,hv.Mu h.one hc z51a z51a ?_⟩,h.fr.keep hbd,h.gr.Bv hbd,?_,?_,?_,?_,?_,Qm h.prot hc.size,On h.one hwb z51a,h.Bw⟩,rfl⟩,hbd⟩
 ·rw[hs.blk];simp
 ·exact z42a
 ·intro k hk;exact z46a
 ·have:=hs.own;rw[List.map_cons,List.reverse_cons];exact this
 ·intro k hk;simp only[Value.ownBlock,Option.some.injEq]at hk;subst hk;rcases hat with h1|h1
  ·rw[Br (Bs h.pr g h1)];exact h.pro g h1
  ·exact Hi h1
 ·refine⟨(hc.block lb (A5 hb) (by rw[hr];omega) (by rw[hr];omega)).trans hb,World.ownsRow_nil _ _ _ _,by rw[Br (A5 hb)];exact hr,fun k hk=>by simp[N0,Value.ownBlock]at hk,?_⟩;exact z2aa
theorem EC.Sv.Ahh{b:LB}{br:List LB}(h:K.Sv D w e ρ la ln lc pa pn pc (b::br)){sa:Option Addr}{sn sc:Nat}(hv:Hl (dX w.heap.size ρ) K.wb K.te w (.slice K.fa K.fn K.fc) (.slice K.ga K.gn K.gc) (.slice la ln lc) (.slice pa pn pc) e.slots e.st sa sn sc)
  (hp:Lr 260 K.wb 3 w #[.slice K.fa K.fn K.fc,.slice K.ga K.gn K.gc,.slice la ln lc,.slice pa pn pc,.int .i64 (e.slots:Nat),.slice sa sn sc] K.te pa pn pc ((b::br).map fun b=>Ch b.1).reverse br.length w') :
  K.St (br.map Prod.fst) D w' e.close/\A3 D w w':=by
 obtain⟨hs,hf⟩:=hp;have hc:Ga 3 ρ w w':=hf.Mu h.one.1 h.pro;have hwb:=A5 hv.cell;have hbd:=hc.Bv h.prot z51a;have ho:∀g,(Value.slice pa br.length pc).ownBlock=some g->(Value.slice pa pn pc).ownBlock=some g:=fun g e=>(Mb _ _ _ _).trans e;have htk:(((b::br).map fun b=>Ch b.1).reverse).take br.length=(br.map fun b=>Ch b.1).reverse:=by
  rw[List.map_cons,List.reverse_cons,List.take_append_of_le_length z56a];rw[List.take_of_length_le z56a]
 have hlp:=h.lps;obtain⟨l,lr,hl⟩:∃l lr,e.lps=l::lr:=by
  cases hq:e.lps with
  | nil=>rw[hq]at hlp;exact hlp.elim
  | cons l lr=>exact⟨l,lr,rfl⟩
 rw[hl]at hlp;refine⟨⟨F3 ρ w.heap.size 3,la,ln,lc,pa,br.length,pc,br,⟨⟨sa,sn,sc,hv.Mu h.one hc z51a z51a ?_⟩,h.fr.keep hbd,h.gr.Bv hbd,?_,?_,?_,?_,?_,Qm h.prot hc.size,On h.one hwb z51a,h.Bw⟩,rfl⟩,hbd⟩
 ·rw[hs.blk];simp[Em.close]
 ·exact z42a
 ·intro k hk;exact z46a
 ·have:=hs.own;rw[htk]at this;exact this
 ·intro k hk;have hk:=ho k hk;exact z45a
 ·show O3 _ _ _ e.lps.tail;rw[hl];exact hlp.2.2.2.2.keep br.length (fun k hl h5 _=>⟨hc.block k hl z51a z51a,Br hl⟩) (Nat.le_refl _)
theorem z5pa {P:Prop} (h:P:=by rw[h.one.1];omega):P:=h
theorem EC.Sv.A6o{b:LB}{br:List LB}(h:K.Sv D w e ρ la ln lc pa pn pc (b::br)){s:Nat}{bs:List Nat}{r:List (Nat×List Nat)}(he:e.lps=(s,bs)::r)(j:Nat){w2:World}{g cap:Nat}
  (hown:w2.ownsRow 0 3 1 (.slice (some ⟨g,0,none⟩) ((Db bs).length+1) cap) ((Db bs).length+1) (Db bs++[P3 j])) (hgr:w.grownBy w2 (N0 b).ownBlock) (hat:(N0 b).ownBlock=some g\/w.heap.size<=g) :
  K.St (b.1::br.map Prod.fst) D (w2.setCell ⟨b.1,1,none⟩ (.slice (some ⟨g,0,none⟩) ((Db bs).length+1) cap)) ⟨e.loc,e.slots,e.st,(s,bs++[j])::r⟩/\A3 D w (w2.setCell ⟨b.1,1,none⟩ (.slice (some ⟨g,0,none⟩) ((Db bs).length+1) cap)):=by
 obtain⟨sa,sn,sc,hv⟩:=h.ew;have hwb:=A5 hv.cell;have hlp:=h.lps;rw[he]at hlp;obtain⟨h1,h2,h3,h4,h5⟩:=hlp;have hblk:∀k,k<w.heap.size->ρ k≠5+2*br.length->ρ k≠6+2*br.length->(w2.setCell ⟨b.1,1,none⟩ (.slice (some ⟨g,0,none⟩) ((Db bs).length+1) cap)).heap[k]?=w.heap[k]?:=by
  intro k hk e1 e2;exact(Below.heap_setCell _ _ _ _ (by show k≠b.1;exact fun e=>e1 (by rw[e];exact h3))).trans (hgr.block k hk (fun e=>e2 (h4 k e.symm)))
 have hsz:w.heap.size<=(w2.setCell ⟨b.1,1,none⟩ (.slice (some ⟨g,0,none⟩) ((Db bs).length+1) cap)).heap.size:=by simp[World.setCell];exact hgr.size
 have hwbk:=hblk K.wb hwb z5pa z5pa;have hbd:A3 D w (w2.setCell ⟨b.1,1,none⟩ (.slice (some ⟨g,0,none⟩) ((Db bs).length+1) cap)):=⟨hgr.os,hgr.tape,hgr.output,hsz,fun k hk=>hblk k (h.prot k hk).1 (by rw[(h.prot k hk).2];omega) (by rw[(h.prot k hk).2];omega)⟩;have A8:w2.heap[b.1]?=w.heap[b.1]?:=hgr.block b.1 (A5 h1) (fun e=>by have:=h4 b.1 e.symm;omega);have hgb:g≠b.1:=by
  rcases hat with e1|e1
  ·intro e2;have:=h4 g e1;rw[e2]at this;omega
  ·have:=A5 h1;omega
 have hew:Hl (dX (w2.setCell ⟨b.1,1,none⟩ (.slice (some ⟨g,0,none⟩) ((Db bs).length+1) cap)).heap.size (F3 ρ w.heap.size (6+2*br.length))) K.wb K.te (w2.setCell ⟨b.1,1,none⟩ (.slice (some ⟨g,0,none⟩) ((Db bs).length+1) cap)) (.slice K.fa K.fn K.fc) (.slice K.ga K.gn K.gc) (.slice la ln lc) (.slice pa pn pc) e.slots e.st sa sn sc:=by
  have q4:∀k,(Value.slice sa sn sc).ownBlock=some k->ρ k=4:=by
   intro k hk;have q1:=hv.D7 k hk;have q2:=Bs hv.own k hk;by_cases e1:ρ k=1
   ·exact absurd (h.one.2 k e1) q1.2
   ·by_cases e4:ρ k=4
    ·exact e4
    ·exact absurd ⟨q2,e1,e4⟩ q1.1
  exact⟨hwbk.trans hv.cell,B8 hv.own (fun k hk hl=>hblk k hl (by rw[q4 k hk];omega) (by rw[q4 k hk];omega)),fun hd=>hd.2.1 (by rw[Br hwb];exact h.one.1),fun k hk=>⟨fun hd=>hd.2.2 (by rw[Br (Bs hv.own k hk)];exact q4 k hk),(hv.D7 k hk).2⟩,fun k hk=>hk.1⟩
 refine⟨⟨F3 ρ w.heap.size (6+2*br.length),la,ln,lc,pa,pn,pc,(b.1,some ⟨g,0,none⟩,(Db bs).length+1,cap)::br,⟨⟨sa,sn,sc,hew⟩,h.fr.keep hbd,h.gr.Bv hbd,?_,?_,?_,?_,?_,Qm h.prot hsz,On h.one hwb z51a,h.Bw⟩,rfl⟩,hbd⟩
 ·exact B8 h.lr (fun k hk hl=>hblk k hl z6sa z6sa)
 ·intro k hk;exact z46a
 ·have:=B8 h.pr (fun k hk hl=>hblk k hl z6qa z6qa);simpa using this
 ·intro k hk;exact z45a
 ·refine⟨?_,?_,by rw[Br (A5 h1)];exact h3,fun k hk=>?_,?_⟩
  ·rw[heap_set (A8.trans h1)];simp[N0]
  ·have e1:Db (bs++[j])=Db bs++[P3 j]:=by simp[Db]
   rw[e1,List.length_append];exact U9 hown _ _ (by simp only[Value.ownBlock,ne_eq,Option.some.injEq];exact hgb)
  ·simp only[N0,Value.ownBlock,Option.some.injEq]at hk;subst hk;rcases hat with e1|e1
   ·rw[Br (Bs h2 g e1)];exact h4 g e1
   ·exact Hi e1
  ·exact h5.keep br.length (fun k hl k5 k6=>⟨hblk k hl z51a z51a,Br hl⟩) (Nat.le_refl _)
end
section
set_option maxRecDepth 100000
open Go.RowKit
variable {b o:Nat}{w:World}{cs:Array Value}{t:TypeId}{va:Option Addr}{vn vc:Nat}{xs:List Value}
theorem Ae0:(Tryz.prog.info? 260).map (fun i=>(i.zero,i.size,i.bytes))=some (some (.pointer none),1,8):=by kernel_rfl
theorem A3y(h:G4 260 b o w cs t va vn vc xs):Calls Tryz.prog 147 #[.pointer (some ⟨b,o,none⟩)] w fun e w'=>e=.returned (.int .i64 (xs.length:Nat))/\w'=w:=by
 have c:=Dq h.blk h.cell;have lb:=A5 h.blk;have hv:vn=xs.length:=(Cg h.own).1;subst hv;clear h;go_enter Tryz.func147,Tryz.ntmps147;exact z0xa
theorem Ajs(h:G4 260 b o w cs t va vn vc xs)(i:Nat)(hi:i<xs.length):Calls Tryz.prog 146 #[.pointer (some ⟨b,o,none⟩),.int .i64 (i:Nat)] w fun e w'=>e=.returned xs[i]/\w'=w:=by
 have c:=Dq h.blk h.cell;have lb:=A5 h.blk;have hv:vn=xs.length:=(Cg h.own).1;subst hv;obtain⟨g,rfl,_,hcap,lg,fz,hx,cg⟩:=Oo h.own i hi;clear h;generalize xs[i]=x at *;go_enter Tryz.func146,Tryz.ntmps146;exact z0xa
theorem A45(h:G4 260 b o w cs t va vn vc xs)(hn:xs.length<=1000000)(n:Nat)(hi:n<xs.length)(h0:xs.length=n+1):Calls Tryz.prog 96 #[.pointer (some ⟨b,o,none⟩)] w fun e w'=>e=.returned (xs[n]'hi)/\w'=w:=by
 have HL:=A0 (A3y h);have HA:=A0 (Ajs h n hi);rw[h0]at HL;have Dm:n<=1000000:=by omega
 generalize hx:xs[n]'hi=x at HA ⊢;clear h h0 hx;go_enter Tryz.func96,Tryz.ntmps96;exact z38a
theorem Amb(h:G4 260 b o w cs t va vn vc xs)(hn:xs.length<=900000)(u:Option Addr)(ho:o<cs.size):Calls Tryz.prog 144 #[.pointer (some ⟨b,o,none⟩),.pointer u] w fun e w'=>e=.returned (.tuple #[])/\Ng 260 b o w cs t va vn vc xs (.pointer u) w':=by
 have c:=Dq h.blk h.cell;have lb:=A5 h.blk;have fz:=Bh h.blk;have hv:vn=xs.length:=(Cg h.own).1;subst hv;have hown:=h.own;have HH:=A0 h;have HNe:=A0 h.ne;clear h;go_enter Tryz.func144,Tryz.ntmps144;go_wp2_with (at_builtin;refine Kb w #[.pointer u] 260 rfl (.tmp 8) (.tmp 10) 133 rfl 0 1 8 (.pointer none) Tryz.underlying133 Ae0 rfl z51a (.slice va xs.length vc) xs.length xs rfl rfl hown rfl (fun v hv=>by simp at hv;rw[hv];rfl) z51a z51a (Nat.zero_le _) ?_;intro g cap w1 F0 hgrow hat hg;have A1:=(hgrow.block b lb (fun e=>HNe.o e.symm)).trans HH.o.blk;have c1:=Dq A1 HH.o.cell;have f1:=Bh A1;have Bp:=A5 A1;have A4:=A0 A1;have HOwn1:=A0 F0;have HGrow:=A0 hgrow;have HAt:=A0 hat;clear A1 F0 hgrow hat)
 exact z08a
theorem Ajz(h:G4 260 b o w cs t va vn vc xs)(m:Nat)(hm:m<=xs.length)(ho:o<cs.size):Calls Tryz.prog 194 #[.pointer (some ⟨b,o,none⟩),.int .i64 (m:Nat)] w fun e w'=>e=.returned (.tuple #[])/\Lr 260 b o w cs t va vn vc xs m w':=by
 have c:=Dq h.blk h.cell;have lb:=A5 h.blk;have fz:=Bh h.blk;have hv:vn=xs.length:=(Cg h.own).1;subst hv;have HH:=A0 h;have HNe:=A0 h.ne;by_cases he:m=xs.length
 ·subst he;clear h;go_enter Tryz.func194,Tryz.ntmps194;go_wp2;refine bodyPost_ret (v:=.tuple #[]) (by simp[results,Tryz.results194,go_sem]) rfl ⟨rfl,?_,Ft.refl _ _ _⟩;exact z25a
 ·obtain⟨g,rfl,Gc,hcap,lg,fg,hx,cg⟩:=Oo h.own m z51a;obtain⟨hl,⟨h2,h3⟩|⟨g',cap,cur,hv,_,hg,hcap',hmx,hsz,ht⟩⟩:=h.own
  ·cases h2
  ·injection hv with e1 e2 e3;injection e1 with e1;injection e1 with e1;subst e1 e3;have hgb:g≠b:=fun e=>h.ne z5xa;have hcs:∀j,j<xs.length-m->(w.cell? ⟨g,m+j,none⟩).isSome=true:=by
    exact z1va
   have hcl:∀ty,(Builtin.clear_ #[133] ty #[.slice (some ⟨g,m,none⟩) (xs.length-m) (vc-m)]).run Tryz.prog w=.ok (.tuple #[]) (w.setCells g m (List.replicate (xs.length-m) (.pointer none))):=
    fun ty=>Lib.run_clear_slice w 133 260 ty (.pointer none) Tryz.underlying133 Tryz.zeroValue260 rfl rfl g m (xs.length-m) (vc-m) z51a hcs (fun j hj=>fg _)
   obtain⟨cur',k1,k2,k3⟩:=P9 g 260 (0,0) (List.replicate (xs.length-m) (.pointer none)) m cur w hg;obtain⟨f1,f2,f3,f4,f5⟩:=Kk g (List.replicate (xs.length-m) (.pointer none)) m w;have A1:=(f5 b (fun e=>hgb e.symm)).trans h.blk;have Hz:=A0 k1;have HK3:=A0 (k3 m (Nat.le_refl _));have HF:=A0 (And.intro f1 (And.intro f2 (And.intro f3 (And.intro f4 f5))));have HT:=A0 ht;have HSz:=A0 (k2.trans hsz);clear h hcs hg ht k1 k2 k3 f1 f2 f3 f5 hl hsz;have c1:=Dq A1 HH.o.cell;have g1:=Bh A1;have Bp:=A5 A1;have A4:=A0 A1;clear A1 f4;generalize w.setCells g m (List.replicate (xs.length-m) (.pointer none))=w1 at *;go_enter Tryz.func194,Tryz.ntmps194;exact z05a
theorem Am7(h:G4 260 b o w cs t va vn vc xs)(hn:xs.length<=1000000)(n:Nat)(hi:n<xs.length)(h0:xs.length=n+1)(ho:o<cs.size):Calls Tryz.prog 145 #[.pointer (some ⟨b,o,none⟩)] w fun e w'=>e=.returned (xs[n]'hi)/\Lr 260 b o w cs t va vn vc xs n w':=by
 have HT:=A0 (A45 h hn n hi h0);have HL:=A0 (A3y h);have HC:=A0 (Ajz h n z51a ho);rw[h0]at HL;have Dm:n<=1000000:=by omega
 generalize hx:xs[n]'hi=x at HT ⊢;clear h h0 hx;go_enter Tryz.func145,Tryz.ntmps145;exact z1ca
end
section
open Go.RowKit
open Go.Deep (BT)
theorem Vv{w:World}{g:Nat}{a0 a1:Value}{t:TypeId}(h:w.heap[g]?=some (.cells #[a0,a1] t (0,0))) :
  w.cell? ⟨g,0,none⟩=some a0/\w.cell? ⟨g,1,none⟩=some a1/\(∀o,w.frozen? ⟨g,o,none⟩=false)/\g<w.heap.size:=
 ⟨A2 h 0 _ rfl,A2 h 1 _ rfl,Bh h,A5 h⟩
theorem Jj.pos{line m:Nat}{ts:List Tk}(h:Jj line m ts):0<ts.length:=by
 cases ts with
 | nil=>exact absurd h id
 | cons x r=>simp
theorem Ago{w:World}{base:Nat}{e:TypeId}{size:Nat}{v:Value}{n:Nat}{xs:List Value}(h:w.ownsRow base e size v n xs)(hn:0<n) :
  ∃g cap cur,v=.slice (some ⟨g,0,none⟩) n cap/\base<=g/\w.heap[g]?=some (.cells cur e (0,0))/\n<=cap/\cur.toList.take (n*size)=xs:=by
 obtain⟨hl,⟨h2,h3⟩|⟨g,cap,cur,hv,hb,hg,hcap,_,_,ht⟩⟩:=h
 ·omega
 ·exact⟨g,cap,cur,hv,hb,hg,hcap,ht⟩
end
end Go.Proofs.YtjdlndhfaaolaaaGreatDoor
