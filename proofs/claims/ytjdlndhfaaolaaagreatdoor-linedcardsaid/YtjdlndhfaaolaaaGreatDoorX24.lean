import Derived.Test.YtjdlndhfaaolaaaGreatDoorX22
set_option maxHeartbeats 20000000
namespace Go.Proofs.YtjdlndhfaaolaaaGreatDoor
section
open Go.RowKit
open Go.Deep (BT)
theorem A1c:(Tryz.prog.info? 251).map (fun i=>(i.zero,i.size,i.bytes))=some (some (.agg #[.int .i64 0,.int .i64 0,.int .i64 0,.int .i64 0,.bool false,.int .i64 0,.string ⟨#[]⟩,.pointer none]),8,72):=by kernel_rfl
structure Hq (D : Nat -> Prop) (wb te : Nat) (w : World) (fs gs ls ps : Value) (slots : Nat) (st : List Af) (sa : Option Addr) (sn sc : Nat) : Prop where
 cell:w.heap[wb]?=some (.cells #[fs,gs,ls,ps,.int .i64 (slots:Nat),.slice sa sn sc] te (0,0))
 own:w.ownsRow 0 251 8 (.slice sa sn sc) st.length (Ez st)
 Gu:¬D wb
 Cp:∀g,(Value.slice sa sn sc).ownBlock=some g->¬D g/\g≠wb
 lo:∀g,D g->g<w.heap.size
def K8(D:Nat->Prop)(wb te:Nat)(w:World)(fs gs ls ps:Value)(slots:Nat)(st:List Af):Prop:=∃sa sn sc,Hq D wb te w fs gs ls ps slots st sa sn sc
structure EC where
 wb:Nat
 te:Nat
 fns:List (Nm×Nat)
 fa:Option Addr
 fn:Nat
 fc:Nat
 gl:List Nm
 ga:Option Addr
 gn:Nat
 gc:Nat
structure EC.Ex (K : EC) (D : Nat -> Prop) (w : World) (la : Option Addr) (ln lc : Nat) (ps : Value) (e : Em) : Prop where
 ew:K8 D K.wb K.te w (.slice K.fa K.fn K.fc) (.slice K.ga K.gn K.gc) (.slice la ln lc) ps e.slots e.st
 fr:Ik D w K.fns K.fa K.fn K.fc
 gr:Cr D w 9 1 (.slice K.ga K.gn K.gc) K.gl.length (Cz K.gl)
 lr:Cr D w 9 1 (.slice la ln lc) e.loc.length (Cz e.loc)
 Bz:e.loc.length<=100000/\K.gl.length<=100000
variable {K:EC} {D:Nat->Prop} {w w':World} {la:Option Addr} {ln lc:Nat} {ps:Value} {e e':Em}
theorem K8.keep{wb te:Nat}{fs gs ls ps:Value}{slots:Nat}{st:List Af}(h:K8 D wb te w fs gs ls ps slots st)(hk:∀g,g<w.heap.size->w'.heap[g]?=w.heap[g]?)(hs:w.heap.size<=w'.heap.size):K8 D wb te w' fs gs ls ps slots st:=by
 obtain⟨sa,sn,sc,h⟩:=h;exact⟨sa,sn,sc,(hk wb (A6 h.cell)).trans h.cell,B2 h.own (fun g _ hl=>hk g hl),h.Gu,h.Cp,fun g hg=>Nat.lt_of_lt_of_le (h.lo g hg) hs⟩
theorem EC.Ex.next(h:K.Ex D w la ln lc ps e)(hb:A2 D w w')(hew:K8 D K.wb K.te w' (.slice K.fa K.fn K.fc) (.slice K.ga K.gn K.gc) (.slice la ln lc) ps e'.slots e'.st)(hl:e'.loc=e.loc):K.Ex D w' la ln lc ps e':=
 ⟨hew,h.fr.keep hb,h.gr.Bf hb,by rw[hl];exact h.lr.Bf hb,by rw[hl];exact h.Bz⟩
theorem EC.Ex.lo(h:K.Ex D w la ln lc ps e):(∀g,D g->g<w.heap.size)/\K.wb<w.heap.size/\¬D K.wb:=by
 obtain⟨_,_,_,h⟩:=h.ew;exact⟨h.lo,A6 h.cell,h.Gu⟩
theorem EC.Ex.keep(h:K.Ex D w la ln lc ps e)(hk:∀g,g<w.heap.size->w'.heap[g]?=w.heap[g]?)(hs:w.heap.size<=w'.heap.size)(ho:w'.os=w.os)(ht:w'.tape=w.tape)(hu:w'.output=w.output):K.Ex D w' la ln lc ps e:=
 h.next ⟨ho,ht,hu,hs,fun g hg=>hk g (h.lo.1 g hg)⟩ (h.ew.keep hk hs) rfl
theorem EC.Ex.drewN(h:K.Ex D w la ln lc ps e)(n:Nat):K.Ex D (w.drewN n) la ln lc ps e:=⟨h.ew.keep (fun _ _=>rfl) (Nat.le_refl _),h.fr.keep (Dk D w n),h.gr.Bf (Dk D w n),h.lr.Bf (Dk D w n),h.Bz⟩
theorem Hq.A34{wb te:Nat}{fs gs ls ps:Value}{slots:Nat}{st:List Af}{sa:Option Addr}{sn sc:Nat}(h:Hq D wb te w fs gs ls ps slots st sa sn sc)(i:Af){w1:World}{g cap:Nat}
  (hown:w1.ownsRow 0 251 8 (.slice (some ⟨g,0,none⟩) (st.length+1) cap) (st.length+1) (Ez st++K5 i)) (hgr:w.grownBy w1 (Value.slice sa sn sc).ownBlock) (hat:(Value.slice sa sn sc).ownBlock=some g\/w.heap.size<=g) :
  Hq D wb te (w1.setCell ⟨wb,5,none⟩ (.slice (some ⟨g,0,none⟩) (st.length+1) cap)) fs gs ls ps slots (st++[i]) (some ⟨g,0,none⟩) (st.length+1) cap/\A2 D w (w1.setCell ⟨wb,5,none⟩ (.slice (some ⟨g,0,none⟩) (st.length+1) cap)):=by
 have hwb:w1.heap[wb]?=w.heap[wb]?:=hgr.block wb (A6 h.cell) (fun e=>(h.Cp wb e.symm).2 rfl);have hg:¬D g/\g≠wb:=by
  rcases hat with e|e
  ·exact h.Cp g e
  ·exact⟨fun hd=>by have:=h.lo g hd;omega,fun e2=>by have:=A6 h.cell;omega⟩
 refine⟨⟨?_,?_,h.Gu,?_,?_⟩,hgr.os,hgr.tape,hgr.output,by simp[World.setCell];exact hgr.size,?_⟩
 ·rw[heap_set (hwb.trans h.cell)];simp
 ·rw[Adn,Adq,List.length_append];exact B2 hown (fun k hk _=>Below.heap_setCell _ _ _ _ (by simp only[Value.ownBlock,Option.some.injEq]at hk;show k≠wb;rw[←hk];exact hg.2))
 ·intro k hk;simp only[Value.ownBlock,Option.some.injEq]at hk;subst hk;exact hg
 ·intro k hk;have:=h.lo k hk;have:=hgr.size;simp[World.setCell];omega
 ·intro k hk;exact(Below.heap_setCell _ _ _ _ (by show k≠wb;exact fun e=>h.Gu (e ▸ hk))).trans (hgr.block k (h.lo k hk) (fun e=>(h.Cp k e.symm).1 hk))
end
section
set_option maxRecDepth 100000
open Go.RowKit
open Go.Deep (BT)
theorem Xm{D:Nat->Prop}{wb te:Nat}{w:World}{fs gs ls ps:Value}{slots:Nat}{st:List Af}(h:K8 D wb te w fs gs ls ps slots st) :
  Calls Tryz.prog 92 #[.pointer (some ⟨wb,0,none⟩)] w fun e w'=>e=.returned (.int .i64 (st.length:Nat))/\w'=w:=by
 obtain⟨sa,sn,sc,h⟩:=h;have c:=A7 h.cell 5 _ rfl;have lb:=A6 h.cell;have hv:sn=st.length:=(Cf h.own).1;subst hv;clear h;go_enter Tryz.func92,Tryz.ntmps92;exact z46a
theorem Ku{D:Nat->Prop}{wb te:Nat}{w:World}{fs gs ls ps:Value}{slots:Nat}{st:List Af}(h:K8 D wb te w fs gs ls ps slots st)(hn:st.length<=900000)(op:Nat)(arg:Int)(line:Nat) :
  Calls Tryz.prog 55 #[.pointer (some ⟨wb,0,none⟩),.int .i64 (op:Nat),.int .i64 arg,.int .i64 (line:Nat)] w fun e w'=>e=.returned (.int .i64 (st.length:Nat))/\K8 D wb te w' fs gs ls ps slots (st++[⟨op,arg,line,Bp⟩])/\A2 D w w':=by
 obtain⟨sa,sn,sc,h⟩:=h;have c:=A7 h.cell 5 _ rfl;have lb:=A6 h.cell;have hv:sn=st.length:=(Cf h.own).1;subst hv;have hown:=h.own;have HH:=A0 h;have HP:=A0 (fun(w1:World) (g cap:Nat)=>h.A34 ⟨op,arg,line,Bp⟩ (w1:=w1) (g:=g) (cap:=cap));clear h;go_enter Tryz.func55,Tryz.ntmps55;go_wp2_with (at_builtin;refine Ju w #[.int .i64 (op:Nat),.int .i64 arg,.int .i64 (line:Nat),.int .i64 0,.bool false,.int .i64 0,.string ⟨#[]⟩,.pointer none] 251 rfl (.tmp 14) (.tmp 19) 96 rfl 0 8 72 _ Tryz.underlying96 A1c rfl z4sa (.slice sa st.length sc) st.length (Ez st) rfl rfl hown rfl (fun v hv=>by simp at hv;rcases hv with rfl|rfl|rfl|rfl|rfl|rfl|rfl|rfl <;> rfl) z4sa z4sa (Nat.zero_le _) ?_;intro g cap w1 Es hgrow hat hg;have A1:=(hgrow.block wb lb (fun e=>(HH.o.Cp wb e.symm).2 rfl)).trans HH.o.cell;have c1:=A7 A1 5 _ rfl;have f1:=Ci A1;have Bk:=A6 A1;have Bo:=A0 (HP.o w1 g cap Es hgrow (hat.imp id (fun e=>by omega)));clear A1 Es hgrow hat)
 refine(Xm ⟨_,_,_,Bo.o.1⟩).mono ?_;rintro e w' ⟨rfl,rfl⟩;have hl:((st++[(⟨op,arg,line,Bp⟩:Af)]).length:Int)=(st.length:Int)+1:=by simp
 rw[hl];clear hl;go_wp2;go_ret;exact⟨Yw z4sa,⟨_,_,_,Bo.o.1⟩,Bo.o.2⟩
end
section
open Go.RowKit
open Go.Deep (BT)
def Et(ρ:Nat->Nat)(n c:Nat):Nat->Nat:=fun k=>if k<n then ρ k else c
def dX(n:Nat)(ρ:Nat->Nat):Nat->Prop:=fun g=>g<n/\ρ g≠1/\ρ g≠4
theorem Bb{ρ:Nat->Nat}{n c k:Nat}(h:k<n):Et ρ n c k=ρ k:=if_pos h
theorem Ho{ρ:Nat->Nat}{n c k:Nat}(h:n<=k):Et ρ n c k=c:=if_neg z4sa
theorem Aau{ρ:Nat->Nat}{n n':Nat}(h:n<=n'):dX n' (Et ρ n 4)=dX n ρ:=by
 funext g
 apply propext;unfold dX;by_cases hg:g<n
 ·rw[Bb hg];exact⟨fun⟨_,h1,h2⟩=>⟨hg,h1,h2⟩,fun⟨_,h1,h2⟩=>⟨by omega,h1,h2⟩⟩
 ·rw[Ho z4sa];exact⟨fun⟨_,_,h2⟩=>absurd rfl h2,fun⟨h1,_⟩=>absurd h1 hg⟩
abbrev LB:=Nat×Option Addr×Nat×Nat
def N2(b:LB):Value:=.slice b.2.1 b.2.2.1 b.2.2.2
def O1(w:World)(ρ:Nat->Nat):List LB->List (Nat×List Nat)->Prop
 | [],[]=>True
 | b::br,l::lr=>w.heap[b.1]?=some (.cells #[.int .i64 (l.1:Nat),N2 b] 263 (0,0))/\w.ownsRow 0 3 1 (N2 b) (Ct l.2).length (Ct l.2)/\ρ b.1=5+2*br.length/\(∀g,(N2 b).ownBlock=some g->ρ g=6+2*br.length)/\O1 w ρ br lr
 | [],_::_=>False
 | _::_,[]=>False
theorem O1.len{w:World}{ρ:Nat->Nat}:∀{bl:List LB} {ls:List (Nat×List Nat)},O1 w ρ bl ls->bl.length=ls.length:=by
 intro bl;induction bl with
 | nil=>intro ls h;cases ls with
  | nil=>rfl
  | cons=>exact h.elim
 | cons b br ih=>intro ls h;cases ls with
  | nil=>exact h.elim
  | cons l lr=>simp only[List.length_cons];rw[ih h.2.2.2.2]
theorem z5ea {P:Prop} (h:P:=by rw[h4 g hg];omega):P:=h
theorem O1.keep{w w':World}{ρ ρ':Nat->Nat}(n:Nat)(hk:∀g,g<w.heap.size->5<=ρ g->ρ g<5+2*n->w'.heap[g]?=w.heap[g]?/\ρ' g=ρ g):∀{bl:List LB} {ls:List (Nat×List Nat)},O1 w ρ bl ls->bl.length<=n->O1 w' ρ' bl ls:=by
 intro bl;induction bl with
 | nil=>intro ls h _;cases ls with
  | nil=>trivial
  | cons=>exact h.elim
 | cons b br ih=>intro ls h hn;cases ls with
  | nil=>exact h.elim
  | cons l lr=>
   obtain⟨h1,h2,h3,h4,h5⟩:=h;simp only[List.length_cons]at hn;have k1:=hk b.1 (A6 h1) z4sa z4sa;refine⟨k1.1.trans h1,B2 h2 (fun g hg hl=>(hk g hl z5ea z5ea).1),k1.2.trans h3,fun g hg=>?_,ih h5 z4sa⟩;exact((hk g (Bg h2 g hg) z5ea z5ea).2).trans (h4 g hg)
theorem Ik.weak{D D':Nat->Prop}{w:World}{fns:List (Nm×Nat)}{fa:Option Addr}{fn fc:Nat}(h:Ik D w fns fa fn fc)(hd:∀g,D g->D' g):Ik D' w fns fa fn fc:=by
 refine⟨h.len,h.Bz,h.cap,fun i hi=>?_⟩;obtain⟨g,pb,pa,pc,e1,e2,e3,e4,e5,e6⟩:=h.at' i hi;exact⟨g,pb,pa,pc,e1,hd _ e2,e3,e4,hd _ e5,e6⟩
theorem Cr.weak{D D':Nat->Prop}{w:World}{t:TypeId}{size:Nat}{v:Value}{n:Nat}{cs:List Value}(h:Cr D w t size v n cs)(hd:∀g,D g->D' g):Cr D' w t size v n cs:=h.keep (fun g hg _=>⟨rfl,hd g hg⟩)
theorem Bh.weak{D D':Nat->Prop}{w:World}{l:A3}{v:Value}{ks:List Value}(h:Bh D w l v ks)(hd:∀g,D g->D' g):Bh D' w l v ks:=Bh.keep (fun g hg _=>⟨rfl,hd g hg⟩) h
structure EC.Sv (K : EC) (D : Nat -> Prop) (w : World) (e : Em) (ρ : Nat -> Nat) (la : Option Addr) (ln lc : Nat) (pa : Option Addr) (pn pc : Nat) (bl : List LB) : Prop where
 ew:K8 (dX w.heap.size ρ) K.wb K.te w (.slice K.fa K.fn K.fc) (.slice K.ga K.gn K.gc) (.slice la ln lc) (.slice pa pn pc) e.slots e.st
 fr:Ik D w K.fns K.fa K.fn K.fc
 gr:Cr D w 9 1 (.slice K.ga K.gn K.gc) K.gl.length (Cz K.gl)
 lr:w.ownsRow 0 9 1 (.slice la ln lc) e.loc.length (Cz e.loc)
 lro:∀g,(Value.slice la ln lc).ownBlock=some g->ρ g=2
 pr:w.ownsRow 0 260 1 (.slice pa pn pc) (bl.map fun b=>C3 b.1).reverse.length (bl.map fun b=>C3 b.1).reverse
 pro:∀g,(Value.slice pa pn pc).ownBlock=some g->ρ g=3
 lps:O1 w ρ bl e.lps
 prot:∀g,D g->g<w.heap.size/\ρ g=0
 one:ρ K.wb=1/\∀g,ρ g=1->g=K.wb
 Bz:e.loc.length<=100000/\K.gl.length<=100000
def EC.St(K:EC)(lbs:List Nat)(D:Nat->Prop)(w:World)(e:Em):Prop:=∃ρ la ln lc pa pn pc bl,K.Sv D w e ρ la ln lc pa pn pc bl/\bl.map Prod.fst=lbs
variable {K:EC} {D:Nat->Prop} {w w':World} {e e':Em} {ρ:Nat->Nat} {la:Option Addr} {ln lc:Nat} {pa:Option Addr} {pn pc:Nat} {bl:List LB}
theorem EC.Sv.dx(h:K.Sv D w e ρ la ln lc pa pn pc bl):∀g,D g->dX w.heap.size ρ g:=fun g hg=>⟨(h.prot g hg).1,by rw[(h.prot g hg).2];omega,by rw[(h.prot g hg).2];omega⟩
theorem EC.Sv.Na(h:K.Sv D w e ρ la ln lc pa pn pc bl):K.Ex (dX w.heap.size ρ) w la ln lc (.slice pa pn pc) e:=
 ⟨h.ew,h.fr.weak h.dx,h.gr.weak h.dx,⟨h.lr,fun g hg=>⟨Bg h.lr g hg,by rw[h.lro g hg];omega,by rw[h.lro g hg];omega⟩⟩,h.Bz⟩
theorem EC.Sv.lo(h:K.Sv D w e ρ la ln lc pa pn pc bl):(∀g,D g->g<w.heap.size)/\K.wb<w.heap.size/\¬D K.wb:=
 ⟨fun g hg=>(h.prot g hg).1,h.Na.lo.2.1,fun hd=>by have:=(h.prot _ hd).2;have:=h.one.1;omega⟩
theorem EC.St.lo{lbs:List Nat}(h:K.St lbs D w e):(∀g,D g->g<w.heap.size)/\K.wb<w.heap.size/\¬D K.wb:=by
 obtain⟨_,_,_,_,_,_,_,_,h,_⟩:=h;exact h.lo
theorem z2sa {P:Prop} (h:P:=by
  exact⟨Nat.lt_of_lt_of_le this.1 hb.size,by rw[Bb this.1];exact this.2⟩):P:=h
theorem z12a {P:Prop} (h:P:=by
  by_cases hl:g<w.heap.size
  ·rw[Bb hl]at hg;exact h.one.2 g hg
  ·rw[Ho z4sa]at hg;cases hg):P:=h
theorem EC.Sv.Oj(h:K.Sv D w e ρ la ln lc pa pn pc bl)(hb:A2 (dX w.heap.size ρ) w w')(hx:K.Ex (dX w.heap.size ρ) w' la ln lc (.slice pa pn pc) e')(hl:e'.lps=e.lps) :
  K.Sv D w' e' (Et ρ w.heap.size 4) la ln lc pa pn pc bl/\A2 D w w':=by
 have hbd:A2 D w w':=hb.weak h.dx;refine⟨⟨by rw[Aau hb.size];exact hx.ew,h.fr.keep hbd,h.gr.Bf hbd,hx.lr.1,fun g hg=>by rw[Bb (Bg h.lr g hg)];exact h.lro g hg,?_,fun g hg=>by rw[Bb (Bg h.pr g hg)];exact h.pro g hg,?_,fun g hg=>?_,⟨by rw[Bb h.lo.2.1];exact h.one.1,fun g hg=>?_⟩,hx.Bz⟩,hbd⟩
 ·exact B2 h.pr (fun g hg hl=>hb.block g ⟨hl,by rw[h.pro g hg];omega,by rw[h.pro g hg];omega⟩)
 ·rw[hl];exact h.lps.keep bl.length (fun g hl h5 _=>⟨hb.block g ⟨hl,by omega,by omega⟩,Bb hl⟩) (Nat.le_refl _)
 ·have:=h.prot g hg;exact z2sa
 ·exact z12a
structure G7 (c : Nat) (ρ : Nat -> Nat) (w w' : World) : Prop where
 os:w'.os=w.os
 tape:w'.tape=w.tape
 output:w'.output=w.output
 size:w.heap.size<=w'.heap.size
 block:∀k,k<w.heap.size->ρ k≠1->ρ k≠c->w'.heap[k]?=w.heap[k]?
theorem Hq.Mw{c:Nat}{fs gs ls ps:Value}{slots:Nat}{st:List Af}{wb te:Nat}{sa:Option Addr}{sn sc:Nat}(h:Hq (dX w.heap.size ρ) wb te w fs gs ls ps slots st sa sn sc)(hone:ρ wb=1/\∀g,ρ g=1->g=wb)(hc:G7 c ρ w w')(hc4:c≠4)(hc1:c≠1){ls' ps':Value}{slots':Nat}
  (hcell:w'.heap[wb]?=some (.cells #[fs,gs,ls',ps',.int .i64 (slots':Nat),.slice sa sn sc] te (0,0))):Hq (dX w'.heap.size (Et ρ w.heap.size c)) wb te w' fs gs ls' ps' slots' st sa sn sc:=by
 have hwb:=A6 h.cell;have h4:∀g,(Value.slice sa sn sc).ownBlock=some g->ρ g=4:=by
  intro g hg;have h1:=h.Cp g hg;have h2:=Bg h.own g hg;by_cases e1:ρ g=1
  ·exact absurd (hone.2 g e1) h1.2
  ·by_cases e4:ρ g=4
   ·exact e4
   ·exact absurd ⟨h2,e1,e4⟩ h1.1
 refine⟨hcell,B2 h.own (fun g hg hl=>hc.block g hl z5ea z5ea),fun hd=>hd.2.1 (by rw[Bb hwb];exact hone.1),fun g hg=>⟨fun hd=>hd.2.2 (by rw[Bb (Bg h.own g hg)];exact h4 g hg),(h.Cp g hg).2⟩,fun g hg=>hg.1⟩
theorem Ia.Mw{row:Option Nat}{c:Nat}(h:Ia K.wb row w w')(hone:ρ K.wb=1)(hr:∀g,row=some g->ρ g=c):G7 c ρ w w':=
 ⟨h.os,h.tape,h.output,h.size,fun k hk h1 h2=>h.block k hk (fun e=>h1 (by rw[e];exact hone)) (fun e=>h2 (hr k e))⟩
theorem G7.set{c:Nat}(h:G7 c ρ w w'){b:Nat}(hb:ρ b=1)(o:Nat)(v:Value):G7 c ρ w (w'.setCell ⟨b,o,none⟩ v):=
 ⟨h.os,h.tape,h.output,by simp[World.setCell];exact h.size,fun k hk h1 h2=>(Below.heap_setCell _ _ _ _ (by show k≠b;exact fun e=>h1 (by rw[e];exact hb))).trans (h.block k hk h1 h2)⟩
theorem G7.Bf{c:Nat}(h:G7 c ρ w w')(hp:∀g,D g->g<w.heap.size/\ρ g=0)(hc:c≠0):A2 D w w':=
 ⟨h.os,h.tape,h.output,h.size,fun k hk=>h.block k (hp k hk).1 (by rw[(hp k hk).2];omega) (by rw[(hp k hk).2];omega)⟩
theorem Ok{c n:Nat}(hone:ρ K.wb=1/\∀g,ρ g=1->g=K.wb)(hw:K.wb<n)(hc:c≠1):Et ρ n c K.wb=1/\∀g,Et ρ n c g=1->g=K.wb:=by
 refine⟨by rw[Bb hw];exact hone.1,fun g hg=>?_⟩;by_cases hl:g<n
 ·rw[Bb hl]at hg;exact hone.2 g hg
 ·rw[Ho z4sa]at hg;exact absurd hg hc
theorem Qo{c:Nat}(hp:∀g,D g->g<w.heap.size/\ρ g=0)(hs:w.heap.size<=w'.heap.size):∀g,D g->g<w'.heap.size/\Et ρ w.heap.size c g=0:=
 fun g hg=>⟨Nat.lt_of_lt_of_le (hp g hg).1 hs,by rw[Bb (hp g hg).1];exact(hp g hg).2⟩
theorem z3qa {P:Prop} (h:P:=by
  rw[Bb (Bg h.pr k hk)];exact h.pro k hk):P:=h
theorem z67a {P:Prop} (h:P:=by rw[h.pro k hk];omega):P:=h
theorem z3na {P:Prop} (h:P:=by
  exact B2 h.pr (fun k hk hl=>hc.block k hl z67a z67a)):P:=h
theorem z1ya {P:Prop} (h:P:=by
  exact h.lps.keep bl.length (fun k hl h5 _=>⟨hc.block k hl z4sa z4sa,Bb hl⟩) (Nat.le_refl _)):P:=h
theorem z6ca {P:Prop} (h:P:=by simp only[Value.ownBlock,ne_eq,Option.some.injEq];exact hgw):P:=h
theorem EC.Sv.Ah9(h:K.Sv D w e ρ la ln lc pa pn pc bl)(s:Nm){sa:Option Addr}{sn sc:Nat}(hv:Hq (dX w.heap.size ρ) K.wb K.te w (.slice K.fa K.fn K.fc) (.slice K.ga K.gn K.gc) (.slice la ln lc) (.slice pa pn pc) e.slots e.st sa sn sc){w1:World}(hn:e.loc.length+1<=100000)
  (hp:Ng 9 K.wb 2 w #[.slice K.fa K.fn K.fc,.slice K.ga K.gn K.gc,.slice la ln lc,.slice pa pn pc,.int .i64 (e.slots:Nat),.slice sa sn sc] K.te la ln lc (Cz e.loc) (Ns s) w1) :
  K.St (bl.map Prod.fst) D (w1.setCell ⟨K.wb,4,none⟩ (.int .i64 ((max e.slots (e.loc.length+1):Nat):Nat))) (e.local' s)/\A2 D w (w1.setCell ⟨K.wb,4,none⟩ (.int .i64 ((max e.slots (e.loc.length+1):Nat):Nat))):=by
 obtain⟨g,cap,hs,hat,hf⟩:=hp;have hc0:G7 2 ρ w w1:=hf.Mw h.one.1 h.lro;have hc:=hc0.set h.one.1 4 (.int .i64 ((max e.slots (e.loc.length+1):Nat):Nat));have hwb:=A6 hv.cell;have hgw:g≠K.wb:=by
  have:=hs.ne;simp only[Value.ownBlock,ne_eq,Option.some.injEq]at this;exact this
 have hnm:Cz (e.loc++[s])=Cz e.loc++[Ns s]:=by simp[Cz]
 have hln:(Cz e.loc).length=e.loc.length:=by simp[Cz]
 refine⟨⟨Et ρ w.heap.size 2,some ⟨g,0,none⟩,(Cz e.loc).length+1,cap,pa,pn,pc,bl,⟨⟨sa,sn,sc,hv.Mw h.one hc z4sa z4sa ?_⟩,h.fr.keep (hc.Bf h.prot z4sa),h.gr.Bf (hc.Bf h.prot z4sa),?_,?_,?_,?_,?_,Qo h.prot hc.size,Ok h.one hwb z4sa,⟨?_,h.Bz.2⟩⟩,rfl⟩,hc.Bf h.prot z4sa⟩
 ·rw[heap_set hs.blk];simp[Em.local']
 ·show(w1.setCell _ _).ownsRow 0 _ 1 _ (e.loc++[s]).length (Cz (e.loc++[s]));rw[hnm];have:=hs.own;rw[List.length_append,hln]at this;rw[List.length_append,hln];exact U3 this _ _ z6ca
 ·intro k hk;simp only[Value.ownBlock,Option.some.injEq]at hk;subst hk;rcases hat with h1|h1
  ·rw[Bb (Bg h.lr g h1)];exact h.lro g h1
  ·exact Ho h1
 ·exact z3na
 ·intro k hk;exact z3qa
 ·exact z1ya
 ·show(e.loc++[s]).length<=_;simp;omega
theorem z3ra {P:Prop} (h:P:=by
  rw[Bb (Bg h.lr k hk)];exact h.lro k hk):P:=h
theorem EC.Sv.A02(h:K.Sv D w e ρ la ln lc pa pn pc bl)(m:Nat){sa:Option Addr}{sn sc:Nat}(hv:Hq (dX w.heap.size ρ) K.wb K.te w (.slice K.fa K.fn K.fc) (.slice K.ga K.gn K.gc) (.slice la ln lc) (.slice pa pn pc) e.slots e.st sa sn sc)
  (hp:Ls 9 K.wb 2 w #[.slice K.fa K.fn K.fc,.slice K.ga K.gn K.gc,.slice la ln lc,.slice pa pn pc,.int .i64 (e.slots:Nat),.slice sa sn sc] K.te la ln lc (Cz e.loc) m w'):K.St (bl.map Prod.fst) D w' (e.cut m)/\A2 D w w':=by
 obtain⟨hs,hf⟩:=hp;have hc:G7 2 ρ w w':=hf.Mw h.one.1 h.lro;have hwb:=A6 hv.cell;have hnm:Cz (e.loc.take m)=(Cz e.loc).take m:=by simp[Cz,List.map_take]
 have ho:∀g,(Value.slice la m lc).ownBlock=some g->(Value.slice la ln lc).ownBlock=some g:=fun g e=>(Nv _ _ _ _).trans e;refine⟨⟨Et ρ w.heap.size 2,la,m,lc,pa,pn,pc,bl,⟨⟨sa,sn,sc,hv.Mw h.one hc z4sa z4sa ?_⟩,h.fr.keep (hc.Bf h.prot z4sa),h.gr.Bf (hc.Bf h.prot z4sa),?_,?_,?_,?_,?_,Qo h.prot hc.size,Ok h.one hwb z4sa,⟨?_,h.Bz.2⟩⟩,rfl⟩,hc.Bf h.prot z4sa⟩
 ·rw[hs.blk];simp[Em.cut]
 ·show w'.ownsRow 0 _ 1 _ (e.loc.take m).length (Cz (e.loc.take m));rw[hnm];have:=hs.own;rw[List.length_take]at this ⊢;simpa [Cz]using this
 ·intro k hk;have hk:=ho k hk;exact z3ra
 ·exact z3na
 ·intro k hk;exact z3qa
 ·exact z1ya
 ·show(e.loc.take m).length<=_;have:=h.Bz.1;simp;omega
end
section
open Go.RowKit
open Go.Deep (BT)
variable {K:EC} {D:Nat->Prop} {w w':World} {e e':Em} {ρ:Nat->Nat} {la:Option Addr} {ln lc:Nat} {pa:Option Addr} {pn pc:Nat} {bl:List LB}
theorem EC.Sv.alloc(h:K.Sv D w e ρ la ln lc pa pn pc bl)(o:Obj)(c:Nat)(hc:5<=c):K.Sv D (w.alloc o) e (Et ρ w.heap.size c) la ln lc pa pn pc bl:=by
 obtain⟨sa,sn,sc,hv⟩:=h.ew;have hk:∀g,g<w.heap.size->(w.alloc o).heap[g]?=w.heap[g]?:=fun g hg=>Below.heap_alloc _ _ _ hg;have hch:G7 c ρ w (w.alloc o):=⟨rfl,rfl,rfl,by simp,fun k hk1 _ _=>hk k hk1⟩;have hbd:=hch.Bf h.prot z4sa;have hwb:=A6 hv.cell;exact⟨⟨sa,sn,sc,hv.Mw h.one hch z4sa z4sa ((hk _ hwb).trans hv.cell)⟩,h.fr.keep hbd,h.gr.Bf hbd,B2 h.lr (fun g _ hl=>hk g hl),fun g hg=>by rw[Bb (Bg h.lr g hg)];exact h.lro g hg,
  B2 h.pr (fun g _ hl=>hk g hl),fun g hg=>by rw[Bb (Bg h.pr g hg)];exact h.pro g hg,h.lps.keep bl.length (fun g hl _ _=>⟨hk g hl,Bb hl⟩) (Nat.le_refl _),Qo h.prot hch.size,Ok h.one hwb z4sa,h.Bz⟩
theorem z69a {P:Prop} (h:P:=by rw[h.lro k hk];omega):P:=h
theorem z3oa {P:Prop} (h:P:=by
  exact B2 h.lr (fun k hk hl=>hc.block k hl z69a z69a)):P:=h
theorem EC.Sv.Yt(h:K.Sv D w e ρ la ln lc pa pn pc bl)(s lb:Nat){sa:Option Addr}{sn sc:Nat}(hv:Hq (dX w.heap.size ρ) K.wb K.te w (.slice K.fa K.fn K.fc) (.slice K.ga K.gn K.gc) (.slice la ln lc) (.slice pa pn pc) e.slots e.st sa sn sc)
  (hb:w.heap[lb]?=some (.cells #[.int .i64 (s:Nat),.slice none 0 0] 263 (0,0))) (hr:ρ lb=5+2*bl.length)
  (hp:Ng 260 K.wb 3 w #[.slice K.fa K.fn K.fc,.slice K.ga K.gn K.gc,.slice la ln lc,.slice pa pn pc,.int .i64 (e.slots:Nat),.slice sa sn sc] K.te pa pn pc (bl.map fun b=>C3 b.1).reverse (C3 lb) w') :
  K.St (lb::bl.map Prod.fst) D w' ⟨e.loc,e.slots,e.st,(s,[])::e.lps⟩/\A2 D w w':=by
 obtain⟨g,cap,hs,hat,hf⟩:=hp;have hc:G7 3 ρ w w':=hf.Mw h.one.1 h.pro;have hwb:=A6 hv.cell;have hbd:=hc.Bf h.prot z4sa;refine⟨⟨Et ρ w.heap.size 3,la,ln,lc,some ⟨g,0,none⟩,(bl.map fun b=>C3 b.1).reverse.length+1,cap,(lb,none,0,0)::bl,⟨⟨sa,sn,sc,hv.Mw h.one hc z4sa z4sa ?_⟩,h.fr.keep hbd,h.gr.Bf hbd,?_,?_,?_,?_,?_,Qo h.prot hc.size,Ok h.one hwb z4sa,h.Bz⟩,rfl⟩,hbd⟩
 ·rw[hs.blk];simp
 ·exact z3oa
 ·intro k hk;exact z3ra
 ·have:=hs.own;rw[List.map_cons,List.reverse_cons];exact this
 ·intro k hk;simp only[Value.ownBlock,Option.some.injEq]at hk;subst hk;rcases hat with h1|h1
  ·rw[Bb (Bg h.pr g h1)];exact h.pro g h1
  ·exact Ho h1
 ·refine⟨(hc.block lb (A6 hb) (by rw[hr];omega) (by rw[hr];omega)).trans hb,World.ownsRow_nil _ _ _ _,by rw[Bb (A6 hb)];exact hr,fun k hk=>by simp[N2,Value.ownBlock]at hk,?_⟩;exact z1ya
theorem EC.Sv.Agg{b:LB}{br:List LB}(h:K.Sv D w e ρ la ln lc pa pn pc (b::br)){sa:Option Addr}{sn sc:Nat}(hv:Hq (dX w.heap.size ρ) K.wb K.te w (.slice K.fa K.fn K.fc) (.slice K.ga K.gn K.gc) (.slice la ln lc) (.slice pa pn pc) e.slots e.st sa sn sc)
  (hp:Ls 260 K.wb 3 w #[.slice K.fa K.fn K.fc,.slice K.ga K.gn K.gc,.slice la ln lc,.slice pa pn pc,.int .i64 (e.slots:Nat),.slice sa sn sc] K.te pa pn pc ((b::br).map fun b=>C3 b.1).reverse br.length w') :
  K.St (br.map Prod.fst) D w' e.close/\A2 D w w':=by
 obtain⟨hs,hf⟩:=hp;have hc:G7 3 ρ w w':=hf.Mw h.one.1 h.pro;have hwb:=A6 hv.cell;have hbd:=hc.Bf h.prot z4sa;have ho:∀g,(Value.slice pa br.length pc).ownBlock=some g->(Value.slice pa pn pc).ownBlock=some g:=fun g e=>(Nv _ _ _ _).trans e;have htk:(((b::br).map fun b=>C3 b.1).reverse).take br.length=(br.map fun b=>C3 b.1).reverse:=by
  rw[List.map_cons,List.reverse_cons,List.take_append_of_le_length z4wa];rw[List.take_of_length_le z4wa]
 have hlp:=h.lps;obtain⟨l,lr,hl⟩:∃l lr,e.lps=l::lr:=by
  cases hq:e.lps with
  | nil=>rw[hq]at hlp;exact hlp.elim
  | cons l lr=>exact⟨l,lr,rfl⟩
 rw[hl]at hlp;refine⟨⟨Et ρ w.heap.size 3,la,ln,lc,pa,br.length,pc,br,⟨⟨sa,sn,sc,hv.Mw h.one hc z4sa z4sa ?_⟩,h.fr.keep hbd,h.gr.Bf hbd,?_,?_,?_,?_,?_,Qo h.prot hc.size,Ok h.one hwb z4sa,h.Bz⟩,rfl⟩,hbd⟩
 ·rw[hs.blk];simp[Em.close]
 ·exact z3oa
 ·intro k hk;exact z3ra
 ·have:=hs.own;rw[htk]at this;exact this
 ·intro k hk;have hk:=ho k hk;exact z3qa
 ·show O1 _ _ _ e.lps.tail;rw[hl];exact hlp.2.2.2.2.keep br.length (fun k hl h5 _=>⟨hc.block k hl z4sa z4sa,Bb hl⟩) (Nat.le_refl _)
theorem z5fa {P:Prop} (h:P:=by rw[h.one.1];omega):P:=h
theorem EC.Sv.A6t{b:LB}{br:List LB}(h:K.Sv D w e ρ la ln lc pa pn pc (b::br)){s:Nat}{bs:List Nat}{r:List (Nat×List Nat)}(he:e.lps=(s,bs)::r)(j:Nat){w2:World}{g cap:Nat}
  (hown:w2.ownsRow 0 3 1 (.slice (some ⟨g,0,none⟩) ((Ct bs).length+1) cap) ((Ct bs).length+1) (Ct bs++[P4 j])) (hgr:w.grownBy w2 (N2 b).ownBlock) (hat:(N2 b).ownBlock=some g\/w.heap.size<=g) :
  K.St (b.1::br.map Prod.fst) D (w2.setCell ⟨b.1,1,none⟩ (.slice (some ⟨g,0,none⟩) ((Ct bs).length+1) cap)) ⟨e.loc,e.slots,e.st,(s,bs++[j])::r⟩/\A2 D w (w2.setCell ⟨b.1,1,none⟩ (.slice (some ⟨g,0,none⟩) ((Ct bs).length+1) cap)):=by
 obtain⟨sa,sn,sc,hv⟩:=h.ew;have hwb:=A6 hv.cell;have hlp:=h.lps;rw[he]at hlp;obtain⟨h1,h2,h3,h4,h5⟩:=hlp;have hblk:∀k,k<w.heap.size->ρ k≠5+2*br.length->ρ k≠6+2*br.length->(w2.setCell ⟨b.1,1,none⟩ (.slice (some ⟨g,0,none⟩) ((Ct bs).length+1) cap)).heap[k]?=w.heap[k]?:=by
  intro k hk e1 e2;exact(Below.heap_setCell _ _ _ _ (by show k≠b.1;exact fun e=>e1 (by rw[e];exact h3))).trans (hgr.block k hk (fun e=>e2 (h4 k e.symm)))
 have hsz:w.heap.size<=(w2.setCell ⟨b.1,1,none⟩ (.slice (some ⟨g,0,none⟩) ((Ct bs).length+1) cap)).heap.size:=by simp[World.setCell];exact hgr.size
 have hwbk:=hblk K.wb hwb z5fa z5fa;have hbd:A2 D w (w2.setCell ⟨b.1,1,none⟩ (.slice (some ⟨g,0,none⟩) ((Ct bs).length+1) cap)):=⟨hgr.os,hgr.tape,hgr.output,hsz,fun k hk=>hblk k (h.prot k hk).1 (by rw[(h.prot k hk).2];omega) (by rw[(h.prot k hk).2];omega)⟩;have A9:w2.heap[b.1]?=w.heap[b.1]?:=hgr.block b.1 (A6 h1) (fun e=>by have:=h4 b.1 e.symm;omega);have hgb:g≠b.1:=by
  rcases hat with e1|e1
  ·intro e2;have:=h4 g e1;rw[e2]at this;omega
  ·have:=A6 h1;omega
 have hew:Hq (dX (w2.setCell ⟨b.1,1,none⟩ (.slice (some ⟨g,0,none⟩) ((Ct bs).length+1) cap)).heap.size (Et ρ w.heap.size (6+2*br.length))) K.wb K.te (w2.setCell ⟨b.1,1,none⟩ (.slice (some ⟨g,0,none⟩) ((Ct bs).length+1) cap)) (.slice K.fa K.fn K.fc) (.slice K.ga K.gn K.gc) (.slice la ln lc) (.slice pa pn pc) e.slots e.st sa sn sc:=by
  have q4:∀k,(Value.slice sa sn sc).ownBlock=some k->ρ k=4:=by
   intro k hk;have q1:=hv.Cp k hk;have q2:=Bg hv.own k hk;by_cases e1:ρ k=1
   ·exact absurd (h.one.2 k e1) q1.2
   ·by_cases e4:ρ k=4
    ·exact e4
    ·exact absurd ⟨q2,e1,e4⟩ q1.1
  exact⟨hwbk.trans hv.cell,B2 hv.own (fun k hk hl=>hblk k hl (by rw[q4 k hk];omega) (by rw[q4 k hk];omega)),fun hd=>hd.2.1 (by rw[Bb hwb];exact h.one.1),fun k hk=>⟨fun hd=>hd.2.2 (by rw[Bb (Bg hv.own k hk)];exact q4 k hk),(hv.Cp k hk).2⟩,fun k hk=>hk.1⟩
 refine⟨⟨Et ρ w.heap.size (6+2*br.length),la,ln,lc,pa,pn,pc,(b.1,some ⟨g,0,none⟩,(Ct bs).length+1,cap)::br,⟨⟨sa,sn,sc,hew⟩,h.fr.keep hbd,h.gr.Bf hbd,?_,?_,?_,?_,?_,Qo h.prot hsz,Ok h.one hwb z4sa,h.Bz⟩,rfl⟩,hbd⟩
 ·exact B2 h.lr (fun k hk hl=>hblk k hl z69a z69a)
 ·intro k hk;exact z3ra
 ·have:=B2 h.pr (fun k hk hl=>hblk k hl z67a z67a);simpa using this
 ·intro k hk;exact z3qa
 ·refine⟨?_,?_,by rw[Bb (A6 h1)];exact h3,fun k hk=>?_,?_⟩
  ·rw[heap_set (A9.trans h1)];simp[N2]
  ·have e1:Ct (bs++[j])=Ct bs++[P4 j]:=by simp[Ct]
   rw[e1,List.length_append];exact U3 hown _ _ (by simp only[Value.ownBlock,ne_eq,Option.some.injEq];exact hgb)
  ·simp only[N2,Value.ownBlock,Option.some.injEq]at hk;subst hk;rcases hat with e1|e1
   ·rw[Bb (Bg h2 g e1)];exact h4 g e1
   ·exact Ho e1
  ·exact h5.keep br.length (fun k hl k5 k6=>⟨hblk k hl z4sa z4sa,Bb hl⟩) (Nat.le_refl _)
end
section
set_option maxRecDepth 100000
open Go.RowKit
variable {b o:Nat}{w:World}{cs:Array Value}{t:TypeId}{va:Option Addr}{vn vc:Nat}{xs:List Value}
theorem Adk:(Tryz.prog.info? 260).map (fun i=>(i.zero,i.size,i.bytes))=some (some (.pointer none),1,8):=by kernel_rfl
theorem A42(h:G0 260 b o w cs t va vn vc xs):Calls Tryz.prog 147 #[.pointer (some ⟨b,o,none⟩)] w fun e w'=>e=.returned (.int .i64 (xs.length:Nat))/\w'=w:=by
 have c:=Ea h.blk h.cell;have lb:=A6 h.blk;have hv:vn=xs.length:=(Cf h.own).1;subst hv;clear h;go_enter Tryz.func147,Tryz.ntmps147;exact z46a
theorem Aij(h:G0 260 b o w cs t va vn vc xs)(i:Nat)(hi:i<xs.length):Calls Tryz.prog 146 #[.pointer (some ⟨b,o,none⟩),.int .i64 (i:Nat)] w fun e w'=>e=.returned xs[i]/\w'=w:=by
 have c:=Ea h.blk h.cell;have lb:=A6 h.blk;have hv:vn=xs.length:=(Cf h.own).1;subst hv;obtain⟨g,rfl,_,hcap,lg,fz,hx,cg⟩:=Ol h.own i hi;clear h;generalize xs[i]=x at *;go_enter Tryz.func146,Tryz.ntmps146;exact z46a
theorem A48(h:G0 260 b o w cs t va vn vc xs)(hn:xs.length<=1000000)(n:Nat)(hi:n<xs.length)(h0:xs.length=n+1):Calls Tryz.prog 96 #[.pointer (some ⟨b,o,none⟩)] w fun e w'=>e=.returned (xs[n]'hi)/\w'=w:=by
 have HL:=A0 (A42 h);have HA:=A0 (Aij h n hi);rw[h0]at HL;have D7:n<=1000000:=by omega
 generalize hx:xs[n]'hi=x at HA ⊢;clear h h0 hx;go_enter Tryz.func96,Tryz.ntmps96;exact z1ja
theorem Akp(h:G0 260 b o w cs t va vn vc xs)(hn:xs.length<=900000)(u:Option Addr)(ho:o<cs.size):Calls Tryz.prog 144 #[.pointer (some ⟨b,o,none⟩),.pointer u] w fun e w'=>e=.returned (.tuple #[])/\Ng 260 b o w cs t va vn vc xs (.pointer u) w':=by
 have c:=Ea h.blk h.cell;have lb:=A6 h.blk;have fz:=Ci h.blk;have hv:vn=xs.length:=(Cf h.own).1;subst hv;have hown:=h.own;have HH:=A0 h;have HNe:=A0 h.ne;clear h;go_enter Tryz.func144,Tryz.ntmps144;go_wp2_with (at_builtin;refine Ju w #[.pointer u] 260 rfl (.tmp 8) (.tmp 10) 133 rfl 0 1 8 (.pointer none) Tryz.underlying133 Adk rfl z4sa (.slice va xs.length vc) xs.length xs rfl rfl hown rfl (fun v hv=>by simp at hv;rw[hv];rfl) z4sa z4sa (Nat.zero_le _) ?_;intro g cap w1 Es hgrow hat hg;have A1:=(hgrow.block b lb (fun e=>HNe.o e.symm)).trans HH.o.blk;have c1:=Ea A1 HH.o.cell;have f1:=Ci A1;have Bk:=A6 A1;have A4:=A0 A1;have HOwn1:=A0 Es;have HGrow:=A0 hgrow;have HAt:=A0 hat;clear A1 Es hgrow hat)
 exact z05a
theorem Aiq(h:G0 260 b o w cs t va vn vc xs)(m:Nat)(hm:m<=xs.length)(ho:o<cs.size):Calls Tryz.prog 194 #[.pointer (some ⟨b,o,none⟩),.int .i64 (m:Nat)] w fun e w'=>e=.returned (.tuple #[])/\Ls 260 b o w cs t va vn vc xs m w':=by
 have c:=Ea h.blk h.cell;have lb:=A6 h.blk;have fz:=Ci h.blk;have hv:vn=xs.length:=(Cf h.own).1;subst hv;have HH:=A0 h;have HNe:=A0 h.ne;by_cases he:m=xs.length
 ·subst he;clear h;go_enter Tryz.func194,Tryz.ntmps194;go_wp2;refine bodyPost_ret (v:=.tuple #[]) (by simp[results,Tryz.results194,go_sem]) rfl ⟨rfl,?_,Ia.refl _ _ _⟩;exact z2aa
 ·obtain⟨g,rfl,hn0,hcap,lg,fg,hx,cg⟩:=Ol h.own m z4sa;obtain⟨hl,⟨h2,h3⟩|⟨g',cap,cur,hv,_,hg,hcap',hmx,hsz,ht⟩⟩:=h.own
  ·cases h2
  ·injection hv with e1 e2 e3;injection e1 with e1;injection e1 with e1;subst e1 e3;have hgb:g≠b:=fun e=>h.ne z5qa;have hcs:∀j,j<xs.length-m->(w.cell? ⟨g,m+j,none⟩).isSome=true:=by
    exact z1oa
   have hcl:∀ty,(Builtin.clear_ #[133] ty #[.slice (some ⟨g,m,none⟩) (xs.length-m) (vc-m)]).run Tryz.prog w=.ok (.tuple #[]) (w.setCells g m (List.replicate (xs.length-m) (.pointer none))):=
    fun ty=>Lib.run_clear_slice w 133 260 ty (.pointer none) Tryz.underlying133 Tryz.zeroValue260 rfl rfl g m (xs.length-m) (vc-m) z4sa hcs (fun j hj=>fg _)
   obtain⟨cur',k1,k2,k3⟩:=Qd g 260 (0,0) (List.replicate (xs.length-m) (.pointer none)) m cur w hg;obtain⟨f1,f2,f3,f4,f5⟩:=N7 g (List.replicate (xs.length-m) (.pointer none)) m w;have A1:=(f5 b (fun e=>hgb e.symm)).trans h.blk;have Iy:=A0 k1;have HK3:=A0 (k3 m (Nat.le_refl _));have HF:=A0 (And.intro f1 (And.intro f2 (And.intro f3 (And.intro f4 f5))));have HT:=A0 ht;have HSz:=A0 (k2.trans hsz);clear h hcs hg ht k1 k2 k3 f1 f2 f3 f5 hl hsz;have c1:=Ea A1 HH.o.cell;have g1:=Ci A1;have Bk:=A6 A1;have A4:=A0 A1;clear A1 f4;generalize w.setCells g m (List.replicate (xs.length-m) (.pointer none))=w1 at *;go_enter Tryz.func194,Tryz.ntmps194;exact z03a
theorem Akl(h:G0 260 b o w cs t va vn vc xs)(hn:xs.length<=1000000)(n:Nat)(hi:n<xs.length)(h0:xs.length=n+1)(ho:o<cs.size):Calls Tryz.prog 145 #[.pointer (some ⟨b,o,none⟩)] w fun e w'=>e=.returned (xs[n]'hi)/\Ls 260 b o w cs t va vn vc xs n w':=by
 have HT:=A0 (A48 h hn n hi h0);have HL:=A0 (A42 h);have HC:=A0 (Aiq h n z4sa ho);rw[h0]at HL;have D7:n<=1000000:=by omega
 generalize hx:xs[n]'hi=x at HT ⊢;clear h h0 hx;go_enter Tryz.func145,Tryz.ntmps145;exact z17a
end
section
open Go.RowKit
open Go.Deep (BT)
theorem Vw{w:World}{g:Nat}{a0 a1:Value}{t:TypeId}(h:w.heap[g]?=some (.cells #[a0,a1] t (0,0))) :
  w.cell? ⟨g,0,none⟩=some a0/\w.cell? ⟨g,1,none⟩=some a1/\(∀o,w.frozen? ⟨g,o,none⟩=false)/\g<w.heap.size:=
 ⟨A7 h 0 _ rfl,A7 h 1 _ rfl,Ci h,A6 h⟩
theorem Hu.pos{line m:Nat}{ts:List Tk}(h:Hu line m ts):0<ts.length:=by
 cases ts with
 | nil=>exact absurd h id
 | cons x r=>simp
theorem Afr{w:World}{base:Nat}{e:TypeId}{size:Nat}{v:Value}{n:Nat}{xs:List Value}(h:w.ownsRow base e size v n xs)(hn:0<n) :
  ∃g cap cur,v=.slice (some ⟨g,0,none⟩) n cap/\base<=g/\w.heap[g]?=some (.cells cur e (0,0))/\n<=cap/\cur.toList.take (n*size)=xs:=by
 obtain⟨hl,⟨h2,h3⟩|⟨g,cap,cur,hv,hb,hg,hcap,_,_,ht⟩⟩:=h
 ·omega
 ·exact⟨g,cap,cur,hv,hb,hg,hcap,ht⟩
end
end Go.Proofs.YtjdlndhfaaolaaaGreatDoor
