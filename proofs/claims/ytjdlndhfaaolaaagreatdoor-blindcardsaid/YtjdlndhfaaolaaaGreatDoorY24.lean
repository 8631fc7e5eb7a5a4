import Derived.Test.YtjdlndhfaaolaaaGreatDoorY22
set_option maxHeartbeats 20000000
set_option linter.all false
namespace Go.Proofs.YtjdlndhfaaolaaaGreatDoor
section
open Go.RowKit
open Go.Deep (BT)
def A1e:(Tryz.prog.info? 251).map (fun i=>(i.zero,i.size,i.bytes))=some (some (.agg #[.i 0,.i 0,.i 0,.i 0,.bool false,.i 0,.string ⟨#[]⟩,.pointer none]),8,72):=by kernel_rfl
structure J3 (D : Nat -> Prop) (wb te : Nat) (w : World) (fs gs ls ps : Value) (slots : Nat) (st : List Aa) (sa : Option Addr) (sn sc : Nat) : Prop where
 cell:w.heap[wb]?=some (.cells #[fs,gs,ls,ps,.n slots,.slice sa sn sc] te (0,0))
 own:w.ownsRow 0 251 8 (.slice sa sn sc) st.length (F7 st)
 Ig:¬D wb
 Dn:∀g,(Value.slice sa sn sc).ownBlock=some g->¬D g/\g≠wb
 lo:∀g,D g->g<w.heap.size
def Mc(D:Nat->Prop)(wb te:Nat)(w:World)(fs gs ls ps:Value)(slots:Nat)(st:List Aa):Prop:=∃sa sn sc,J3 D wb te w fs gs ls ps slots st sa sn sc
structure EC where
 wb:Nat
 te:Nat
 fns:List (Nm×Nat)
 fa:Option Addr
 fn:Nat
 fc:Nat
 gl:List Nm
 ga:Option Addr
 gn:Nat
 gc:Nat
structure EC.Ex (K : EC) (D : Nat -> Prop) (w : World) (la : Option Addr) (ln lc : Nat) (ps : Value) (e : Em) : Prop where
 ew:Mc D K.wb K.te w (.slice K.fa K.fn K.fc) (.slice K.ga K.gn K.gc) (.slice la ln lc) ps e.slots e.st
 fr:Jq D w K.fns K.fa K.fn K.fc
 gr:Dj D w 9 1 (.slice K.ga K.gn K.gc) K.gl.length (Dx K.gl)
 lr:Dj D w 9 1 (.slice la ln lc) e.loc.length (Dx e.loc)
 C1:e.loc.length<=100000/\K.gl.length<=100000
variable {K:EC} {D:Nat->Prop} {w w':World} {la:Option Addr} {ln lc:Nat} {ps:Value} {e e':Em}
def Mc.keep{wb te:Nat}{fs gs ls ps:Value}{slots:Nat}{st:List Aa}(h:Mc D wb te w fs gs ls ps slots st)(hk:∀g,g<w.heap.size->w'.heap[g]?=w.heap[g]?)(hs:w.heap.size<=w'.heap.size):Mc D wb te w' fs gs ls ps slots st:=by
 obtain⟨sa,sn,sc,h⟩:=h;exact⟨sa,sn,sc,(hk wb (A6 h.cell)).trans h.cell,Bc h.own (fun g _ hl=>hk g hl),h.Ig,h.Dn,fun g hg=>Cb (h.lo g hg) hs⟩
def EC.Ex.next(h:K.Ex D w la ln lc ps e)(hb:A3 D w w')(hew:Mc D K.wb K.te w' (.slice K.fa K.fn K.fc) (.slice K.ga K.gn K.gc) (.slice la ln lc) ps e'.slots e'.st)(hl:e'.loc=e.loc):K.Ex D w' la ln lc ps e':=
 ⟨hew,h.fr.keep hb,h.gr.Bv hb,by rw[hl];exact h.lr.Bv hb,by rw[hl];exact h.C1⟩
def EC.Ex.lo(h:K.Ex D w la ln lc ps e):(∀g,D g->g<w.heap.size)/\K.wb<w.heap.size/\¬D K.wb:=by
 obtain⟨_,_,_,h⟩:=h.ew;exact⟨h.lo,A6 h.cell,h.Ig⟩
def EC.Ex.keep(h:K.Ex D w la ln lc ps e)(hk:∀g,g<w.heap.size->w'.heap[g]?=w.heap[g]?)(hs:w.heap.size<=w'.heap.size)(ho:w'.os=w.os)(ht:w'.tape=w.tape)(hu:w'.output=w.output):K.Ex D w' la ln lc ps e:=
 h.next ⟨ho,ht,hu,hs,fun g hg=>hk g (h.lo.1 g hg)⟩ (h.ew.keep hk hs) rfl
def EC.Ex.drewN(h:K.Ex D w la ln lc ps e)(n:Nat):K.Ex D (w.drewN n) la ln lc ps e:=⟨h.ew.keep (fun _ _=>rfl) (Af _),h.fr.keep (Eb D w n),h.gr.Bv (Eb D w n),h.lr.Bv (Eb D w n),h.C1⟩
def J3.A8k{wb te:Nat}{fs gs ls ps:Value}{slots:Nat}{st:List Aa}{sa:Option Addr}{sn sc:Nat}(h:J3 D wb te w fs gs ls ps slots st sa sn sc)(i:Aa){w1:World}{g cap:Nat}
  (hown:w1.ownsRow 0 251 8 (.slice (some ⟨g,0,none⟩) (st.length+1) cap) (st.length+1) (F7 st++Fg i)) (hgr:w.grownBy w1 (Value.slice sa sn sc).ownBlock) (hat:(Value.slice sa sn sc).ownBlock=some g\/w.heap.size<=g) :
  J3 D wb te (w1.setCell ⟨wb,5,none⟩ (.slice (some ⟨g,0,none⟩) (st.length+1) cap)) fs gs ls ps slots (st++[i]) (some ⟨g,0,none⟩) (st.length+1) cap/\A3 D w (w1.setCell ⟨wb,5,none⟩ (.slice (some ⟨g,0,none⟩) (st.length+1) cap)):=by
 have hwb:w1.heap[wb]?=w.heap[wb]?:=hgr.block wb (A6 h.cell) (fun e=>(h.Dn wb e.symm).2 rfl);have hg:¬D g/\g≠wb:=by
  rcases hat with e|e
  ·exact h.Dn g e
  ·exact⟨fun hd=>by have:=h.lo g hd;omega,fun e2=>by have:=A6 h.cell;omega⟩
 refine⟨⟨?_,?_,h.Ig,?_,?_⟩,hgr.os,hgr.tape,hgr.output,by simp[World.setCell];exact hgr.size,?_⟩
 ·rw[heap_set (hwb.trans h.cell)];simp
 ·rw[Ako,Akr,Ds];exact Bc hown (fun k hk _=>Bh _ _ _ _ (by simp only[Value.ownBlock,Cg]at hk;show k≠wb;rw[←hk];exact hg.2))
 ·intro k hk;simp only[Value.ownBlock,Cg]at hk;subst hk;exact hg
 ·intro k hk;have:=h.lo k hk;have:=hgr.size;simp[World.setCell];omega
 ·intro k hk;exact(Bh _ _ _ _ (by show k≠wb;exact fun e=>h.Ig (e ▸ hk))).trans (hgr.block k (h.lo k hk) (fun e=>(h.Dn k e.symm).1 hk))
end
section
set_option maxRecDepth 100000
open Go.RowKit
open Go.Deep (BT)
def A1c{D:Nat->Prop}{wb te:Nat}{w:World}{fs gs ls ps:Value}{slots:Nat}{st:List Aa}(h:Mc D wb te w fs gs ls ps slots st) :
  Calls Tryz.prog 92 #[.p wb] w fun e w'=>e=.returned (.n st.length)/\w'=w:=by
 obtain⟨sa,sn,sc,h⟩:=h;have c:=A4 h.cell 5 _ rfl;have lb:=A6 h.cell;have hv:sn=st.length:=(Cm h.own).1;subst hv;go_in;exact z12a
def N1{D:Nat->Prop}{wb te:Nat}{w:World}{fs gs ls ps:Value}{slots:Nat}{st:List Aa}(h:Mc D wb te w fs gs ls ps slots st)(hn:st.length<=900000)(op:Nat)(arg:Int)(line:Nat) :
  Calls Tryz.prog 55 #[.pointer (some ⟨wb,0,none⟩),.int .i64 (op:Nat),.int .i64 arg,.int .i64 (line:Nat)] w fun e w'=>e=.returned (.int .i64 (st.length:Nat))/\Mc D wb te w' fs gs ls ps slots (st++[⟨op,arg,line,Bb⟩])/\A3 D w w':=by
 obtain⟨sa,sn,sc,h⟩:=h;have c:=A4 h.cell 5 _ rfl;have lb:=A6 h.cell;have hv:sn=st.length:=(Cm h.own).1;subst hv;have hown:=h.own;have HH:=A0 h;have HP:=A0 (fun(w1:World) (g cap:Nat)=>h.A8k ⟨op,arg,line,Bb⟩ (w1:=w1) (g:=g) (cap:=cap));clear h;go_in;go_wp2_with (at_builtin;refine Lh w #[.int .i64 (op:Nat),.int .i64 arg,.int .i64 (line:Nat),.int .i64 0,.bool false,.int .i64 0,.string ⟨#[]⟩,.pointer none] 251 rfl (.tmp 14) (.tmp 19) 96 rfl 0 8 72 _ Tryz.underlying96 A1e rfl z4ma (.slice sa st.length sc) st.length (F7 st) rfl rfl hown rfl (fun v hv=>by simp at hv;rcases hv with rfl|rfl|rfl|rfl|rfl|rfl|rfl|rfl <;> rfl) z4ma z4ma (De _) ?_;intro g cap w1 Ev hgrow hat hg;have A2:=(hgrow.block wb lb (fun e=>(HH.o.Dn wb e.symm).2 rfl)).trans HH.o.cell;have c1:=A4 A2 5 _ rfl;have f1:=By A2;have Bn:=A6 A2;have Cn:=A0 (HP.o w1 g cap Ev hgrow (hat.imp id (fun e=>by omega)));clear A2 Ev hgrow hat)
 refine(A1c ⟨_,_,_,Cn.o.1⟩).mono ?_;rintro e w' ⟨rfl,rfl⟩;have hl:((st++[(⟨op,arg,line,Bb⟩:Aa)]).length:Int)=(st.length:Int)+1:=by simp
 unfold Value.n;rw[hl];clear hl;go_wp2;go_ret;exact⟨A22 z4ma,⟨_,_,_,Cn.o.1⟩,Cn.o.2⟩
end
section
open Go.RowKit
open Go.Deep (BT)
def Fs(ρ:Nat->Nat)(n c:Nat):Nat->Nat:=fun k=>if k<n then ρ k else c
def dX(n:Nat)(ρ:Nat->Nat):Nat->Prop:=fun g=>g<n/\ρ g≠1/\ρ g≠4
def Br{ρ:Nat->Nat}{n c k:Nat}(h:k<n):Fs ρ n c k=ρ k:=A7 h
def J0{ρ:Nat->Nat}{n c k:Nat}(h:n<=k):Fs ρ n c k=c:=Ai
def Ahi{ρ:Nat->Nat}{n n':Nat}(h:n<=n'):dX n' (Fs ρ n 4)=dX n ρ:=by
 funext g
 apply propext;unfold dX;by_cases hg:g<n
 ·rw[Br hg];exact⟨fun⟨_,h1,h2⟩=>⟨hg,h1,h2⟩,fun⟨_,h1,h2⟩=>⟨by omega,h1,h2⟩⟩
 ·rw[J0 z4ma];exact⟨fun⟨_,_,h2⟩=>absurd rfl h2,fun⟨h1,_⟩=>absurd h1 hg⟩
abbrev LB:=Nat×Option Addr×Nat×Nat
def Pm(b:LB):Value:=.slice b.2.1 b.2.2.1 b.2.2.2
def Qy(w:World)(ρ:Nat->Nat):List LB->List (Nat×List Nat)->Prop
 | [],[]=>True
 | b::br,l::lr=>w.heap[b.1]?=some (.cells #[.int .i64 (l.1:Nat),Pm b] 263 (0,0))/\w.ownsRow 0 3 1 (Pm b) (Dr l.2).length (Dr l.2)/\ρ b.1=5+2*br.length/\(∀g,(Pm b).ownBlock=some g->ρ g=6+2*br.length)/\Qy w ρ br lr
 | [],_::_=>False
 | _::_,[]=>False
def Qy.len{w:World}{ρ:Nat->Nat}:∀{bl:List LB} {ls:List (Nat×List Nat)},Qy w ρ bl ls->bl.length=ls.length:=by
 intro bl;induction bl with
 | nil=>intro ls h;cases ls with
  | nil=>rfl
  | cons=>exact h.elim
 | cons b br ih=>intro ls h;cases ls with
  | nil=>exact h.elim
  | cons l lr=>simp only[Il];rw[ih h.2.2.2.2]
def z5aa {P:Prop} (h:P:=by rw[h4 g hg];omega):P:=h
def Qy.keep{w w':World}{ρ ρ':Nat->Nat}(n:Nat)(hk:∀g,g<w.heap.size->5<=ρ g->ρ g<5+2*n->w'.heap[g]?=w.heap[g]?/\ρ' g=ρ g):∀{bl:List LB} {ls:List (Nat×List Nat)},Qy w ρ bl ls->bl.length<=n->Qy w' ρ' bl ls:=by
 intro bl;induction bl with
 | nil=>intro ls h _;cases ls with
  | nil=>trivial
  | cons=>exact h.elim
 | cons b br ih=>intro ls h hn;cases ls with
  | nil=>exact h.elim
  | cons l lr=>
   obtain⟨h1,h2,h3,h4,h5⟩:=h;simp only[Il]at hn;have k1:=hk b.1 (A6 h1) z4ma z4ma;refine⟨k1.1.trans h1,Bc h2 (fun g hg hl=>(hk g hl z5aa z5aa).1),k1.2.trans h3,fun g hg=>?_,ih h5 z4ma⟩;exact((hk g (Bs h2 g hg) z5aa z5aa).2).trans (h4 g hg)
def Jq.weak{D D':Nat->Prop}{w:World}{fns:List (Nm×Nat)}{fa:Option Addr}{fn fc:Nat}(h:Jq D w fns fa fn fc)(hd:∀g,D g->D' g):Jq D' w fns fa fn fc:=by
 refine⟨h.len,h.C1,h.cap,fun i hi=>?_⟩;obtain⟨g,pb,pa,pc,e1,e2,e3,e4,e5,e6⟩:=h.at' i hi;exact⟨g,pb,pa,pc,e1,hd _ e2,e3,e4,hd _ e5,e6⟩
def Dj.weak{D D':Nat->Prop}{w:World}{t:TypeId}{size:Nat}{v:Value}{n:Nat}{cs:List Value}(h:Dj D w t size v n cs)(hd:∀g,D g->D' g):Dj D' w t size v n cs:=h.keep (fun g hg _=>⟨rfl,hd g hg⟩)
def Bx.weak{D D':Nat->Prop}{w:World}{l:A5}{v:Value}{ks:List Value}(h:Bx D w l v ks)(hd:∀g,D g->D' g):Bx D' w l v ks:=Bx.keep (fun g hg _=>⟨rfl,hd g hg⟩) h
structure EC.Sv (K : EC) (D : Nat -> Prop) (w : World) (e : Em) (ρ : Nat -> Nat) (la : Option Addr) (ln lc : Nat) (pa : Option Addr) (pn pc : Nat) (bl : List LB) : Prop where
 ew:Mc (dX w.heap.size ρ) K.wb K.te w (.slice K.fa K.fn K.fc) (.slice K.ga K.gn K.gc) (.slice la ln lc) (.slice pa pn pc) e.slots e.st
 fr:Jq D w K.fns K.fa K.fn K.fc
 gr:Dj D w 9 1 (.slice K.ga K.gn K.gc) K.gl.length (Dx K.gl)
 lr:w.ownsRow 0 9 1 (.slice la ln lc) e.loc.length (Dx e.loc)
 lro:∀g,(Value.slice la ln lc).ownBlock=some g->ρ g=2
 pr:w.ownsRow 0 260 1 (.slice pa pn pc) (bl.map fun b=>Cs b.1).reverse.length (bl.map fun b=>Cs b.1).reverse
 pro:∀g,(Value.slice pa pn pc).ownBlock=some g->ρ g=3
 lps:Qy w ρ bl e.lps
 prot:∀g,D g->g<w.heap.size/\ρ g=0
 one:ρ K.wb=1/\∀g,ρ g=1->g=K.wb
 C1:e.loc.length<=100000/\K.gl.length<=100000
def EC.St(K:EC)(lbs:List Nat)(D:Nat->Prop)(w:World)(e:Em):Prop:=∃ρ la ln lc pa pn pc bl,K.Sv D w e ρ la ln lc pa pn pc bl/\bl.map Prod.fst=lbs
variable {K:EC} {D:Nat->Prop} {w w':World} {e e':Em} {ρ:Nat->Nat} {la:Option Addr} {ln lc:Nat} {pa:Option Addr} {pn pc:Nat} {bl:List LB}
def EC.Sv.dx(h:K.Sv D w e ρ la ln lc pa pn pc bl):∀g,D g->dX w.heap.size ρ g:=fun g hg=>⟨(h.prot g hg).1,by rw[(h.prot g hg).2];omega,by rw[(h.prot g hg).2];omega⟩
def EC.Sv.Pu(h:K.Sv D w e ρ la ln lc pa pn pc bl):K.Ex (dX w.heap.size ρ) w la ln lc (.slice pa pn pc) e:=
 ⟨h.ew,h.fr.weak h.dx,h.gr.weak h.dx,⟨h.lr,fun g hg=>⟨Bs h.lr g hg,by rw[h.lro g hg];omega,by rw[h.lro g hg];omega⟩⟩,h.C1⟩
def EC.Sv.lo(h:K.Sv D w e ρ la ln lc pa pn pc bl):(∀g,D g->g<w.heap.size)/\K.wb<w.heap.size/\¬D K.wb:=
 ⟨fun g hg=>(h.prot g hg).1,h.Pu.lo.2.1,fun hd=>by have:=(h.prot _ hd).2;have:=h.one.1;omega⟩
def EC.St.lo{lbs:List Nat}(h:K.St lbs D w e):(∀g,D g->g<w.heap.size)/\K.wb<w.heap.size/\¬D K.wb:=by
 obtain⟨_,_,_,_,_,_,_,_,h,_⟩:=h;exact h.lo
def z10a {P:Prop} (h:P:=by
  by_cases hl:g<w.heap.size
  ·rw[Br hl]at hg;exact h.one.2 g hg
  ·rw[J0 z4ma]at hg;cases hg):P:=h
def z36a {P:Prop} (h:P:=by
  exact⟨Cb this.1 hb.size,by rw[Br this.1];exact this.2⟩):P:=h
def EC.Sv.Ro(h:K.Sv D w e ρ la ln lc pa pn pc bl)(hb:A3 (dX w.heap.size ρ) w w')(hx:K.Ex (dX w.heap.size ρ) w' la ln lc (.slice pa pn pc) e')(hl:e'.lps=e.lps) :
  K.Sv D w' e' (Fs ρ w.heap.size 4) la ln lc pa pn pc bl/\A3 D w w':=by
 have hbd:A3 D w w':=hb.weak h.dx;refine⟨⟨by rw[Ahi hb.size];exact hx.ew,h.fr.keep hbd,h.gr.Bv hbd,hx.lr.1,fun g hg=>by rw[Br (Bs h.lr g hg)];exact h.lro g hg,?_,fun g hg=>by rw[Br (Bs h.pr g hg)];exact h.pro g hg,?_,fun g hg=>?_,⟨by rw[Br h.lo.2.1];exact h.one.1,fun g hg=>?_⟩,hx.C1⟩,hbd⟩
 ·exact Bc h.pr (fun g hg hl=>hb.block g ⟨hl,by rw[h.pro g hg];omega,by rw[h.pro g hg];omega⟩)
 ·rw[hl];exact h.lps.keep bl.length (fun g hl h5 _=>⟨hb.block g ⟨hl,by omega,by omega⟩,Br hl⟩) (Af _)
 ·have:=h.prot g hg;exact z36a
 ·exact z10a
structure Hq (c : Nat) (ρ : Nat -> Nat) (w w' : World) : Prop where
 os:w'.os=w.os
 tape:w'.tape=w.tape
 output:w'.output=w.output
 size:w.heap.size<=w'.heap.size
 block:∀k,k<w.heap.size->ρ k≠1->ρ k≠c->w'.heap[k]?=w.heap[k]?
def J3.Pf{c:Nat}{fs gs ls ps:Value}{slots:Nat}{st:List Aa}{wb te:Nat}{sa:Option Addr}{sn sc:Nat}(h:J3 (dX w.heap.size ρ) wb te w fs gs ls ps slots st sa sn sc)(hone:ρ wb=1/\∀g,ρ g=1->g=wb)(hc:Hq c ρ w w')(hc4:c≠4)(hc1:c≠1){ls' ps':Value}{slots':Nat}
  (hcell:w'.heap[wb]?=some (.cells #[fs,gs,ls',ps',.n slots',.slice sa sn sc] te (0,0))):J3 (dX w'.heap.size (Fs ρ w.heap.size c)) wb te w' fs gs ls' ps' slots' st sa sn sc:=by
 have hwb:=A6 h.cell;have h4:∀g,(Value.slice sa sn sc).ownBlock=some g->ρ g=4:=by
  intro g hg;have h1:=h.Dn g hg;have h2:=Bs h.own g hg;by_cases e1:ρ g=1
  ·exact absurd (hone.2 g e1) h1.2
  ·by_cases e4:ρ g=4
   ·exact e4
   ·exact absurd ⟨h2,e1,e4⟩ h1.1
 refine⟨hcell,Bc h.own (fun g hg hl=>hc.block g hl z5aa z5aa),fun hd=>hd.2.1 (by rw[Br hwb];exact hone.1),fun g hg=>⟨fun hd=>hd.2.2 (by rw[Br (Bs h.own g hg)];exact h4 g hg),(h.Dn g hg).2⟩,fun g hg=>hg.1⟩
def Gm.Pf{row:Option Nat}{c:Nat}(h:Gm K.wb row w w')(hone:ρ K.wb=1)(hr:∀g,row=some g->ρ g=c):Hq c ρ w w':=
 ⟨h.os,h.tape,h.output,h.size,fun k hk h1 h2=>h.block k hk (fun e=>h1 (by rw[e];exact hone)) (fun e=>h2 (hr k e))⟩
def Hq.set{c:Nat}(h:Hq c ρ w w'){b:Nat}(hb:ρ b=1)(o:Nat)(v:Value):Hq c ρ w (w'.setCell ⟨b,o,none⟩ v):=
 ⟨h.os,h.tape,h.output,by simp[World.setCell];exact h.size,fun k hk h1 h2=>(Bh _ _ _ _ (by show k≠b;exact fun e=>h1 (by rw[e];exact hb))).trans (h.block k hk h1 h2)⟩
def Hq.Bv{c:Nat}(h:Hq c ρ w w')(hp:∀g,D g->g<w.heap.size/\ρ g=0)(hc:c≠0):A3 D w w':=
 ⟨h.os,h.tape,h.output,h.size,fun k hk=>h.block k (hp k hk).1 (by rw[(hp k hk).2];omega) (by rw[(hp k hk).2];omega)⟩
def Rp{c n:Nat}(hone:ρ K.wb=1/\∀g,ρ g=1->g=K.wb)(hw:K.wb<n)(hc:c≠1):Fs ρ n c K.wb=1/\∀g,Fs ρ n c g=1->g=K.wb:=by
 refine⟨by rw[Br hw];exact hone.1,fun g hg=>?_⟩;by_cases hl:g<n
 ·rw[Br hl]at hg;exact hone.2 g hg
 ·rw[J0 z4ma]at hg;exact absurd hg hc
def Ug{c:Nat}(hp:∀g,D g->g<w.heap.size/\ρ g=0)(hs:w.heap.size<=w'.heap.size):∀g,D g->g<w'.heap.size/\Fs ρ w.heap.size c g=0:=
 fun g hg=>⟨Cb (hp g hg).1 hs,by rw[Br (hp g hg).1];exact(hp g hg).2⟩
def z3pa {P:Prop} (h:P:=by
  rw[Br (Bs h.pr k hk)];exact h.pro k hk):P:=h
def z6ba {P:Prop} (h:P:=by rw[h.pro k hk];omega):P:=h
def z3ma {P:Prop} (h:P:=by
  exact Bc h.pr (fun k hk hl=>hc.block k hl z6ba z6ba)):P:=h
def z1za {P:Prop} (h:P:=by
  exact h.lps.keep bl.length (fun k hl h5 _=>⟨hc.block k hl z4ma z4ma,Br hl⟩) (Af _)):P:=h
def EC.Sv.Apd(h:K.Sv D w e ρ la ln lc pa pn pc bl)(s:Nm){sa:Option Addr}{sn sc:Nat}(hv:J3 (dX w.heap.size ρ) K.wb K.te w (.slice K.fa K.fn K.fc) (.slice K.ga K.gn K.gc) (.slice la ln lc) (.slice pa pn pc) e.slots e.st sa sn sc){w1:World}(hn:e.loc.length+1<=100000)
  (hp:Q6 9 K.wb 2 w #[.slice K.fa K.fn K.fc,.slice K.ga K.gn K.gc,.slice la ln lc,.slice pa pn pc,.n e.slots,.slice sa sn sc] K.te la ln lc (Dx e.loc) (Ql s) w1) :
  K.St (bl.map Prod.fst) D (w1.setCell ⟨K.wb,4,none⟩ (.n ((max e.slots (e.loc.length+1):Nat)))) (e.local' s)/\A3 D w (w1.setCell ⟨K.wb,4,none⟩ (.n ((max e.slots (e.loc.length+1):Nat)))):=by
 obtain⟨g,cap,hs,hat,hf⟩:=hp;have hc0:Hq 2 ρ w w1:=hf.Pf h.one.1 h.lro;have hc:=hc0.set h.one.1 4 (.n ((max e.slots (e.loc.length+1):Nat)));have hwb:=A6 hv.cell;have hgw:g≠K.wb:=by
  have:=hs.ne;simp only[Value.ownBlock,La,Cg]at this;exact this
 have hnm:Dx (e.loc++[s])=Dx e.loc++[Ql s]:=by simp[Dx]
 have hln:(Dx e.loc).length=e.loc.length:=by simp[Dx]
 refine⟨⟨Fs ρ w.heap.size 2,some ⟨g,0,none⟩,(Dx e.loc).length+1,cap,pa,pn,pc,bl,⟨⟨sa,sn,sc,hv.Pf h.one hc z4ma z4ma ?_⟩,h.fr.keep (hc.Bv h.prot z4ma),h.gr.Bv (hc.Bv h.prot z4ma),?_,?_,?_,?_,?_,Ug h.prot hc.size,Rp h.one hwb z4ma,⟨?_,h.C1.2⟩⟩,rfl⟩,hc.Bv h.prot z4ma⟩
 ·rw[heap_set hs.blk];simp[Em.local']
 ·show(w1.setCell _ _).ownsRow 0 _ 1 _ (e.loc++[s]).length (Dx (e.loc++[s]));rw[hnm];have:=hs.own;rw[Ds,hln]at this;rw[Ds,hln];exact Yi this _ _ (by simp only[Value.ownBlock,La,Cg];exact hgw)
 ·intro k hk;simp only[Value.ownBlock,Cg]at hk;subst hk;rcases hat with h1|h1
  ·rw[Br (Bs h.lr g h1)];exact h.lro g h1
  ·exact J0 h1
 ·exact z3ma
 ·intro k hk;exact z3pa
 ·exact z1za
 ·show(e.loc++[s]).length<=_;simp;omega
def z3qa {P:Prop} (h:P:=by
  rw[Br (Bs h.lr k hk)];exact h.lro k hk):P:=h
def EC.Sv.A5g(h:K.Sv D w e ρ la ln lc pa pn pc bl)(m:Nat){sa:Option Addr}{sn sc:Nat}(hv:J3 (dX w.heap.size ρ) K.wb K.te w (.slice K.fa K.fn K.fc) (.slice K.ga K.gn K.gc) (.slice la ln lc) (.slice pa pn pc) e.slots e.st sa sn sc)
  (hp:O9 9 K.wb 2 w #[.slice K.fa K.fn K.fc,.slice K.ga K.gn K.gc,.slice la ln lc,.slice pa pn pc,.n e.slots,.slice sa sn sc] K.te la ln lc (Dx e.loc) m w'):K.St (bl.map Prod.fst) D w' (e.cut m)/\A3 D w w':=by
 obtain⟨hs,hf⟩:=hp;have hc:Hq 2 ρ w w':=hf.Pf h.one.1 h.lro;have hwb:=A6 hv.cell;have hnm:Dx (e.loc.take m)=(Dx e.loc).take m:=by simp[Dx,A3a]
 have ho:∀g,(Value.slice la m lc).ownBlock=some g->(Value.slice la ln lc).ownBlock=some g:=fun g e=>(P2 _ _ _ _).trans e;refine⟨⟨Fs ρ w.heap.size 2,la,m,lc,pa,pn,pc,bl,⟨⟨sa,sn,sc,hv.Pf h.one hc z4ma z4ma ?_⟩,h.fr.keep (hc.Bv h.prot z4ma),h.gr.Bv (hc.Bv h.prot z4ma),?_,?_,?_,?_,?_,Ug h.prot hc.size,Rp h.one hwb z4ma,⟨?_,h.C1.2⟩⟩,rfl⟩,hc.Bv h.prot z4ma⟩
 ·rw[hs.blk];simp[Em.cut]
 ·show w'.ownsRow 0 _ 1 _ (e.loc.take m).length (Dx (e.loc.take m));rw[hnm];have:=hs.own;rw[G3]at this ⊢;simpa [Dx]using this
 ·intro k hk;have hk:=ho k hk;exact z3qa
 ·exact z3ma
 ·intro k hk;exact z3pa
 ·exact z1za
 ·show(e.loc.take m).length<=_;have:=h.C1.1;simp;omega
end
section
open Go.RowKit
open Go.Deep (BT)
variable {K:EC} {D:Nat->Prop} {w w':World} {e e':Em} {ρ:Nat->Nat} {la:Option Addr} {ln lc:Nat} {pa:Option Addr} {pn pc:Nat} {bl:List LB}
def EC.Sv.alloc(h:K.Sv D w e ρ la ln lc pa pn pc bl)(o:Obj)(c:Nat)(hc:5<=c):K.Sv D (w.alloc o) e (Fs ρ w.heap.size c) la ln lc pa pn pc bl:=by
 obtain⟨sa,sn,sc,hv⟩:=h.ew;have hk:∀g,g<w.heap.size->(w.alloc o).heap[g]?=w.heap[g]?:=fun g hg=>Ck _ _ _ hg;have hch:Hq c ρ w (w.alloc o):=⟨rfl,rfl,rfl,by simp,fun k hk1 _ _=>hk k hk1⟩;have hbd:=hch.Bv h.prot z4ma;have hwb:=A6 hv.cell;exact⟨⟨sa,sn,sc,hv.Pf h.one hch z4ma z4ma ((hk _ hwb).trans hv.cell)⟩,h.fr.keep hbd,h.gr.Bv hbd,Bc h.lr (fun g _ hl=>hk g hl),fun g hg=>by rw[Br (Bs h.lr g hg)];exact h.lro g hg,
  Bc h.pr (fun g _ hl=>hk g hl),fun g hg=>by rw[Br (Bs h.pr g hg)];exact h.pro g hg,h.lps.keep bl.length (fun g hl _ _=>⟨hk g hl,Br hl⟩) (Af _),Ug h.prot hch.size,Rp h.one hwb z4ma,h.C1⟩
def z6da {P:Prop} (h:P:=by rw[h.lro k hk];omega):P:=h
def z3na {P:Prop} (h:P:=by
  exact Bc h.lr (fun k hk hl=>hc.block k hl z6da z6da)):P:=h
def EC.Sv.A1y(h:K.Sv D w e ρ la ln lc pa pn pc bl)(s lb:Nat){sa:Option Addr}{sn sc:Nat}(hv:J3 (dX w.heap.size ρ) K.wb K.te w (.slice K.fa K.fn K.fc) (.slice K.ga K.gn K.gc) (.slice la ln lc) (.slice pa pn pc) e.slots e.st sa sn sc)
  (hb:w.heap[lb]?=some (.cells #[.n s,.slice none 0 0] 263 (0,0))) (hr:ρ lb=5+2*bl.length)
  (hp:Q6 260 K.wb 3 w #[.slice K.fa K.fn K.fc,.slice K.ga K.gn K.gc,.slice la ln lc,.slice pa pn pc,.n e.slots,.slice sa sn sc] K.te pa pn pc (bl.map fun b=>Cs b.1).reverse (Cs lb) w') :
  K.St (lb::bl.map Prod.fst) D w' ⟨e.loc,e.slots,e.st,(s,[])::e.lps⟩/\A3 D w w':=by
 obtain⟨g,cap,hs,hat,hf⟩:=hp;have hc:Hq 3 ρ w w':=hf.Pf h.one.1 h.pro;have hwb:=A6 hv.cell;have hbd:=hc.Bv h.prot z4ma;refine⟨⟨Fs ρ w.heap.size 3,la,ln,lc,some ⟨g,0,none⟩,(bl.map fun b=>Cs b.1).reverse.length+1,cap,(lb,none,0,0)::bl,⟨⟨sa,sn,sc,hv.Pf h.one hc z4ma z4ma ?_⟩,h.fr.keep hbd,h.gr.Bv hbd,?_,?_,?_,?_,?_,Ug h.prot hc.size,Rp h.one hwb z4ma,h.C1⟩,rfl⟩,hbd⟩
 ·rw[hs.blk];simp
 ·exact z3na
 ·intro k hk;exact z3qa
 ·have:=hs.own;rw[Q2,A3e];exact this
 ·intro k hk;simp only[Value.ownBlock,Cg]at hk;subst hk;rcases hat with h1|h1
  ·rw[Br (Bs h.pr g h1)];exact h.pro g h1
  ·exact J0 h1
 ·refine⟨(hc.block lb (A6 hb) (by rw[hr];omega) (by rw[hr];omega)).trans hb,M9 _ _ _ _,by rw[Br (A6 hb)];exact hr,fun k hk=>by simp[Pm,Value.ownBlock]at hk,?_⟩;exact z1za
def EC.Sv.Aom{b:LB}{br:List LB}(h:K.Sv D w e ρ la ln lc pa pn pc (b::br)){sa:Option Addr}{sn sc:Nat}(hv:J3 (dX w.heap.size ρ) K.wb K.te w (.slice K.fa K.fn K.fc) (.slice K.ga K.gn K.gc) (.slice la ln lc) (.slice pa pn pc) e.slots e.st sa sn sc)
  (hp:O9 260 K.wb 3 w #[.slice K.fa K.fn K.fc,.slice K.ga K.gn K.gc,.slice la ln lc,.slice pa pn pc,.n e.slots,.slice sa sn sc] K.te pa pn pc ((b::br).map fun b=>Cs b.1).reverse br.length w') :
  K.St (br.map Prod.fst) D w' e.close/\A3 D w w':=by
 obtain⟨hs,hf⟩:=hp;have hc:Hq 3 ρ w w':=hf.Pf h.one.1 h.pro;have hwb:=A6 hv.cell;have hbd:=hc.Bv h.prot z4ma;have ho:∀g,(Value.slice pa br.length pc).ownBlock=some g->(Value.slice pa pn pc).ownBlock=some g:=fun g e=>(P2 _ _ _ _).trans e;have htk:(((b::br).map fun b=>Cs b.1).reverse).take br.length=(br.map fun b=>Cs b.1).reverse:=by
  rw[Q2,A3e,Aau z4ra];rw[Ot z4ra]
 have hlp:=h.lps;obtain⟨l,lr,hl⟩:∃l lr,e.lps=l::lr:=by
  cases hq:e.lps with
  | nil=>rw[hq]at hlp;exact hlp.elim
  | cons l lr=>exact⟨l,lr,rfl⟩
 rw[hl]at hlp;refine⟨⟨Fs ρ w.heap.size 3,la,ln,lc,pa,br.length,pc,br,⟨⟨sa,sn,sc,hv.Pf h.one hc z4ma z4ma ?_⟩,h.fr.keep hbd,h.gr.Bv hbd,?_,?_,?_,?_,?_,Ug h.prot hc.size,Rp h.one hwb z4ma,h.C1⟩,rfl⟩,hbd⟩
 ·rw[hs.blk];simp[Em.close]
 ·exact z3na
 ·intro k hk;exact z3qa
 ·have:=hs.own;rw[htk]at this;exact this
 ·intro k hk;have hk:=ho k hk;exact z3pa
 ·show Qy _ _ _ e.lps.tail;rw[hl];exact hlp.2.2.2.2.keep br.length (fun k hl h5 _=>⟨hc.block k hl z4ma z4ma,Br hl⟩) (Af _)
def z5ba {P:Prop} (h:P:=by rw[h.one.1];omega):P:=h
def EC.Sv.Acl{b:LB}{br:List LB}(h:K.Sv D w e ρ la ln lc pa pn pc (b::br)){s:Nat}{bs:List Nat}{r:List (Nat×List Nat)}(he:e.lps=(s,bs)::r)(j:Nat){w2:World}{g cap:Nat}
  (hown:w2.ownsRow 0 3 1 (.slice (some ⟨g,0,none⟩) ((Dr bs).length+1) cap) ((Dr bs).length+1) (Dr bs++[Sm j])) (hgr:w.grownBy w2 (Pm b).ownBlock) (hat:(Pm b).ownBlock=some g\/w.heap.size<=g) :
  K.St (b.1::br.map Prod.fst) D (w2.setCell ⟨b.1,1,none⟩ (.slice (some ⟨g,0,none⟩) ((Dr bs).length+1) cap)) ⟨e.loc,e.slots,e.st,(s,bs++[j])::r⟩/\A3 D w (w2.setCell ⟨b.1,1,none⟩ (.slice (some ⟨g,0,none⟩) ((Dr bs).length+1) cap)):=by
 obtain⟨sa,sn,sc,hv⟩:=h.ew;have hwb:=A6 hv.cell;have hlp:=h.lps;rw[he]at hlp;obtain⟨h1,h2,h3,h4,h5⟩:=hlp;have hblk:∀k,k<w.heap.size->ρ k≠5+2*br.length->ρ k≠6+2*br.length->(w2.setCell ⟨b.1,1,none⟩ (.slice (some ⟨g,0,none⟩) ((Dr bs).length+1) cap)).heap[k]?=w.heap[k]?:=by
  intro k hk e1 e2;exact(Bh _ _ _ _ (by show k≠b.1;exact fun e=>e1 (by rw[e];exact h3))).trans (hgr.block k hk (fun e=>e2 (h4 k e.symm)))
 have hsz:w.heap.size<=(w2.setCell ⟨b.1,1,none⟩ (.slice (some ⟨g,0,none⟩) ((Dr bs).length+1) cap)).heap.size:=by simp[World.setCell];exact hgr.size
 have hwbk:=hblk K.wb hwb z5ba z5ba;have hbd:A3 D w (w2.setCell ⟨b.1,1,none⟩ (.slice (some ⟨g,0,none⟩) ((Dr bs).length+1) cap)):=⟨hgr.os,hgr.tape,hgr.output,hsz,fun k hk=>hblk k (h.prot k hk).1 (by rw[(h.prot k hk).2];omega) (by rw[(h.prot k hk).2];omega)⟩;have Ad:w2.heap[b.1]?=w.heap[b.1]?:=hgr.block b.1 (A6 h1) (fun e=>by have:=h4 b.1 e.symm;omega);have hgb:g≠b.1:=by
  rcases hat with e1|e1
  ·intro e2;have:=h4 g e1;rw[e2]at this;omega
  ·have:=A6 h1;omega
 have hew:J3 (dX (w2.setCell ⟨b.1,1,none⟩ (.slice (some ⟨g,0,none⟩) ((Dr bs).length+1) cap)).heap.size (Fs ρ w.heap.size (6+2*br.length))) K.wb K.te (w2.setCell ⟨b.1,1,none⟩ (.slice (some ⟨g,0,none⟩) ((Dr bs).length+1) cap)) (.slice K.fa K.fn K.fc) (.slice K.ga K.gn K.gc) (.slice la ln lc) (.slice pa pn pc) e.slots e.st sa sn sc:=by
  have q4:∀k,(Value.slice sa sn sc).ownBlock=some k->ρ k=4:=by
   intro k hk;have q1:=hv.Dn k hk;have q2:=Bs hv.own k hk;by_cases e1:ρ k=1
   ·exact absurd (h.one.2 k e1) q1.2
   ·by_cases e4:ρ k=4
    ·exact e4
    ·exact absurd ⟨q2,e1,e4⟩ q1.1
  exact⟨hwbk.trans hv.cell,Bc hv.own (fun k hk hl=>hblk k hl (by rw[q4 k hk];omega) (by rw[q4 k hk];omega)),fun hd=>hd.2.1 (by rw[Br hwb];exact h.one.1),fun k hk=>⟨fun hd=>hd.2.2 (by rw[Br (Bs hv.own k hk)];exact q4 k hk),(hv.Dn k hk).2⟩,fun k hk=>hk.1⟩
 refine⟨⟨Fs ρ w.heap.size (6+2*br.length),la,ln,lc,pa,pn,pc,(b.1,some ⟨g,0,none⟩,(Dr bs).length+1,cap)::br,⟨⟨sa,sn,sc,hew⟩,h.fr.keep hbd,h.gr.Bv hbd,?_,?_,?_,?_,?_,Ug h.prot hsz,Rp h.one hwb z4ma,h.C1⟩,rfl⟩,hbd⟩
 ·exact Bc h.lr (fun k hk hl=>hblk k hl z6da z6da)
 ·intro k hk;exact z3qa
 ·have:=Bc h.pr (fun k hk hl=>hblk k hl z6ba z6ba);simpa using this
 ·intro k hk;exact z3pa
 ·refine⟨?_,?_,by rw[Br (A6 h1)];exact h3,fun k hk=>?_,?_⟩
  ·rw[heap_set (Ad.trans h1)];simp[Pm]
  ·have e1:Dr (bs++[j])=Dr bs++[Sm j]:=by simp[Dr]
   rw[e1,Ds];exact Yi hown _ _ (by simp only[Value.ownBlock,La,Cg];exact hgb)
  ·simp only[Pm,Value.ownBlock,Cg]at hk;subst hk;rcases hat with e1|e1
   ·rw[Br (Bs h2 g e1)];exact h4 g e1
   ·exact J0 e1
  ·exact h5.keep br.length (fun k hl k5 k6=>⟨hblk k hl z4ma z4ma,Br hl⟩) (Af _)
end
section
set_option maxRecDepth 100000
open Go.RowKit
variable {b o:Nat}{w:World}{cs:Array Value}{t:TypeId}{va:Option Addr}{vn vc:Nat}{xs:List Value}
def Akl:(Tryz.prog.info? 260).map (fun i=>(i.zero,i.size,i.bytes))=some (some (.pointer none),1,8):=by kernel_rfl
def A9c(h:H9 260 b o w cs t va vn vc xs):Calls Tryz.prog 147 #[.pointer (some ⟨b,o,none⟩)] w fun e w'=>e=.returned (.n xs.length)/\w'=w:=by
 exact z4da
def Aqv(h:H9 260 b o w cs t va vn vc xs)(i:Nat)(hi:i<xs.length):Calls Tryz.prog 146 #[.pointer (some ⟨b,o,none⟩),.n i] w fun e w'=>e=.returned xs[i]/\w'=w:=by
 exact z0ta
def A9h(h:H9 260 b o w cs t va vn vc xs)(hn:xs.length<=1000000)(n:Nat)(hi:n<xs.length)(h0:xs.length=n+1):Calls Tryz.prog 96 #[.pointer (some ⟨b,o,none⟩)] w fun e w'=>e=.returned (xs[n]'hi)/\w'=w:=by
 have HL:=A9c h;have HA:=Aqv h n hi;exact z4ea
def Asy(h:H9 260 b o w cs t va vn vc xs)(hn:xs.length<=900000)(u:Option Addr)(ho:o<cs.size):Calls Tryz.prog 144 #[.pointer (some ⟨b,o,none⟩),.pointer u] w fun e w'=>e=.returned (.tuple #[])/\Q6 260 b o w cs t va vn vc xs (.pointer u) w':=by
 have c:=E6 h.blk h.cell;have lb:=A6 h.blk;have fz:=By h.blk;have hv:vn=xs.length:=(Cm h.own).1;subst hv;have hown:=h.own;have HNe:=A0 h.ne;go_in;go_wp2_with (at_builtin;refine Lh w #[.pointer u] 260 rfl (.tmp 8) (.tmp 10) 133 rfl 0 1 8 (.pointer none) Tryz.underlying133 Akl rfl z4ma (.slice va xs.length vc) xs.length xs rfl rfl hown rfl (fun v hv=>by simp at hv;rw[hv];rfl) z4ma z4ma (De _) ?_;intro g cap w1 Ev hgrow hat hg;have A2:=(hgrow.block b lb (fun e=>HNe.o e.symm)).trans h.blk;have c1:=E6 A2 h.cell;have f1:=By A2;have Bn:=A6 A2;have A9:=A0 A2;have HOwn1:=A0 Ev;have HGrow:=A0 hgrow;have HAt:=A0 hat;clear A2 Ev hgrow hat)
 exact z0ba
def Ar2(h:H9 260 b o w cs t va vn vc xs)(m:Nat)(hm:m<=xs.length)(ho:o<cs.size):Calls Tryz.prog 194 #[.pointer (some ⟨b,o,none⟩),.n m] w fun e w'=>e=.returned (.tuple #[])/\O9 260 b o w cs t va vn vc xs m w':=by
 have c:=E6 h.blk h.cell;have lb:=A6 h.blk;have fz:=By h.blk;have hv:vn=xs.length:=(Cm h.own).1;subst hv;have HH:=A0 h;have HNe:=A0 h.ne;by_cases he:m=xs.length
 ·subst he;clear h;go_in;go_wp2;refine B9 (v:=.tuple #[]) (by simp[results,Tryz.results194,go_sem]) rfl ⟨rfl,?_,Gm.refl _ _ _⟩;rw[Qo HH.o.cell,Q1];exact HH.o
 ·obtain⟨g,rfl,I4,hcap,lg,fg,hx,cg⟩:=Rq h.own m z4ma;obtain⟨hl,⟨h2,h3⟩|⟨g',cap,cur,hv,_,hg,hcap',hmx,hsz,ht⟩⟩:=h.own
  ·cases h2
  ·injection hv with e1 e2 e3;injection e1 with e1;injection e1 with e1;subst e1 e3;have hgb:g≠b:=fun e=>h.ne z5ia;have hcs:∀j,j<xs.length-m->(w.cell? ⟨g,m+j,none⟩).isSome=true:=by
    exact z2da
   have hcl:∀ty,(Builtin.clear_ #[133] ty #[.slice (some ⟨g,m,none⟩) (xs.length-m) (vc-m)]).run Tryz.prog w=.ok (.tuple #[]) (w.setCells g m (List.replicate (xs.length-m) (.pointer none))):=
    fun ty=>Zg w 133 260 ty (.pointer none) Tryz.underlying133 Tryz.zeroValue260 rfl rfl g m (xs.length-m) (vc-m) z4ma hcs (fun j hj=>fg _)
   obtain⟨cur',k1,k2,k3⟩:=Su g 260 (0,0) (List.replicate (xs.length-m) (.pointer none)) m cur w hg;exact z14a
def Asu(h:H9 260 b o w cs t va vn vc xs)(hn:xs.length<=1000000)(n:Nat)(hi:n<xs.length)(h0:xs.length=n+1)(ho:o<cs.size):Calls Tryz.prog 145 #[.pointer (some ⟨b,o,none⟩)] w fun e w'=>e=.returned (xs[n]'hi)/\O9 260 b o w cs t va vn vc xs n w':=by
 have HT:=A9h h hn n hi h0;have HL:=A9c h;have HC:=Ar2 h n z4ma ho;exact z0ua
end
section
open Go.RowKit
open Go.Deep (BT)
def s7{w:World}{g:Nat}{a0 a1:Value}{t:TypeId}(h:w.heap[g]?=some (.cells #[a0,a1] t (0,0))) :
  w.cell? ⟨g,0,none⟩=some a0/\w.cell? ⟨g,1,none⟩=some a1/\(∀o,w.frozen? ⟨g,o,none⟩=false)/\g<w.heap.size:=
 ⟨A4 h 0 _ rfl,A4 h 1 _ rfl,By h,A6 h⟩
def Kt.pos{line m:Nat}{ts:List Tk}(h:Kt line m ts):0<ts.length:=by
 cases ts with
 | nil=>exact absurd h id
 | cons x r=>simp
def An3{w:World}{base:Nat}{e:TypeId}{size:Nat}{v:Value}{n:Nat}{xs:List Value}(h:w.ownsRow base e size v n xs)(hn:0<n) :
  ∃g cap cur,v=.slice (some ⟨g,0,none⟩) n cap/\base<=g/\w.heap[g]?=some (.cells cur e (0,0))/\n<=cap/\cur.toList.take (n*size)=xs:=by
 obtain⟨hl,⟨h2,h3⟩|⟨g,cap,cur,hv,hb,hg,hcap,_,_,ht⟩⟩:=h
 ·omega
 ·exact⟨g,cap,cur,hv,hb,hg,hcap,ht⟩
