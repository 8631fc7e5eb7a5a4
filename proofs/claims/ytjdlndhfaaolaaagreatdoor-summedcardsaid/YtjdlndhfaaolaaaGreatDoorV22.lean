import Derived.Test.YtjdlndhfaaolaaaGreatDoorV21
set_option maxHeartbeats 20000000
namespace Go.Proofs.YtjdlndhfaaolaaaGreatDoor
section
set_option maxRecDepth 100000
open Go.RowKit
open Go.Deep (BT)
theorem Aae{w:World}{fa:Option Addr}{fn fc:Nat}:F8 (fun g=>g<w.heap.size) w.heap.size 213 (w.alloc (.cells #[.slice fa fn fc,.int .i64 0,.slice none 0 0,.slice none 0 0,.slice none 0 0,.bool false,.int .i64 0,.int .i64 0] 213)) [] [] 0 false (0,0) 0 fa fn fc:=by
 refine⟨none,0,0,none,0,0,none,0,0,[],heap_alloc_new _ _,World.ownsRow_nil _ _ _ _,World.ownsRow_nil _ _ _ _,World.ownsRow_nil _ _ _ _,rfl,by omega,?_,?_,?_,by simp,fun g hg=>by simp;omega⟩;all_goals intro g hg;simp[Value.ownBlock]at hg
theorem A9u(c:BT A6)(hwf:Wf 4 c)(D:Nat->Prop)(w:World)(pb:Nat)(va:Option Addr)(vn vc:Nat)(ks:List Value)(hpb:w.heap[pb]?=some (.cells #[.slice va vn vc] 140 (0,0)))
  (hown:Cw D w 142 1 (.slice va vn vc) ks.length ks) (hrep:An D w c ks) (A1:bsize c<=90000) :
  Calls Tryz.prog 51 #[.pointer (some ⟨pb,0,none⟩)] w fun e w'=>e=.returned (.agg #[.int .i64 ((Et (Cr c) c [] [] (0,0)).1:Nat),.int .i64 ((Et (Cr c) c [] [] (0,0)).2:Nat)])/\Below w.heap.size w w':=by
 have lp:=A5 hpb;have hk1:∀g,D g->g<w.heap.size->(w.alloc (.cells #[.int .i64 0,.int .i64 0] 50)).heap[g]?=w.heap[g]?/\(D g/\g<w.heap.size):=fun g hg hl=>⟨Below.heap_alloc _ _ _ hl,hg,hl⟩;have HC:=A0 (A12 c hwf (fun g=>D g/\g<w.heap.size) (w.alloc (.cells #[.int .i64 0,.int .i64 0] 50)) pb va vn vc ks (alloc_old hpb) (hown.keep hk1) (An.keep hk1 _ _ hrep) A1);have HPb:=A0 hpb;have HOwn:=A0 hown;have HRep:=A0 hrep;have HWf:=A0 hwf;clear hpb hown hrep hwf hk1;go_enter Tryz.func51,Tryz.ntmps51;go_wp2_with fail
 refine HC.o.mono ?_;rintro e w2 ⟨fa,fn,fc,rfl,A8,hfn,hrow⟩;have Ei:=Fq A8 (heap_alloc_new w (.cells #[.int .i64 0,.int .i64 0] 50));have hP2:=Fq A8 (alloc_old (o':=.cells #[.int .i64 0,.int .i64 0] 50) HPb.o);have Aa:Hid (Below w.heap.size w w2):=Below.trans (Below.alloc (Below.refl _ _) (Nat.le_refl _) _) (A8.mono z50a);have ls2:=A8.size;rw[World.size_alloc]at ls2;have c0:=A2 hP2 0 _ rfl;have lp2:=A5 hP2;have Cd:=A0 Ei;have HK:Hid ((⟨w2.heap.size,213,Cr c,fa,fn,fc⟩:CC).St (fun g=>g<w2.heap.size) (w2.alloc (.cells #[.slice fa fn fc,.int .i64 0,.slice none 0 0,.slice none 0 0,.slice none 0 0,.bool false,.int .i64 0,.int .i64 0] 213)) [] [] 0 false (0,0) 0):=by
  refine⟨Aae,?_⟩;have h1:Ic (fun g=>g<w2.heap.size) w2 (Cr c) fa fn fc:=by
   refine⟨hfn.len,hfn.Br,hfn.cap,fun i hi=>?_⟩;obtain⟨g,pb',pa,pc,e1,_,e3,e4,_,e6,e7,e8⟩:=hfn.at' i hi;exact⟨g,pb',pa,pc,e1,e3,e3,e4,e6,e6,e7,e8⟩
  exact h1.keep ⟨rfl,rfl,rfl,by simp,fun k hk=>Below.heap_alloc _ _ _ hk⟩
 have Ci:∀g,D g->g<w.heap.size->(w2.alloc (.cells #[.slice fa fn fc,.int .i64 0,.slice none 0 0,.slice none 0 0,.slice none 0 0,.bool false,.int .i64 0,.int .i64 0] 213)).heap[g]?=w.heap[g]?/\g<w2.heap.size:=fun g hg hl=>⟨(Below.heap_alloc _ _ _ z4va).trans (Aa.o.block g hl),by omega⟩;have HRun:=A0 (A9x ⟨w2.heap.size,213,Cr c,fa,fn,fc⟩ c HWf.o rfl _ _ (0,0) va vn vc ks HK.o (HOwn.o.keep Ci) (An.keep Ci _ _ HRep.o) z4va);clear A8 hfn hrow Ei hP2 Ci HC HK;go_wp2_with fail
 refine HRun.o.mono ?_;rintro e w3 ⟨rfl,⟨cn,bk,rc,C6⟩,Aj⟩;obtain⟨na,nn,nc,ba,bn,bc,la,ln,lc,ls,hv⟩:=C6.st;obtain⟨y0,y1,y2,y3,y4,y5,y6,y7,fy,ly⟩:=Nu hv.cell;have I8:=(Aj.block w.heap.size z4va).trans (alloc_old (o':=.cells #[.slice fa fn fc,.int .i64 0,.slice none 0 0,.slice none 0 0,.slice none 0 0,.bool false,.int .i64 0,.int .i64 0] 213) Cd.o);obtain⟨z0,z1,fz,lz⟩:=Iu I8;have ls3:=Aj.size;rw[World.size_alloc]at ls3;have Av:Hid (Below w.heap.size w w3):=⟨Aj.os.trans Aa.o.os,Aj.tape.trans Aa.o.tape,Aj.output.trans Aa.o.output,by omega,fun k hk=>(Aj.block k z4va).trans ((Below.heap_alloc _ _ _ z4va).trans (Aa.o.block k hk))⟩;clear C6 hv I8 Aj c0;generalize hfl:Et (Cr c) c [] [] (0,0)=fl at *;have HFl:=A0 hfl;clear hfl;go_wp2;refine bodyPost_ret (v:=.agg #[.int .i64 (fl.1:Nat),.int .i64 (fl.2:Nat)]) (by simp[results,Tryz.results51,go_sem,z0,z1]) rfl ⟨by rw[HFl.o],?_⟩;repeat (first|exact Av.o|refine Below.alloc ?_ z4ya _|refine Below.setCell ?_ z50a _|refine Below.drew ?_)
end
section
open Go.RowKit
open Go.Deep (BT)
theorem Xb:(Tryz.prog.info? 251).map (fun i=>(i.zero,i.size,i.bytes))=some (some (.agg #[.int .i64 0,.int .i64 0,.int .i64 0,.int .i64 0,.bool false,.int .i64 0,.string ⟨#[]⟩,.pointer none]),8,72):=by kernel_rfl
structure Ho (D : Nat -> Prop) (wb te : Nat) (w : World) (fs gs ls ps : Value) (slots : Nat) (st : List Ac) (sa : Option Addr) (sn sc : Nat) : Prop where
 cell:w.heap[wb]?=some (.cells #[fs,gs,ls,ps,.int .i64 (slots:Nat),.slice sa sn sc] te (0,0))
 own:w.ownsRow 0 251 8 (.slice sa sn sc) st.length (Ek st)
 Gv:¬D wb
 D5:∀g,(Value.slice sa sn sc).ownBlock=some g->¬D g/\g≠wb
 lo:∀g,D g->g<w.heap.size
def Ka(D:Nat->Prop)(wb te:Nat)(w:World)(fs gs ls ps:Value)(slots:Nat)(st:List Ac):Prop:=∃sa sn sc,Ho D wb te w fs gs ls ps slots st sa sn sc
structure EC where
 wb:Nat
 te:Nat
 fns:List (Nm×Nat)
 fa:Option Addr
 fn:Nat
 fc:Nat
 gl:List Nm
 ga:Option Addr
 gn:Nat
 gc:Nat
structure EC.Ex (K : EC) (D : Nat -> Prop) (w : World) (la : Option Addr) (ln lc : Nat) (ps : Value) (e : Em) : Prop where
 ew:Ka D K.wb K.te w (.slice K.fa K.fn K.fc) (.slice K.ga K.gn K.gc) (.slice la ln lc) ps e.slots e.st
 fr:Ic D w K.fns K.fa K.fn K.fc
 gr:Cw D w 9 1 (.slice K.ga K.gn K.gc) K.gl.length (Df K.gl)
 lr:Cw D w 9 1 (.slice la ln lc) e.loc.length (Df e.loc)
 Br:e.loc.length<=100000/\K.gl.length<=100000
variable {K:EC} {D:Nat->Prop} {w w':World} {la:Option Addr} {ln lc:Nat} {ps:Value} {e e':Em}
theorem Ka.keep{wb te:Nat}{fs gs ls ps:Value}{slots:Nat}{st:List Ac}(h:Ka D wb te w fs gs ls ps slots st)(hk:∀g,g<w.heap.size->w'.heap[g]?=w.heap[g]?)(hs:w.heap.size<=w'.heap.size):Ka D wb te w' fs gs ls ps slots st:=by
 obtain⟨sa,sn,sc,h⟩:=h;exact⟨sa,sn,sc,(hk wb (A5 h.cell)).trans h.cell,B4 h.own (fun g _ hl=>hk g hl),h.Gv,h.D5,fun g hg=>Nat.lt_of_lt_of_le (h.lo g hg) hs⟩
theorem EC.Ex.next(h:K.Ex D w la ln lc ps e)(hb:A3 D w w')(hew:Ka D K.wb K.te w' (.slice K.fa K.fn K.fc) (.slice K.ga K.gn K.gc) (.slice la ln lc) ps e'.slots e'.st)(hl:e'.loc=e.loc):K.Ex D w' la ln lc ps e':=
 ⟨hew,h.fr.keep hb,h.gr.Bq hb,by rw[hl];exact h.lr.Bq hb,by rw[hl];exact h.Br⟩
theorem EC.Ex.lo(h:K.Ex D w la ln lc ps e):(∀g,D g->g<w.heap.size)/\K.wb<w.heap.size/\¬D K.wb:=by
 obtain⟨_,_,_,h⟩:=h.ew;exact⟨h.lo,A5 h.cell,h.Gv⟩
theorem EC.Ex.keep(h:K.Ex D w la ln lc ps e)(hk:∀g,g<w.heap.size->w'.heap[g]?=w.heap[g]?)(hs:w.heap.size<=w'.heap.size)(ho:w'.os=w.os)(ht:w'.tape=w.tape)(hu:w'.output=w.output):K.Ex D w' la ln lc ps e:=
 h.next ⟨ho,ht,hu,hs,fun g hg=>hk g (h.lo.1 g hg)⟩ (h.ew.keep hk hs) rfl
theorem EC.Ex.drewN(h:K.Ex D w la ln lc ps e)(n:Nat):K.Ex D (w.drewN n) la ln lc ps e:=⟨h.ew.keep (fun _ _=>rfl) (Nat.le_refl _),h.fr.keep (Dw D w n),h.gr.Bq (Dw D w n),h.lr.Bq (Dw D w n),h.Br⟩
theorem Ho.A3f{wb te:Nat}{fs gs ls ps:Value}{slots:Nat}{st:List Ac}{sa:Option Addr}{sn sc:Nat}(h:Ho D wb te w fs gs ls ps slots st sa sn sc)(i:Ac){w1:World}{g cap:Nat}
  (hown:w1.ownsRow 0 251 8 (.slice (some ⟨g,0,none⟩) (st.length+1) cap) (st.length+1) (Ek st++Es i)) (hgr:w.grownBy w1 (Value.slice sa sn sc).ownBlock) (hat:(Value.slice sa sn sc).ownBlock=some g\/w.heap.size<=g) :
  Ho D wb te (w1.setCell ⟨wb,5,none⟩ (.slice (some ⟨g,0,none⟩) (st.length+1) cap)) fs gs ls ps slots (st++[i]) (some ⟨g,0,none⟩) (st.length+1) cap/\A3 D w (w1.setCell ⟨wb,5,none⟩ (.slice (some ⟨g,0,none⟩) (st.length+1) cap)):=by
 have hwb:w1.heap[wb]?=w.heap[wb]?:=hgr.block wb (A5 h.cell) (fun e=>(h.D5 wb e.symm).2 rfl);have hg:¬D g/\g≠wb:=by
  rcases hat with e|e
  ·exact h.D5 g e
  ·exact⟨fun hd=>by have:=h.lo g hd;omega,fun e2=>by have:=A5 h.cell;omega⟩
 refine⟨⟨?_,?_,h.Gv,?_,?_⟩,hgr.os,hgr.tape,hgr.output,by simp[World.setCell];exact hgr.size,?_⟩
 ·rw[heap_set (hwb.trans h.cell)];simp
 ·rw[Aeh,Aek,List.length_append];exact B4 hown (fun k hk _=>Below.heap_setCell _ _ _ _ (by simp only[Value.ownBlock,Option.some.injEq]at hk;show k≠wb;rw[←hk];exact hg.2))
 ·intro k hk;simp only[Value.ownBlock,Option.some.injEq]at hk;subst hk;exact hg
 ·intro k hk;have:=h.lo k hk;have:=hgr.size;simp[World.setCell];omega
 ·intro k hk;exact(Below.heap_setCell _ _ _ _ (by show k≠wb;exact fun e=>h.Gv (e ▸ hk))).trans (hgr.block k (h.lo k hk) (fun e=>(h.D5 k e.symm).1 hk))
end
section
set_option maxRecDepth 100000
open Go.RowKit
open Go.Deep (BT)
theorem X8{D:Nat->Prop}{wb te:Nat}{w:World}{fs gs ls ps:Value}{slots:Nat}{st:List Ac}(h:Ka D wb te w fs gs ls ps slots st) :
  Calls Tryz.prog 92 #[.pointer (some ⟨wb,0,none⟩)] w fun e w'=>e=.returned (.int .i64 (st.length:Nat))/\w'=w:=by
 obtain⟨sa,sn,sc,h⟩:=h;have c:=A2 h.cell 5 _ rfl;have lb:=A5 h.cell;have hv:sn=st.length:=(C9 h.own).1;subst hv;clear h;go_enter Tryz.func92,Tryz.ntmps92;exact z03a
theorem Kz{D:Nat->Prop}{wb te:Nat}{w:World}{fs gs ls ps:Value}{slots:Nat}{st:List Ac}(h:Ka D wb te w fs gs ls ps slots st)(hn:st.length<=900000)(op:Nat)(arg:Int)(line:Nat) :
  Calls Tryz.prog 55 #[.pointer (some ⟨wb,0,none⟩),.int .i64 (op:Nat),.int .i64 arg,.int .i64 (line:Nat)] w fun e w'=>e=.returned (.int .i64 (st.length:Nat))/\Ka D wb te w' fs gs ls ps slots (st++[⟨op,arg,line,Ag⟩])/\A3 D w w':=by
 obtain⟨sa,sn,sc,h⟩:=h;have c:=A2 h.cell 5 _ rfl;have lb:=A5 h.cell;have hv:sn=st.length:=(C9 h.own).1;subst hv;have hown:=h.own;have HH:=A0 h;have HP:=A0 (fun(w1:World) (g cap:Nat)=>h.A3f ⟨op,arg,line,Ag⟩ (w1:=w1) (g:=g) (cap:=cap));clear h;go_enter Tryz.func55,Tryz.ntmps55;go_wp2_with (at_builtin;refine Kj w #[.int .i64 (op:Nat),.int .i64 arg,.int .i64 (line:Nat),.int .i64 0,.bool false,.int .i64 0,.string ⟨#[]⟩,.pointer none] 251 rfl (.tmp 14) (.tmp 19) 96 rfl 0 8 72 _ Tryz.underlying96 Xb rfl z4va (.slice sa st.length sc) st.length (Ek st) rfl rfl hown rfl (fun v hv=>by simp at hv;rcases hv with rfl|rfl|rfl|rfl|rfl|rfl|rfl|rfl <;> rfl) z4va z4va (Nat.zero_le _) ?_;intro g cap w1 F0 hgrow hat hg;have A1:=(hgrow.block wb lb (fun e=>(HH.o.D5 wb e.symm).2 rfl)).trans HH.o.cell;have c1:=A2 A1 5 _ rfl;have f1:=Bd A1;have Bj:=A5 A1;have Bv:=A0 (HP.o w1 g cap F0 hgrow (hat.imp id (fun e=>by omega)));clear A1 F0 hgrow hat)
 refine(X8 ⟨_,_,_,Bv.o.1⟩).mono ?_;rintro e w' ⟨rfl,rfl⟩;have hl:((st++[(⟨op,arg,line,Ag⟩:Ac)]).length:Int)=(st.length:Int)+1:=by simp
 rw[hl];clear hl;go_wp2;go_ret;exact⟨Y5 z4va,⟨_,_,_,Bv.o.1⟩,Bv.o.2⟩
end
section
open Go.RowKit
open Go.Deep (BT)
def F2(ρ:Nat->Nat)(n c:Nat):Nat->Nat:=fun k=>if k<n then ρ k else c
def dX(n:Nat)(ρ:Nat->Nat):Nat->Prop:=fun g=>g<n/\ρ g≠1/\ρ g≠4
theorem Bm{ρ:Nat->Nat}{n c k:Nat}(h:k<n):F2 ρ n c k=ρ k:=if_pos h
theorem Hj{ρ:Nat->Nat}{n c k:Nat}(h:n<=k):F2 ρ n c k=c:=if_neg z4va
theorem Abd{ρ:Nat->Nat}{n n':Nat}(h:n<=n'):dX n' (F2 ρ n 4)=dX n ρ:=by
 funext g
 apply propext;unfold dX;by_cases hg:g<n
 ·rw[Bm hg];exact⟨fun⟨_,h1,h2⟩=>⟨hg,h1,h2⟩,fun⟨_,h1,h2⟩=>⟨by omega,h1,h2⟩⟩
 ·rw[Hj z4va];exact⟨fun⟨_,_,h2⟩=>absurd rfl h2,fun⟨h1,_⟩=>absurd h1 hg⟩
abbrev LB:=Nat×Option Addr×Nat×Nat
def N5(b:LB):Value:=.slice b.2.1 b.2.2.1 b.2.2.2
def Od(w:World)(ρ:Nat->Nat):List LB->List (Nat×List Nat)->Prop
 | [],[]=>True
 | b::br,l::lr=>w.heap[b.1]?=some (.cells #[.int .i64 (l.1:Nat),N5 b] 263 (0,0))/\w.ownsRow 0 3 1 (N5 b) (Da l.2).length (Da l.2)/\ρ b.1=5+2*br.length/\(∀g,(N5 b).ownBlock=some g->ρ g=6+2*br.length)/\Od w ρ br lr
 | [],_::_=>False
 | _::_,[]=>False
theorem Od.len{w:World}{ρ:Nat->Nat}:∀{bl:List LB} {ls:List (Nat×List Nat)},Od w ρ bl ls->bl.length=ls.length:=by
 intro bl;induction bl with
 | nil=>intro ls h;cases ls with
  | nil=>rfl
  | cons=>exact h.elim
 | cons b br ih=>intro ls h;cases ls with
  | nil=>exact h.elim
  | cons l lr=>simp only[List.length_cons];rw[ih h.2.2.2.2]
theorem z5ha {P:Prop} (h:P:=by rw[h4 g hg];omega):P:=h
theorem Od.keep{w w':World}{ρ ρ':Nat->Nat}(n:Nat)(hk:∀g,g<w.heap.size->5<=ρ g->ρ g<5+2*n->w'.heap[g]?=w.heap[g]?/\ρ' g=ρ g):∀{bl:List LB} {ls:List (Nat×List Nat)},Od w ρ bl ls->bl.length<=n->Od w' ρ' bl ls:=by
 intro bl;induction bl with
 | nil=>intro ls h _;cases ls with
  | nil=>trivial
  | cons=>exact h.elim
 | cons b br ih=>intro ls h hn;cases ls with
  | nil=>exact h.elim
  | cons l lr=>
   obtain⟨h1,h2,h3,h4,h5⟩:=h;simp only[List.length_cons]at hn;have k1:=hk b.1 (A5 h1) z4va z4va;refine⟨k1.1.trans h1,B4 h2 (fun g hg hl=>(hk g hl z5ha z5ha).1),k1.2.trans h3,fun g hg=>?_,ih h5 z4va⟩;exact((hk g (Bn h2 g hg) z5ha z5ha).2).trans (h4 g hg)
theorem Ic.weak{D D':Nat->Prop}{w:World}{fns:List (Nm×Nat)}{fa:Option Addr}{fn fc:Nat}(h:Ic D w fns fa fn fc)(hd:∀g,D g->D' g):Ic D' w fns fa fn fc:=by
 refine⟨h.len,h.Br,h.cap,fun i hi=>?_⟩;obtain⟨g,pb,pa,pc,e1,e2,e3,e4,e5,e6⟩:=h.at' i hi;exact⟨g,pb,pa,pc,e1,hd _ e2,e3,e4,hd _ e5,e6⟩
theorem Cw.weak{D D':Nat->Prop}{w:World}{t:TypeId}{size:Nat}{v:Value}{n:Nat}{cs:List Value}(h:Cw D w t size v n cs)(hd:∀g,D g->D' g):Cw D' w t size v n cs:=h.keep (fun g hg _=>⟨rfl,hd g hg⟩)
theorem Bs.weak{D D':Nat->Prop}{w:World}{l:A6}{v:Value}{ks:List Value}(h:Bs D w l v ks)(hd:∀g,D g->D' g):Bs D' w l v ks:=Bs.keep (fun g hg _=>⟨rfl,hd g hg⟩) h
structure EC.Sv (K : EC) (D : Nat -> Prop) (w : World) (e : Em) (ρ : Nat -> Nat) (la : Option Addr) (ln lc : Nat) (pa : Option Addr) (pn pc : Nat) (bl : List LB) : Prop where
 ew:Ka (dX w.heap.size ρ) K.wb K.te w (.slice K.fa K.fn K.fc) (.slice K.ga K.gn K.gc) (.slice la ln lc) (.slice pa pn pc) e.slots e.st
 fr:Ic D w K.fns K.fa K.fn K.fc
 gr:Cw D w 9 1 (.slice K.ga K.gn K.gc) K.gl.length (Df K.gl)
 lr:w.ownsRow 0 9 1 (.slice la ln lc) e.loc.length (Df e.loc)
 lro:∀g,(Value.slice la ln lc).ownBlock=some g->ρ g=2
 pr:w.ownsRow 0 260 1 (.slice pa pn pc) (bl.map fun b=>Cc b.1).reverse.length (bl.map fun b=>Cc b.1).reverse
 pro:∀g,(Value.slice pa pn pc).ownBlock=some g->ρ g=3
 lps:Od w ρ bl e.lps
 prot:∀g,D g->g<w.heap.size/\ρ g=0
 one:ρ K.wb=1/\∀g,ρ g=1->g=K.wb
 Br:e.loc.length<=100000/\K.gl.length<=100000
def EC.St(K:EC)(lbs:List Nat)(D:Nat->Prop)(w:World)(e:Em):Prop:=∃ρ la ln lc pa pn pc bl,K.Sv D w e ρ la ln lc pa pn pc bl/\bl.map Prod.fst=lbs
variable {K:EC} {D:Nat->Prop} {w w':World} {e e':Em} {ρ:Nat->Nat} {la:Option Addr} {ln lc:Nat} {pa:Option Addr} {pn pc:Nat} {bl:List LB}
theorem EC.Sv.dx(h:K.Sv D w e ρ la ln lc pa pn pc bl):∀g,D g->dX w.heap.size ρ g:=fun g hg=>⟨(h.prot g hg).1,by rw[(h.prot g hg).2];omega,by rw[(h.prot g hg).2];omega⟩
theorem EC.Sv.Nf(h:K.Sv D w e ρ la ln lc pa pn pc bl):K.Ex (dX w.heap.size ρ) w la ln lc (.slice pa pn pc) e:=
 ⟨h.ew,h.fr.weak h.dx,h.gr.weak h.dx,⟨h.lr,fun g hg=>⟨Bn h.lr g hg,by rw[h.lro g hg];omega,by rw[h.lro g hg];omega⟩⟩,h.Br⟩
theorem EC.Sv.lo(h:K.Sv D w e ρ la ln lc pa pn pc bl):(∀g,D g->g<w.heap.size)/\K.wb<w.heap.size/\¬D K.wb:=
 ⟨fun g hg=>(h.prot g hg).1,h.Nf.lo.2.1,fun hd=>by have:=(h.prot _ hd).2;have:=h.one.1;omega⟩
theorem EC.St.lo{lbs:List Nat}(h:K.St lbs D w e):(∀g,D g->g<w.heap.size)/\K.wb<w.heap.size/\¬D K.wb:=by
 obtain⟨_,_,_,_,_,_,_,_,h,_⟩:=h;exact h.lo
theorem z2ya {P:Prop} (h:P:=by
  exact⟨Nat.lt_of_lt_of_le this.1 hb.size,by rw[Bm this.1];exact this.2⟩):P:=h
theorem z14a {P:Prop} (h:P:=by
  by_cases hl:g<w.heap.size
  ·rw[Bm hl]at hg;exact h.one.2 g hg
  ·rw[Hj z4va]at hg;cases hg):P:=h
theorem EC.Sv.P2(h:K.Sv D w e ρ la ln lc pa pn pc bl)(hb:A3 (dX w.heap.size ρ) w w')(hx:K.Ex (dX w.heap.size ρ) w' la ln lc (.slice pa pn pc) e')(hl:e'.lps=e.lps) :
  K.Sv D w' e' (F2 ρ w.heap.size 4) la ln lc pa pn pc bl/\A3 D w w':=by
 have hbd:A3 D w w':=hb.weak h.dx;refine⟨⟨by rw[Abd hb.size];exact hx.ew,h.fr.keep hbd,h.gr.Bq hbd,hx.lr.1,fun g hg=>by rw[Bm (Bn h.lr g hg)];exact h.lro g hg,?_,fun g hg=>by rw[Bm (Bn h.pr g hg)];exact h.pro g hg,?_,fun g hg=>?_,⟨by rw[Bm h.lo.2.1];exact h.one.1,fun g hg=>?_⟩,hx.Br⟩,hbd⟩
 ·exact B4 h.pr (fun g hg hl=>hb.block g ⟨hl,by rw[h.pro g hg];omega,by rw[h.pro g hg];omega⟩)
 ·rw[hl];exact h.lps.keep bl.length (fun g hl h5 _=>⟨hb.block g ⟨hl,by omega,by omega⟩,Bm hl⟩) (Nat.le_refl _)
 ·have:=h.prot g hg;exact z2ya
 ·exact z14a
structure G9 (c : Nat) (ρ : Nat -> Nat) (w w' : World) : Prop where
 os:w'.os=w.os
 tape:w'.tape=w.tape
 output:w'.output=w.output
 size:w.heap.size<=w'.heap.size
 block:∀k,k<w.heap.size->ρ k≠1->ρ k≠c->w'.heap[k]?=w.heap[k]?
theorem Ho.N0{c:Nat}{fs gs ls ps:Value}{slots:Nat}{st:List Ac}{wb te:Nat}{sa:Option Addr}{sn sc:Nat}(h:Ho (dX w.heap.size ρ) wb te w fs gs ls ps slots st sa sn sc)(hone:ρ wb=1/\∀g,ρ g=1->g=wb)(hc:G9 c ρ w w')(hc4:c≠4)(hc1:c≠1){ls' ps':Value}{slots':Nat}
  (hcell:w'.heap[wb]?=some (.cells #[fs,gs,ls',ps',.int .i64 (slots':Nat),.slice sa sn sc] te (0,0))):Ho (dX w'.heap.size (F2 ρ w.heap.size c)) wb te w' fs gs ls' ps' slots' st sa sn sc:=by
 have hwb:=A5 h.cell;have h4:∀g,(Value.slice sa sn sc).ownBlock=some g->ρ g=4:=by
  intro g hg;have h1:=h.D5 g hg;have h2:=Bn h.own g hg;by_cases e1:ρ g=1
  ·exact absurd (hone.2 g e1) h1.2
  ·by_cases e4:ρ g=4
   ·exact e4
   ·exact absurd ⟨h2,e1,e4⟩ h1.1
 refine⟨hcell,B4 h.own (fun g hg hl=>hc.block g hl z5ha z5ha),fun hd=>hd.2.1 (by rw[Bm hwb];exact hone.1),fun g hg=>⟨fun hd=>hd.2.2 (by rw[Bm (Bn h.own g hg)];exact h4 g hg),(h.D5 g hg).2⟩,fun g hg=>hg.1⟩
theorem Fp.N0{row:Option Nat}{c:Nat}(h:Fp K.wb row w w')(hone:ρ K.wb=1)(hr:∀g,row=some g->ρ g=c):G9 c ρ w w':=
 ⟨h.os,h.tape,h.output,h.size,fun k hk h1 h2=>h.block k hk (fun e=>h1 (by rw[e];exact hone)) (fun e=>h2 (hr k e))⟩
theorem G9.set{c:Nat}(h:G9 c ρ w w'){b:Nat}(hb:ρ b=1)(o:Nat)(v:Value):G9 c ρ w (w'.setCell ⟨b,o,none⟩ v):=
 ⟨h.os,h.tape,h.output,by simp[World.setCell];exact h.size,fun k hk h1 h2=>(Below.heap_setCell _ _ _ _ (by show k≠b;exact fun e=>h1 (by rw[e];exact hb))).trans (h.block k hk h1 h2)⟩
theorem G9.Bq{c:Nat}(h:G9 c ρ w w')(hp:∀g,D g->g<w.heap.size/\ρ g=0)(hc:c≠0):A3 D w w':=
 ⟨h.os,h.tape,h.output,h.size,fun k hk=>h.block k (hp k hk).1 (by rw[(hp k hk).2];omega) (by rw[(hp k hk).2];omega)⟩
theorem P4{c n:Nat}(hone:ρ K.wb=1/\∀g,ρ g=1->g=K.wb)(hw:K.wb<n)(hc:c≠1):F2 ρ n c K.wb=1/\∀g,F2 ρ n c g=1->g=K.wb:=by
 refine⟨by rw[Bm hw];exact hone.1,fun g hg=>?_⟩;by_cases hl:g<n
 ·rw[Bm hl]at hg;exact hone.2 g hg
 ·rw[Hj z4va]at hg;exact absurd hg hc
theorem R3{c:Nat}(hp:∀g,D g->g<w.heap.size/\ρ g=0)(hs:w.heap.size<=w'.heap.size):∀g,D g->g<w'.heap.size/\F2 ρ w.heap.size c g=0:=
 fun g hg=>⟨Nat.lt_of_lt_of_le (hp g hg).1 hs,by rw[Bm (hp g hg).1];exact(hp g hg).2⟩
theorem z29a {P:Prop} (h:P:=by
  exact h.lps.keep bl.length (fun k hl h5 _=>⟨hc.block k hl z4va z4va,Bm hl⟩) (Nat.le_refl _)):P:=h
theorem z41a {P:Prop} (h:P:=by
  rw[Bm (Bn h.pr k hk)];exact h.pro k hk):P:=h
theorem z6ka {P:Prop} (h:P:=by rw[h.pro k hk];omega):P:=h
theorem z3xa {P:Prop} (h:P:=by
  exact B4 h.pr (fun k hk hl=>hc.block k hl z6ka z6ka)):P:=h
theorem z6oa {P:Prop} (h:P:=by simp only[Value.ownBlock,ne_eq,Option.some.injEq];exact hgw):P:=h
theorem EC.Sv.Aia(h:K.Sv D w e ρ la ln lc pa pn pc bl)(s:Nm){sa:Option Addr}{sn sc:Nat}(hv:Ho (dX w.heap.size ρ) K.wb K.te w (.slice K.fa K.fn K.fc) (.slice K.ga K.gn K.gc) (.slice la ln lc) (.slice pa pn pc) e.slots e.st sa sn sc){w1:World}(hn:e.loc.length+1<=100000)
  (hp:Nq 9 K.wb 2 w #[.slice K.fa K.fn K.fc,.slice K.ga K.gn K.gc,.slice la ln lc,.slice pa pn pc,.int .i64 (e.slots:Nat),.slice sa sn sc] K.te la ln lc (Df e.loc) (O4 s) w1) :
  K.St (bl.map Prod.fst) D (w1.setCell ⟨K.wb,4,none⟩ (.int .i64 ((max e.slots (e.loc.length+1):Nat):Nat))) (e.local' s)/\A3 D w (w1.setCell ⟨K.wb,4,none⟩ (.int .i64 ((max e.slots (e.loc.length+1):Nat):Nat))):=by
 obtain⟨g,cap,hs,hat,hf⟩:=hp;have hc0:G9 2 ρ w w1:=hf.N0 h.one.1 h.lro;have hc:=hc0.set h.one.1 4 (.int .i64 ((max e.slots (e.loc.length+1):Nat):Nat));have hwb:=A5 hv.cell;have hgw:g≠K.wb:=by
  have:=hs.ne;simp only[Value.ownBlock,ne_eq,Option.some.injEq]at this;exact this
 have hnm:Df (e.loc++[s])=Df e.loc++[O4 s]:=by simp[Df]
 have hln:(Df e.loc).length=e.loc.length:=by simp[Df]
 refine⟨⟨F2 ρ w.heap.size 2,some ⟨g,0,none⟩,(Df e.loc).length+1,cap,pa,pn,pc,bl,⟨⟨sa,sn,sc,hv.N0 h.one hc z4va z4va ?_⟩,h.fr.keep (hc.Bq h.prot z4va),h.gr.Bq (hc.Bq h.prot z4va),?_,?_,?_,?_,?_,R3 h.prot hc.size,P4 h.one hwb z4va,⟨?_,h.Br.2⟩⟩,rfl⟩,hc.Bq h.prot z4va⟩
 ·rw[heap_set hs.blk];simp[Em.local']
 ·show(w1.setCell _ _).ownsRow 0 _ 1 _ (e.loc++[s]).length (Df (e.loc++[s]));rw[hnm];have:=hs.own;rw[List.length_append,hln]at this;rw[List.length_append,hln];exact Uo this _ _ z6oa
 ·intro k hk;simp only[Value.ownBlock,Option.some.injEq]at hk;subst hk;rcases hat with h1|h1
  ·rw[Bm (Bn h.lr g h1)];exact h.lro g h1
  ·exact Hj h1
 ·exact z3xa
 ·intro k hk;exact z41a
 ·exact z29a
 ·show(e.loc++[s]).length<=_;simp;omega
theorem z42a {P:Prop} (h:P:=by
  rw[Bm (Bn h.lr k hk)];exact h.lro k hk):P:=h
theorem EC.Sv.j9(h:K.Sv D w e ρ la ln lc pa pn pc bl)(m:Nat){sa:Option Addr}{sn sc:Nat}(hv:Ho (dX w.heap.size ρ) K.wb K.te w (.slice K.fa K.fn K.fc) (.slice K.ga K.gn K.gc) (.slice la ln lc) (.slice pa pn pc) e.slots e.st sa sn sc)
  (hp:Ly 9 K.wb 2 w #[.slice K.fa K.fn K.fc,.slice K.ga K.gn K.gc,.slice la ln lc,.slice pa pn pc,.int .i64 (e.slots:Nat),.slice sa sn sc] K.te la ln lc (Df e.loc) m w'):K.St (bl.map Prod.fst) D w' (e.cut m)/\A3 D w w':=by
 obtain⟨hs,hf⟩:=hp;have hc:G9 2 ρ w w':=hf.N0 h.one.1 h.lro;have hwb:=A5 hv.cell;have hnm:Df (e.loc.take m)=(Df e.loc).take m:=by simp[Df,List.map_take]
 have ho:∀g,(Value.slice la m lc).ownBlock=some g->(Value.slice la ln lc).ownBlock=some g:=fun g e=>(Mi _ _ _ _).trans e;refine⟨⟨F2 ρ w.heap.size 2,la,m,lc,pa,pn,pc,bl,⟨⟨sa,sn,sc,hv.N0 h.one hc z4va z4va ?_⟩,h.fr.keep (hc.Bq h.prot z4va),h.gr.Bq (hc.Bq h.prot z4va),?_,?_,?_,?_,?_,R3 h.prot hc.size,P4 h.one hwb z4va,⟨?_,h.Br.2⟩⟩,rfl⟩,hc.Bq h.prot z4va⟩
 ·rw[hs.blk];simp[Em.cut]
 ·show w'.ownsRow 0 _ 1 _ (e.loc.take m).length (Df (e.loc.take m));rw[hnm];have:=hs.own;rw[List.length_take]at this ⊢;simpa [Df]using this
 ·intro k hk;have hk:=ho k hk;exact z42a
 ·exact z3xa
 ·intro k hk;exact z41a
 ·exact z29a
 ·show(e.loc.take m).length<=_;have:=h.Br.1;simp;omega
end
section
open Go.RowKit
open Go.Deep (BT)
variable {K:EC} {D:Nat->Prop} {w w':World} {e e':Em} {ρ:Nat->Nat} {la:Option Addr} {ln lc:Nat} {pa:Option Addr} {pn pc:Nat} {bl:List LB}
theorem EC.Sv.alloc(h:K.Sv D w e ρ la ln lc pa pn pc bl)(o:Obj)(c:Nat)(hc:5<=c):K.Sv D (w.alloc o) e (F2 ρ w.heap.size c) la ln lc pa pn pc bl:=by
 obtain⟨sa,sn,sc,hv⟩:=h.ew;have hk:∀g,g<w.heap.size->(w.alloc o).heap[g]?=w.heap[g]?:=fun g hg=>Below.heap_alloc _ _ _ hg;have hch:G9 c ρ w (w.alloc o):=⟨rfl,rfl,rfl,by simp,fun k hk1 _ _=>hk k hk1⟩;have hbd:=hch.Bq h.prot z4va;have hwb:=A5 hv.cell;exact⟨⟨sa,sn,sc,hv.N0 h.one hch z4va z4va ((hk _ hwb).trans hv.cell)⟩,h.fr.keep hbd,h.gr.Bq hbd,B4 h.lr (fun g _ hl=>hk g hl),fun g hg=>by rw[Bm (Bn h.lr g hg)];exact h.lro g hg,
  B4 h.pr (fun g _ hl=>hk g hl),fun g hg=>by rw[Bm (Bn h.pr g hg)];exact h.pro g hg,h.lps.keep bl.length (fun g hl _ _=>⟨hk g hl,Bm hl⟩) (Nat.le_refl _),R3 h.prot hch.size,P4 h.one hwb z4va,h.Br⟩
theorem z6ma {P:Prop} (h:P:=by rw[h.lro k hk];omega):P:=h
theorem z3ya {P:Prop} (h:P:=by
  exact B4 h.lr (fun k hk hl=>hc.block k hl z6ma z6ma)):P:=h
theorem EC.Sv.Y2(h:K.Sv D w e ρ la ln lc pa pn pc bl)(s lb:Nat){sa:Option Addr}{sn sc:Nat}(hv:Ho (dX w.heap.size ρ) K.wb K.te w (.slice K.fa K.fn K.fc) (.slice K.ga K.gn K.gc) (.slice la ln lc) (.slice pa pn pc) e.slots e.st sa sn sc)
  (hb:w.heap[lb]?=some (.cells #[.int .i64 (s:Nat),.slice none 0 0] 263 (0,0))) (hr:ρ lb=5+2*bl.length)
  (hp:Nq 260 K.wb 3 w #[.slice K.fa K.fn K.fc,.slice K.ga K.gn K.gc,.slice la ln lc,.slice pa pn pc,.int .i64 (e.slots:Nat),.slice sa sn sc] K.te pa pn pc (bl.map fun b=>Cc b.1).reverse (Cc lb) w') :
  K.St (lb::bl.map Prod.fst) D w' ⟨e.loc,e.slots,e.st,(s,[])::e.lps⟩/\A3 D w w':=by
 obtain⟨g,cap,hs,hat,hf⟩:=hp;have hc:G9 3 ρ w w':=hf.N0 h.one.1 h.pro;have hwb:=A5 hv.cell;have hbd:=hc.Bq h.prot z4va;refine⟨⟨F2 ρ w.heap.size 3,la,ln,lc,some ⟨g,0,none⟩,(bl.map fun b=>Cc b.1).reverse.length+1,cap,(lb,none,0,0)::bl,⟨⟨sa,sn,sc,hv.N0 h.one hc z4va z4va ?_⟩,h.fr.keep hbd,h.gr.Bq hbd,?_,?_,?_,?_,?_,R3 h.prot hc.size,P4 h.one hwb z4va,h.Br⟩,rfl⟩,hbd⟩
 ·rw[hs.blk];simp
 ·exact z3ya
 ·intro k hk;exact z42a
 ·have:=hs.own;rw[List.map_cons,List.reverse_cons];exact this
 ·intro k hk;simp only[Value.ownBlock,Option.some.injEq]at hk;subst hk;rcases hat with h1|h1
  ·rw[Bm (Bn h.pr g h1)];exact h.pro g h1
  ·exact Hj h1
 ·refine⟨(hc.block lb (A5 hb) (by rw[hr];omega) (by rw[hr];omega)).trans hb,World.ownsRow_nil _ _ _ _,by rw[Bm (A5 hb)];exact hr,fun k hk=>by simp[N5,Value.ownBlock]at hk,?_⟩;exact z29a
theorem EC.Sv.Ahn{b:LB}{br:List LB}(h:K.Sv D w e ρ la ln lc pa pn pc (b::br)){sa:Option Addr}{sn sc:Nat}(hv:Ho (dX w.heap.size ρ) K.wb K.te w (.slice K.fa K.fn K.fc) (.slice K.ga K.gn K.gc) (.slice la ln lc) (.slice pa pn pc) e.slots e.st sa sn sc)
  (hp:Ly 260 K.wb 3 w #[.slice K.fa K.fn K.fc,.slice K.ga K.gn K.gc,.slice la ln lc,.slice pa pn pc,.int .i64 (e.slots:Nat),.slice sa sn sc] K.te pa pn pc ((b::br).map fun b=>Cc b.1).reverse br.length w') :
  K.St (br.map Prod.fst) D w' e.close/\A3 D w w':=by
 obtain⟨hs,hf⟩:=hp;have hc:G9 3 ρ w w':=hf.N0 h.one.1 h.pro;have hwb:=A5 hv.cell;have hbd:=hc.Bq h.prot z4va;have ho:∀g,(Value.slice pa br.length pc).ownBlock=some g->(Value.slice pa pn pc).ownBlock=some g:=fun g e=>(Mi _ _ _ _).trans e;have htk:(((b::br).map fun b=>Cc b.1).reverse).take br.length=(br.map fun b=>Cc b.1).reverse:=by
  rw[List.map_cons,List.reverse_cons,List.take_append_of_le_length z50a];rw[List.take_of_length_le z50a]
 have hlp:=h.lps;obtain⟨l,lr,hl⟩:∃l lr,e.lps=l::lr:=by
  cases hq:e.lps with
  | nil=>rw[hq]at hlp;exact hlp.elim
  | cons l lr=>exact⟨l,lr,rfl⟩
 rw[hl]at hlp;refine⟨⟨F2 ρ w.heap.size 3,la,ln,lc,pa,br.length,pc,br,⟨⟨sa,sn,sc,hv.N0 h.one hc z4va z4va ?_⟩,h.fr.keep hbd,h.gr.Bq hbd,?_,?_,?_,?_,?_,R3 h.prot hc.size,P4 h.one hwb z4va,h.Br⟩,rfl⟩,hbd⟩
 ·rw[hs.blk];simp[Em.close]
 ·exact z3ya
 ·intro k hk;exact z42a
 ·have:=hs.own;rw[htk]at this;exact this
 ·intro k hk;have hk:=ho k hk;exact z41a
 ·show Od _ _ _ e.lps.tail;rw[hl];exact hlp.2.2.2.2.keep br.length (fun k hl h5 _=>⟨hc.block k hl z4va z4va,Bm hl⟩) (Nat.le_refl _)
theorem z5ia {P:Prop} (h:P:=by rw[h.one.1];omega):P:=h
theorem EC.Sv.A6v{b:LB}{br:List LB}(h:K.Sv D w e ρ la ln lc pa pn pc (b::br)){s:Nat}{bs:List Nat}{r:List (Nat×List Nat)}(he:e.lps=(s,bs)::r)(j:Nat){w2:World}{g cap:Nat}
  (hown:w2.ownsRow 0 3 1 (.slice (some ⟨g,0,none⟩) ((Da bs).length+1) cap) ((Da bs).length+1) (Da bs++[Pj j])) (hgr:w.grownBy w2 (N5 b).ownBlock) (hat:(N5 b).ownBlock=some g\/w.heap.size<=g) :
  K.St (b.1::br.map Prod.fst) D (w2.setCell ⟨b.1,1,none⟩ (.slice (some ⟨g,0,none⟩) ((Da bs).length+1) cap)) ⟨e.loc,e.slots,e.st,(s,bs++[j])::r⟩/\A3 D w (w2.setCell ⟨b.1,1,none⟩ (.slice (some ⟨g,0,none⟩) ((Da bs).length+1) cap)):=by
 obtain⟨sa,sn,sc,hv⟩:=h.ew;have hwb:=A5 hv.cell;have hlp:=h.lps;rw[he]at hlp;obtain⟨h1,h2,h3,h4,h5⟩:=hlp;have hblk:∀k,k<w.heap.size->ρ k≠5+2*br.length->ρ k≠6+2*br.length->(w2.setCell ⟨b.1,1,none⟩ (.slice (some ⟨g,0,none⟩) ((Da bs).length+1) cap)).heap[k]?=w.heap[k]?:=by
  intro k hk e1 e2;exact(Below.heap_setCell _ _ _ _ (by show k≠b.1;exact fun e=>e1 (by rw[e];exact h3))).trans (hgr.block k hk (fun e=>e2 (h4 k e.symm)))
 have hsz:w.heap.size<=(w2.setCell ⟨b.1,1,none⟩ (.slice (some ⟨g,0,none⟩) ((Da bs).length+1) cap)).heap.size:=by simp[World.setCell];exact hgr.size
 have hwbk:=hblk K.wb hwb z5ia z5ia;have hbd:A3 D w (w2.setCell ⟨b.1,1,none⟩ (.slice (some ⟨g,0,none⟩) ((Da bs).length+1) cap)):=⟨hgr.os,hgr.tape,hgr.output,hsz,fun k hk=>hblk k (h.prot k hk).1 (by rw[(h.prot k hk).2];omega) (by rw[(h.prot k hk).2];omega)⟩;have A8:w2.heap[b.1]?=w.heap[b.1]?:=hgr.block b.1 (A5 h1) (fun e=>by have:=h4 b.1 e.symm;omega);have hgb:g≠b.1:=by
  rcases hat with e1|e1
  ·intro e2;have:=h4 g e1;rw[e2]at this;omega
  ·have:=A5 h1;omega
 have hew:Ho (dX (w2.setCell ⟨b.1,1,none⟩ (.slice (some ⟨g,0,none⟩) ((Da bs).length+1) cap)).heap.size (F2 ρ w.heap.size (6+2*br.length))) K.wb K.te (w2.setCell ⟨b.1,1,none⟩ (.slice (some ⟨g,0,none⟩) ((Da bs).length+1) cap)) (.slice K.fa K.fn K.fc) (.slice K.ga K.gn K.gc) (.slice la ln lc) (.slice pa pn pc) e.slots e.st sa sn sc:=by
  have q4:∀k,(Value.slice sa sn sc).ownBlock=some k->ρ k=4:=by
   intro k hk;have q1:=hv.D5 k hk;have q2:=Bn hv.own k hk;by_cases e1:ρ k=1
   ·exact absurd (h.one.2 k e1) q1.2
   ·by_cases e4:ρ k=4
    ·exact e4
    ·exact absurd ⟨q2,e1,e4⟩ q1.1
  exact⟨hwbk.trans hv.cell,B4 hv.own (fun k hk hl=>hblk k hl (by rw[q4 k hk];omega) (by rw[q4 k hk];omega)),fun hd=>hd.2.1 (by rw[Bm hwb];exact h.one.1),fun k hk=>⟨fun hd=>hd.2.2 (by rw[Bm (Bn hv.own k hk)];exact q4 k hk),(hv.D5 k hk).2⟩,fun k hk=>hk.1⟩
 refine⟨⟨F2 ρ w.heap.size (6+2*br.length),la,ln,lc,pa,pn,pc,(b.1,some ⟨g,0,none⟩,(Da bs).length+1,cap)::br,⟨⟨sa,sn,sc,hew⟩,h.fr.keep hbd,h.gr.Bq hbd,?_,?_,?_,?_,?_,R3 h.prot hsz,P4 h.one hwb z4va,h.Br⟩,rfl⟩,hbd⟩
 ·exact B4 h.lr (fun k hk hl=>hblk k hl z6ma z6ma)
 ·intro k hk;exact z42a
 ·have:=B4 h.pr (fun k hk hl=>hblk k hl z6ka z6ka);simpa using this
 ·intro k hk;exact z41a
 ·refine⟨?_,?_,by rw[Bm (A5 h1)];exact h3,fun k hk=>?_,?_⟩
  ·rw[heap_set (A8.trans h1)];simp[N5]
  ·have e1:Da (bs++[j])=Da bs++[Pj j]:=by simp[Da]
   rw[e1,List.length_append];exact Uo hown _ _ (by simp only[Value.ownBlock,ne_eq,Option.some.injEq];exact hgb)
  ·simp only[N5,Value.ownBlock,Option.some.injEq]at hk;subst hk;rcases hat with e1|e1
   ·rw[Bm (Bn h2 g e1)];exact h4 g e1
   ·exact Hj e1
  ·exact h5.keep br.length (fun k hl k5 k6=>⟨hblk k hl z4va z4va,Bm hl⟩) (Nat.le_refl _)
end
section
set_option maxRecDepth 100000
open Go.RowKit
variable {b o:Nat}{w:World}{cs:Array Value}{t:TypeId}{va:Option Addr}{vn vc:Nat}{xs:List Value}
theorem Aee:(Tryz.prog.info? 260).map (fun i=>(i.zero,i.size,i.bytes))=some (some (.pointer none),1,8):=by kernel_rfl
theorem A43(h:G2 260 b o w cs t va vn vc xs):Calls Tryz.prog 147 #[.pointer (some ⟨b,o,none⟩)] w fun e w'=>e=.returned (.int .i64 (xs.length:Nat))/\w'=w:=by
 have c:=Dp h.blk h.cell;have lb:=A5 h.blk;have hv:vn=xs.length:=(C9 h.own).1;subst hv;clear h;go_enter Tryz.func147,Tryz.ntmps147;exact z03a
theorem Ak6(h:G2 260 b o w cs t va vn vc xs)(i:Nat)(hi:i<xs.length):Calls Tryz.prog 146 #[.pointer (some ⟨b,o,none⟩),.int .i64 (i:Nat)] w fun e w'=>e=.returned xs[i]/\w'=w:=by
 have c:=Dp h.blk h.cell;have lb:=A5 h.blk;have hv:vn=xs.length:=(C9 h.own).1;subst hv;obtain⟨g,rfl,_,hcap,lg,fz,hx,cg⟩:=P5 h.own i hi;clear h;generalize xs[i]=x at *;go_enter Tryz.func146,Tryz.ntmps146;exact z03a
theorem A49(h:G2 260 b o w cs t va vn vc xs)(hn:xs.length<=1000000)(n:Nat)(hi:n<xs.length)(h0:xs.length=n+1):Calls Tryz.prog 96 #[.pointer (some ⟨b,o,none⟩)] w fun e w'=>e=.returned (xs[n]'hi)/\w'=w:=by
 have HL:=A0 (A43 h);have HA:=A0 (Ak6 h n hi);rw[h0]at HL;have Di:n<=1000000:=by omega
 generalize hx:xs[n]'hi=x at HA ⊢;clear h h0 hx;go_enter Tryz.func96,Tryz.ntmps96;exact z1ra
theorem Amb(h:G2 260 b o w cs t va vn vc xs)(hn:xs.length<=900000)(u:Option Addr)(ho:o<cs.size):Calls Tryz.prog 144 #[.pointer (some ⟨b,o,none⟩),.pointer u] w fun e w'=>e=.returned (.tuple #[])/\Nq 260 b o w cs t va vn vc xs (.pointer u) w':=by
 have c:=Dp h.blk h.cell;have lb:=A5 h.blk;have fz:=Bd h.blk;have hv:vn=xs.length:=(C9 h.own).1;subst hv;have hown:=h.own;have HH:=A0 h;have HNe:=A0 h.ne;clear h;go_enter Tryz.func144,Tryz.ntmps144;go_wp2_with (at_builtin;refine Kj w #[.pointer u] 260 rfl (.tmp 8) (.tmp 10) 133 rfl 0 1 8 (.pointer none) Tryz.underlying133 Aee rfl z4va (.slice va xs.length vc) xs.length xs rfl rfl hown rfl (fun v hv=>by simp at hv;rw[hv];rfl) z4va z4va (Nat.zero_le _) ?_;intro g cap w1 F0 hgrow hat hg;have A1:=(hgrow.block b lb (fun e=>HNe.o e.symm)).trans HH.o.blk;have c1:=Dp A1 HH.o.cell;have f1:=Bd A1;have Bj:=A5 A1;have A4:=A0 A1;have HOwn1:=A0 F0;have HGrow:=A0 hgrow;have HAt:=A0 hat;clear A1 F0 hgrow hat)
 exact z09a
theorem Ake(h:G2 260 b o w cs t va vn vc xs)(m:Nat)(hm:m<=xs.length)(ho:o<cs.size):Calls Tryz.prog 194 #[.pointer (some ⟨b,o,none⟩),.int .i64 (m:Nat)] w fun e w'=>e=.returned (.tuple #[])/\Ly 260 b o w cs t va vn vc xs m w':=by
 have c:=Dp h.blk h.cell;have lb:=A5 h.blk;have fz:=Bd h.blk;have hv:vn=xs.length:=(C9 h.own).1;subst hv;have HH:=A0 h;have HNe:=A0 h.ne;by_cases he:m=xs.length
 ·subst he;clear h;go_enter Tryz.func194,Tryz.ntmps194;go_wp2;refine bodyPost_ret (v:=.tuple #[]) (by simp[results,Tryz.results194,go_sem]) rfl ⟨rfl,?_,Fp.refl _ _ _⟩;exact z25a
 ·obtain⟨g,rfl,Gb,hcap,lg,fg,hx,cg⟩:=P5 h.own m z4va;obtain⟨hl,⟨h2,h3⟩|⟨g',cap,cur,hv,_,hg,hcap',hmx,hsz,ht⟩⟩:=h.own
  ·cases h2
  ·injection hv with e1 e2 e3;injection e1 with e1;injection e1 with e1;subst e1 e3;have hgb:g≠b:=fun e=>h.ne z5ra;have hcs:∀j,j<xs.length-m->(w.cell? ⟨g,m+j,none⟩).isSome=true:=by
    exact z1va
   have hcl:∀ty,(Builtin.clear_ #[133] ty #[.slice (some ⟨g,m,none⟩) (xs.length-m) (vc-m)]).run Tryz.prog w=.ok (.tuple #[]) (w.setCells g m (List.replicate (xs.length-m) (.pointer none))):=
    fun ty=>Lib.run_clear_slice w 133 260 ty (.pointer none) Tryz.underlying133 Tryz.zeroValue260 rfl rfl g m (xs.length-m) (vc-m) z4va hcs (fun j hj=>fg _)
   obtain⟨cur',k1,k2,k3⟩:=Pr g 260 (0,0) (List.replicate (xs.length-m) (.pointer none)) m cur w hg;obtain⟨f1,f2,f3,f4,f5⟩:=Kv g (List.replicate (xs.length-m) (.pointer none)) m w;have A1:=(f5 b (fun e=>hgb e.symm)).trans h.blk;have I3:=A0 k1;have HK3:=A0 (k3 m (Nat.le_refl _));have HF:=A0 (And.intro f1 (And.intro f2 (And.intro f3 (And.intro f4 f5))));have HT:=A0 ht;have HSz:=A0 (k2.trans hsz);clear h hcs hg ht k1 k2 k3 f1 f2 f3 f5 hl hsz;have c1:=Dp A1 HH.o.cell;have g1:=Bd A1;have Bj:=A5 A1;have A4:=A0 A1;clear A1 f4;generalize w.setCells g m (List.replicate (xs.length-m) (.pointer none))=w1 at *;go_enter Tryz.func194,Tryz.ntmps194;exact z06a
theorem Am7(h:G2 260 b o w cs t va vn vc xs)(hn:xs.length<=1000000)(n:Nat)(hi:n<xs.length)(h0:xs.length=n+1)(ho:o<cs.size):Calls Tryz.prog 145 #[.pointer (some ⟨b,o,none⟩)] w fun e w'=>e=.returned (xs[n]'hi)/\Ly 260 b o w cs t va vn vc xs n w':=by
 have HT:=A0 (A49 h hn n hi h0);have HL:=A0 (A43 h);have HC:=A0 (Ake h n z4va ho);rw[h0]at HL;have Di:n<=1000000:=by omega
 generalize hx:xs[n]'hi=x at HT ⊢;clear h h0 hx;go_enter Tryz.func145,Tryz.ntmps145;exact z1aa
end
section
open Go.RowKit
open Go.Deep (BT)
theorem W8{w:World}{g:Nat}{a0 a1:Value}{t:TypeId}(h:w.heap[g]?=some (.cells #[a0,a1] t (0,0))) :
  w.cell? ⟨g,0,none⟩=some a0/\w.cell? ⟨g,1,none⟩=some a1/\(∀o,w.frozen? ⟨g,o,none⟩=false)/\g<w.heap.size:=
 ⟨A2 h 0 _ rfl,A2 h 1 _ rfl,Bd h,A5 h⟩
theorem Jl.pos{line m:Nat}{ts:List Tk}(h:Jl line m ts):0<ts.length:=by
 cases ts with
 | nil=>exact absurd h id
 | cons x r=>simp
theorem Ah2{w:World}{base:Nat}{e:TypeId}{size:Nat}{v:Value}{n:Nat}{xs:List Value}(h:w.ownsRow base e size v n xs)(hn:0<n) :
  ∃g cap cur,v=.slice (some ⟨g,0,none⟩) n cap/\base<=g/\w.heap[g]?=some (.cells cur e (0,0))/\n<=cap/\cur.toList.take (n*size)=xs:=by
 obtain⟨hl,⟨h2,h3⟩|⟨g,cap,cur,hv,hb,hg,hcap,_,_,ht⟩⟩:=h
 ·omega
 ·exact⟨g,cap,cur,hv,hb,hg,hcap,ht⟩
end
end Go.Proofs.YtjdlndhfaaolaaaGreatDoor
