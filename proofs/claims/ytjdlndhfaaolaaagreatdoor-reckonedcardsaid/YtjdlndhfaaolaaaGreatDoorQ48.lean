import Derived.Test.YtjdlndhfaaolaaaGreatDoorQ47
set_option maxHeartbeats 20000000
namespace Go.Proofs.YtjdlndhfaaolaaaGreatDoor
section
open Go.RowKit
open Go.Deep (BT)
variable {C:MC} {D X:Nat->Prop} {w w':World} {m:MS} {β:Nat->Nat}
variable {α:Type} {T:TypeId} {sz:Nat} {f:α->List Value}
theorem A3v(hf:∀x,(f x).length=sz):∀(xs:List α) (i:Nat) (h:i<xs.length),C6 f xs=(C6 f xs).take (i*sz)++f xs[i]++(C6 f xs).drop ((i+1)*sz):=by
 intro xs i h;have:=Ro hf xs[i] xs i h;rw[List.set_getElem_self]at this;exact this
theorem Akn(hf:∀x,(f x).length=sz)(xs:List α)(i o:Nat)(h:i<xs.length)(ho:o<sz)(y:α)(v:Value)(hy:f y=(f xs[i]).set o v):C6 f (xs.set i y)=(C6 f xs).set (i*sz+o) v:=by
 have hl:=L7 hf xs;have hadd:(i+1)*sz=i*sz+sz:=by rw[Nat.add_mul,Nat.one_mul]
 have hin:(i+1)*sz<=xs.length*sz:=Nat.mul_le_mul_right _ h;rw[Ro hf y xs i h,hy];conv=>rhs;rw[A3v hf xs i h]
 have ht:((C6 f xs).take (i*sz)).length=i*sz:=by simp;omega
 rw[List.append_assoc,List.append_assoc,List.set_append_right _ _ (by omega),ht,show i*sz+o-i*sz=o by omega,List.set_append_left _ _ (by rw[hf];exact ho)]
theorem Ae8{g c:Nat}{xs:List α}(ho:w.ownsRow 0 T sz (.slice (some ⟨g,0,none⟩) xs.length c) xs.length (C6 f xs))(hf:∀x,(f x).length=sz)(i o:Nat)(hi:i<xs.length)(hos:o<sz)(y:α)(v:Value)(hy:f y=(f xs[i]).set o v):(w.setCell ⟨g,i*sz+o,none⟩ v).ownsRow 0 T sz (.slice (some ⟨g,0,none⟩) (xs.set i y).length c) (xs.set i y).length (C6 f (xs.set i y)):=by
 obtain⟨hl,⟨h2,h3⟩|⟨g',cap,cur,hv,_,hgc,hcap,hmx,hsz,ht⟩⟩:=ho
 ·cases h2
 injection hv with e1 e2 e3;injection e1 with e1;injection e1 with e1;subst e1 e3;refine⟨by rw[L7 hf],.inr ⟨g,c,cur.setIfInBounds (i*sz+o) v,rfl,Nat.zero_le _,heap_set hgc v,by rw[List.length_set];exact hcap,hmx,by simp;exact hsz,?_⟩⟩;rw[List.length_set,Akn hf xs i o hi hos y v hy,←ht,Array.toList_setIfInBounds,List.take_set]
theorem MC.Ms.Uk(h:C.Ms D X β w m){n:Nat}(hn:n<m.lots.length):∃lb lc p,w.cell? ⟨C.mb,2,none⟩=some (.slice (some ⟨lb,0,none⟩) m.lots.length lc)/\m.lots.length<=lc/\lb<w.heap.size/\(lb≠C.mb/\∀g,dx D X g->lb≠g)/\(∀o,w.frozen? ⟨lb,o,none⟩=false)/\w.cell? ⟨lb,n*4,none⟩=some (.int .i64 (m.lots[n].calls:Nat))/\w.cell? ⟨lb,n*4+1,none⟩=some (.pointer p)/\w.cell? ⟨lb,n*4+2,none⟩=some (.int .i64 (m.lots[n].fast:Nat))/\w.cell? ⟨lb,n*4+3,none⟩=some (.int .i64 (m.lots[n].drops:Nat))/\Lh D w p m.lots[n].form/\
  ∀(o:Nat) (v:Value) (p':Option Addr) (l':Gs),o<4->I7 (p',l')=(I7 (p,m.lots[n])).set o v->Lh D w p' l'.form->C.Ms D X β (w.setCell ⟨lb,n*4+o,none⟩ v) { m with lots:=m.lots.set n l' }/\A3 (dx D X) w (w.setCell ⟨lb,n*4+o,none⟩ v)/\(w.setCell ⟨lb,n*4+o,none⟩ v).cell? ⟨lb,n*4+1,none⟩=some (.pointer p'):=by
 obtain⟨ρ,s,x,fv,ab,lp,h⟩:=h;have hlm:=h.lotm;have hll:m.lots.length=lp.length:=by rw[hlm];simp
 have hnl:n<lp.length:=by omega
 obtain⟨lb,k1,k2,hcap,lbl,hcell⟩:=Gj h.lots (by omega);have hown:=h.lots;have hlo:=h.loto lb (by rw[k1];rfl);have hne:lb≠C.mb:=fun e=>by rw[e,h.one.1]at hlo;cases hlo
 have hq:m.lots[n]=lp[n].2:=by simp[hlm]
 have c2:=A2 h.cell 2 (.slice s.la s.ln s.lc) rfl;rw[k1,k2,←hll]at c2;have hat:∀j v,j<4->(I7 lp[n])[j]?=some v->w.cell? ⟨lb,n*4+j,none⟩=some v:=fun j v hj hv=>hcell (n*4+j) v ((Cv (sz:=4) (fun _=>rfl) lp n j hnl hj).trans hv);rw[hq];have hfr:∀o,w.frozen? ⟨lb,o,none⟩=false:=by
  rw[k1,k2]at hown;exact Zu7 hown
 refine⟨lb,s.lc,lp[n].1,c2,by rw[hll];exact hcap,lbl,⟨hne,fun g hg e=>by have:=(h.prot g hg).2;rw[←e,hlo]at this;cases this⟩,hfr,hat 0 _ (by omega) rfl,hat 1 _ (by omega) rfl,hat 2 _ (by omega) rfl,hat 3 _ (by omega) rfl,h.forms _ (List.getElem_mem hnl),?_⟩;intro o v p' l' ho hlc hform;have hc:Gg 2 ρ w (w.setCell ⟨lb,n*4+o,none⟩ v):=⟨rfl,rfl,rfl,by simp[World.setCell],fun k hk h1 h2=>Below.heap_setCell _ _ _ _ (by show k≠lb;exact fun e=>h2 (by rw[e];exact hlo))⟩;rw[k1,k2]at hown;have hrow:=Ae8 hown (fun _=>rfl) n o hnl ho (p',l') v hlc;have hfin:=h.A4o hc (la:=some ⟨lb,0,none⟩) (ln:=(lp.set n (p',l')).length) (lc:=s.lc) (lp':=lp.set n (p',l')) (x':=x) (now:=m.now) (fuel:=m.fuel) (cells:=m.cells) (code:=m.code) (line:=m.line)
  (by
   rw[Below.heap_setCell _ _ _ _ (by show C.mb≠lb;exact fun e=>hne e.symm),h.cell,List.length_set];simp only[MC.cells];rw[←k1,←k2])
  hrow (fun g hg=>.inl (by rw[k1];exact(M9 _ _ _ _).trans hg)) h.now
  (fun q hq=>by
   rcases List.mem_or_eq_of_mem_set hq with e|e
   ·exact h.forms q e
   ·rw[e];exact hform)
 have hmap:(lp.set n (p',l')).map Prod.snd=m.lots.set n l':=by rw[hlm,List.map_set]
 rw[hmap]at hfin;refine⟨⟨_,_,_,_,_,_,hfin⟩,h.F0 hc (by omega),?_⟩;have hnl':n<(lp.set n (p',l')).length:=by rw[List.length_set];exact hnl
 obtain⟨Ek,k3,_,_,_,hcell2⟩:=Gj hrow (by omega);injection k3 with k3;injection k3 with k3;subst k3;refine hcell2 (n*4+1) _ ((Cv (f:=I7) (sz:=4) (fun _=>rfl) (lp.set n (p',l')) n 1 hnl' (by omega)).trans ?_);rw[List.getElem_set_self];rfl
end
section
open Go.RowKit
open Go.Deep (BT)
variable {C:MC} {D X:Nat->Prop} {w w':World} {m:MS} {β:Nat->Nat}
structure O6 (C : MC) (D X : Nat -> Prop) (β : Nat -> Nat) (w : World) (m : MS) (lb n : Nat) (p : Option Addr) (l : Gs) : Prop where
 st:C.Ms D X β w m
 cell:∃c,w.cell? ⟨C.mb,2,none⟩=some (.slice (some ⟨lb,0,none⟩) m.lots.length c)/\m.lots.length<=c
 lt:n<m.lots.length
 lot:m.lots[n]?=some l
 lbl:lb<w.heap.size
 ne:lb≠C.mb/\∀g,dx D X g->lb≠g
 fz:∀o,w.frozen? ⟨lb,o,none⟩=false
 c0:w.cell? ⟨lb,n*4,none⟩=some (.int .i64 (l.calls:Nat))
 c1:w.cell? ⟨lb,n*4+1,none⟩=some (.pointer p)
 c2:w.cell? ⟨lb,n*4+2,none⟩=some (.int .i64 (l.fast:Nat))
 c3:w.cell? ⟨lb,n*4+3,none⟩=some (.int .i64 (l.drops:Nat))
 form:Lh D w p l.form
theorem A26(h:C.Ms D X β w m){n:Nat}{l:Gs}(hl:m.lots[n]?=some l):∃lb p,O6 C D X β w m lb n p l:=by
 have hn:n<m.lots.length:=(List.getElem?_eq_some_iff.1 hl).1;have e:m.lots[n]=l:=(List.getElem?_eq_some_iff.1 hl).2;obtain⟨lb,lc,p,q1,q2,q3,q4,q5,q6,q7,q8,q9,q10,_⟩:=h.Uk hn;rw[e]at q6 q8 q9 q10;exact⟨lb,p,h,⟨lc,q1,q2⟩,hn,hl,q3,q4,q5,q6,q7,q8,q9,q10⟩
theorem O6.same{lb n:Nat}{p:Option Addr}{l:Gs}(h:O6 C D X β w m lb n p l){D' X':Nat->Prop}{m':MS}(hs:C.Ms D' X' β w' m')(hl:m'.lots=m.lots)(hk:∀g,g<w.heap.size->w'.heap[g]?=w.heap[g]?):O6 C D' X' β w' m' lb n p l:=by
 obtain⟨c,hc,hcc⟩:=h.cell;have lm:=h.st.B7;have hn:n<m'.lots.length:=by rw[hl];exact h.lt
 have hlot:m'.lots[n]?=some l:=by rw[hl];exact h.lot
 have e:m'.lots[n]=l:=(List.getElem?_eq_some_iff.1 hlot).2;obtain⟨lb',lc,p',q1,q2,q3,q4,q5,q6,q7,q8,q9,q10,_⟩:=hs.Uk hn;have hc':=(World.cell?_of_block (hk _ lm)).trans hc;rw[q1]at hc';simp only[Option.some.injEq,Value.slice.injEq,Addr.mk.injEq,and_true]at hc';obtain⟨e1,e2,e3⟩:=hc';subst e1 e3;have hp:=(World.cell?_of_block (hk _ h.lbl)).trans h.c1;rw[q7]at hp;simp only[Option.some.injEq,Value.pointer.injEq]at hp;subst hp;rw[e]at q6 q8 q9 q10;exact⟨hs,⟨lc,q1,q2⟩,hn,hlot,q3,q4,q5,q6,q7,q8,q9,q10⟩
theorem O6.set{lb n:Nat}{p:Option Addr}{l:Gs}(h:O6 C D X β w m lb n p l)(o:Nat)(v:Value)(p':Option Addr)(l':Gs)(ho:o<4)(hv:I7 (p',l')=(I7 (p,l)).set o v)(hf:Lh D w p' l'.form):O6 C D X β (w.setCell ⟨lb,n*4+o,none⟩ v) { m with lots:=m.lots.set n l' } lb n p' l'/\A3 (dx D X) w (w.setCell ⟨lb,n*4+o,none⟩ v):=by
 obtain⟨c,hc,hcc⟩:=h.cell;have hn:=h.lt;have e:m.lots[n]=l:=by have:=h.lot;rw[List.getElem?_eq_getElem h.lt]at this;exact Option.some.inj this
 obtain⟨lb',lc,q0,q1,q2,q3,q4,q5,q6,q7,q8,q9,q10,hset⟩:=h.st.Uk h.lt;rw[hc]at q1;simp only[Option.some.injEq,Value.slice.injEq,Addr.mk.injEq,and_true,true_and]at q1;obtain⟨e1,e2,e3⟩:=q1;subst e1;have hp:=h.c1;rw[q7]at hp;simp only[Option.some.injEq,Value.pointer.injEq]at hp;subst hp;obtain⟨s1,s2,s3⟩:=hset o v p' l' ho (by rw[e];exact hv) hf;refine⟨?_,s2⟩;have hn':n<(m.lots.set n l').length:=by rw[List.length_set];exact h.lt
 have hl':({ m with lots:=m.lots.set n l' }:MS).lots[n]?=some l':=by show(m.lots.set n l')[n]?=some l';rw[List.getElem?_set_self h.lt]
 obtain⟨Ek,p2,hL⟩:=A26 s1 hl';obtain⟨c2,hc2,hcc2⟩:=hL.cell;have hcm:(w.setCell ⟨lb,n*4+o,none⟩ v).cell? ⟨C.mb,2,none⟩=w.cell? ⟨C.mb,2,none⟩:=World.cell?_of_block (Below.heap_setCell _ _ _ _ (by show C.mb≠lb;exact fun q=>h.ne.1 q.symm));rw[hcm,hc]at hc2;simp only[Option.some.injEq,Value.slice.injEq,Addr.mk.injEq,and_true]at hc2;obtain⟨e4,_,_⟩:=hc2;subst e4;have hp2:p2=p':=by
  have h1:=hL.c1;rw[s3]at h1;simp only[Option.some.injEq,Value.pointer.injEq]at h1;exact h1.symm
 rw[hp2]at hL;exact hL
end
section
set_option maxRecDepth 100000
open Go.RowKit
open Go.Deep (BT)
variable {C:MC} {D X:Nat->Prop} {w w':World} {m:MS} {β:Nat->Nat}
def MBP(C:MC)(D X:Nat->Prop)(β:Nat->Nat)(w:World)(m:MS)(bets:List Dg)(n:Nat)(f:Fn)(e:Ending)(w':World):Prop:=
 ∃D' l' bb oo slots steps sa sn sc,(∀g,D g->D' g)/\C.Ms D' X β w' { m with lots:=m.lots.set n l' }/\A3 (dx D X) w w'/\Km D' w' bb oo slots steps sa sn sc/\slots<=1000/\e=.returned (.pointer (some ⟨bb,oo,none⟩))/\MS.body C.P bets n f m=({ m with lots:=m.lots.set n l' }:MS).begin slots steps f.params
theorem MC.Ms.Np(h:C.Ms D X β w m):w.cell? ⟨C.mb,0,none⟩=some (.pointer (some ⟨C.pb,0,none⟩))/\Jx D w C.pb C.P/\(∀g,dx D X g->g<w.heap.size/\C.mb≠g):=by
 obtain⟨ρ,s,x,fv,ab,lp,h⟩:=h;exact⟨A2 h.cell 0 _ rfl,h.prog,fun g hg=>⟨(h.prot g hg).1,fun e=>h.lo.2 (by rw[e];exact hg)⟩⟩
theorem A71{n c:Nat}:∀{l:List Dg} {b:Dg},taken n c l=some b->b.fn=(n:Nat)/\b.after=(c:Nat):=by
 intro l;induction l with
 | nil=>intro b h;simp[taken]at h
 | cons x r ih=>
  intro b h;rw[taken]at h;cases hq:taken n c r with
  | some y=>rw[hq]at h;injection h with h;rw[←h];exact ih hq
  | none=>
   rw[hq]at h;dsimp only at h;split at h
   ·rename_i hc;injection h with h;rw[←h];exact hc
   ·cases h
theorem o6(m:MS)(x:List Gs):∀(ks:List Kn) (i:Int),J0 { m with lots:=x } i ks=J0 m i ks:=by
 intro ks;induction ks with
 | nil=>intro i;rfl
 | cons k r ih=>intro i;rw[J0,J0,ih];rfl
theorem Km.set{bb oo slots:Nat}{st:List Ad}{sa:Option Addr}{sn sc:Nat}(h:Km D w bb oo slots st sa sn sc){lb o:Nat}(hne:∀g,D g->lb≠g)(v:Value):Km D (w.setCell ⟨lb,o,none⟩ v) bb oo slots st sa sn sc:=by
 have hk:∀g,D g->(w.setCell ⟨lb,o,none⟩ v).heap[g]?=w.heap[g]?:=fun g hg=>Below.heap_setCell _ _ _ _ (by show g≠lb;exact fun e=>hne g hg e.symm);exact⟨h.kept,(World.cell?_of_block (hk bb h.kept)).trans h.slots,(World.cell?_of_block (hk bb h.kept)).trans h.row,h.own.keep (fun g hg _=>⟨hk g hg,hg⟩)⟩
theorem Qu{pb:Nat}{P:Db}(hp:Jx D w pb P){n:Nat}{f:Fn}(hf:P.fns[n]?=some f):∃hb hc sa sn sc,w.cell? ⟨pb,3,none⟩=some (.slice (some ⟨hb,0,none⟩) P.fns.length hc)/\P.fns.length<=hc/\D pb/\D hb/\pb<w.heap.size/\hb<w.heap.size/\n<P.fns.length/\Km D w hb (n*4+2) f.slots f.steps sa sn sc:=by
 obtain⟨hb,hc,sa,sn,sc,p3,hcc,hDp,hDb,lp,lh,hlt,e1,e2,e3,hown⟩:=hp.Sg hf;exact⟨hb,hc,sa,sn,sc,p3,hcc,hDp,hDb,lp,lh,hlt,hDb,e2,e3,hown⟩
theorem Adp(h:C.Ms D X β w m){n:Nat}{f:Fn}(hf:C.P.fns[n]?=some f){l:Gs}(hl:m.lots[n]?=some l){bets:List Dg}(hb:It X w (.slice C.ba C.bn C.bc) bets)(hbl:bets.length<=1000)
  (hfit:∀f∈C.P.fns,Mz C.P.fns.length 1000 f) (hst:f.steps.length<=90000) (hN:C.P.fns.length<=1000000) (hfo:∀fo,l.form=some fo->(∀x∈fo.bet,x.like.r=none)/\fo.bet.length<=1000/\fo.slots<=1000) (hv:m.vals.length<=100000) (hc:l.calls<=80000/\l.fast<=80000/\l.drops<=80000) :
  Calls Tryz.prog 204 #[.pointer (some ⟨C.mb,0,none⟩),.int .i64 (n:Nat)] w (MBP C D X β w m bets n f):=by
 obtain⟨lb,p,hL⟩:=A26 h hl;obtain⟨lc,c2,hcc⟩:=hL.cell;have lbm:=h.B7;have lbl:=hL.lbl;have hn:=hL.lt;have a0:=hL.c0;have HT:=A0 (Ajv h hb hbl n l.calls);have HL:=A0 hL;have HB:=A0 hb;have hcl:=hc.1;have hcf:=hc.2.1;have hcd:=hc.2.2;clear hL h hb;go_enter Tryz.func204,Tryz.ntmps204;go_wp2_with fail
 refine HT.o.mono ?_;rintro e w1 ⟨A1,⟨rfl,htk⟩|⟨j,hj,rfl,htk⟩⟩
 ·have HTk:=A0 htk;have hL1:=HL.o.same (HL.o.st.below A1).1 rfl A1.block;have Fh:=A0 hL1;have A5:Hid (A3 (dx D X) w w1):=(HL.o.st.below A1).2;clear A1 htk HT hL1 a0;cases hform:l.form with
  | none=>
   have hpn:p=none:=by have:=Fh.o.form;rw[hform]at this;exact this
   subst hpn;have a0:=Fh.o.c0;have a1:=Fh.o.c1;have a2:=Fh.o.c2;have a3:=Fh.o.c3;have fz:=Fh.o.fz;have lblx:=Fh.o.lbl;have lbmx:=Fh.o.st.B7;obtain⟨g0,hprg,hdx⟩:=Fh.o.st.Np;obtain⟨A8,hc2,sa,sn,sc,p3,hcc2,hDp,hDb,lp,lh,hlt,hBd⟩:=Qu hprg hf;have ne1:=Fh.o.ne.1;have ne2:=Fh.o.ne.2 _ (.inl hDp);have ne3:=Fh.o.ne.2 _ (.inl hDb);have HBd:=A0 hBd;clear hprg hdx hBd;have HS:=A0 (Fh.o.set 0 (.int .i64 ((l.calls:Int)+1)) none ⟨l.calls+1,none,l.fast,l.drops⟩ (by omega) (by simp[I7]) rfl);go_wp2;go_ret;obtain⟨s1,s2⟩:=HS.o;refine⟨D,⟨l.calls+1,none,l.fast,l.drops⟩,A8,n*4+2,f.slots,f.steps,sa,sn,sc,fun _ h=>h,s1.st,A5.o.trans s2,HBd.o.set (fun g hg=>Fh.o.ne.2 g (.inl hg)) _,(hfit f (List.mem_of_getElem? hf)).1,rfl,?_⟩;unfold MS.body;rw[hl];dsimp only;rw[HTk.o];dsimp only;rw[hform];rfl
  | some fo=>
   obtain⟨hko,hkl,hks⟩:=hfo fo hform;have hle:l=⟨l.calls,some fo,l.fast,l.drops⟩:=by rw[←hform]
   have HLq:=Fh.o;rw[hle]at HLq;have Fb:Hid (O6 C D X β w1 m lb n p ⟨l.calls,some fo,l.fast,l.drops⟩):=HLq;clear HLq hle Fh;have a0:=Fb.o.c0;have a1:=Fb.o.c1;have a2:=Fb.o.c2;have a3:=Fb.o.c3;have fz:=Fb.o.fz;have lblx:=Fb.o.lbl;have lbmx:=Fb.o.st.B7;obtain⟨g0,hprg,hdx⟩:=Fb.o.st.Np;obtain⟨A8,hc2,sa,sn,sc,p3,hcc2,hDp,hDb,lp,lh,hlt,hBd⟩:=Qu hprg hf;have ne1:=Fb.o.ne.1;have ne2:=Fb.o.ne.2 _ (.inl hDp);have ne3:=Fb.o.ne.2 _ (.inl hDb);have HBd:=A0 hBd;clear hprg hdx hBd;obtain⟨fb,s1a,s1n,s1c,k1a,k1n,k1c,hpe,hDf,hfb,hfs,hfk⟩:=Fb.o.form;subst hpe;clear hDf hfb hfs hfk;have HS:=Fb.o.set 0 (.int .i64 ((l.calls:Int)+1)) (some ⟨fb,0,none⟩) ⟨l.calls+1,some (fo),l.fast,l.drops⟩ (by omega) (by simp[I7]) Fb.o.form;obtain⟨s1,s2⟩:=HS;have HFt:=A0 (fun(W':World) (hW:W'=w1.setCell ⟨lb,n*4+0,none⟩ (.int .i64 ((l.calls:Int)+1)))=>(show Calls Tryz.prog 247 #[.pointer (some ⟨C.mb,0,none⟩),.pointer (some ⟨fb,0,none⟩)] W' (fun e w'=>e=.returned (.bool (J0 m ((m.vals.length:Nat)-((fo).bet.length:Nat)) (fo).bet))/\Below W'.heap.size W' w') by rw[hW,←o6 m (m.lots.set n ⟨l.calls+1,some (fo),l.fast,l.drops⟩)];exact A02 (m:={ m with lots:=m.lots.set n ⟨l.calls+1,some (fo),l.fast,l.drops⟩ }) s1.st s1.form hko hkl hv));have A9:=A0 s1;have Aa:Hid (A3 (dx D X) w _):=A5.o.trans (s2);clear s1 s2;generalize hz:J0 m ((m.vals.length:Nat)-((fo).bet.length:Nat)) (fo).bet=z at *;have HZ:=A0 hz;clear hz;go_wp2_with fail
   refine(HFt.o _ rfl).mono ?_;rintro e w3 ⟨rfl,Aj⟩;have hb3':Below (w1.setCell ⟨lb,n*4+0,none⟩ (.int .i64 ((l.calls:Int)+1))).heap.size (w1.setCell ⟨lb,n*4+0,none⟩ (.int .i64 ((l.calls:Int)+1))) w3:=Aj;have L3:=A9.o.same (A9.o.st.below hb3').1 rfl hb3'.block;have At:Hid (A3 (dx D X) w w3):=Aa.o.trans ((A9.o.st.below hb3').2);have El:=A0 L3;clear Aj hb3' L3 HFt a0 a1 a2 a3 fz lblx lbmx g0 A8 hc2 sa sn sc p3 hcc2 hDp hDb lp lh hlt ne1 ne2 ne3 HBd;have a0:=El.o.c0;have a1:=El.o.c1;have a2:=El.o.c2;have a3:=El.o.c3;have fz:=El.o.fz;have lblx:=El.o.lbl;have lbmx:=El.o.st.B7;obtain⟨g0,hprg,hdx⟩:=El.o.st.Np;obtain⟨A8,hc2,sa,sn,sc,p3,hcc2,hDp,hDb,lp,lh,hlt,hBd⟩:=Qu hprg hf;have ne1:=El.o.ne.1;have ne2:=El.o.ne.2 _ (.inl hDp);have ne3:=El.o.ne.2 _ (.inl hDb);have HBd:=A0 hBd;clear hprg hdx hBd;obtain⟨fb',t1a,t1n,t1c,k2a,k2n,k2c,hpe,hDf,hfb,hfs,hfk⟩:=El.o.form;injection hpe with hpe;injection hpe with hpe;subst hpe;have HFB:Hid (Km (D) w3 fb 0 (fo).slots (fo).steps t1a t1n t1c):=⟨hDf,A2 hfb 0 _ rfl,A2 hfb 1 _ rfl,hfs⟩;have lfb:=A4 hfb;have ne4:=El.o.ne.2 _ (.inl hDf);clear hfb hfs hfk;cases z
   ·have HSa:=El.o.set 1 (.pointer none) none ⟨l.calls+1,none,l.fast,l.drops⟩ (by omega) (by simp[I7]) rfl;have HSb:=HSa.1.set 3 (.int .i64 ((l.drops:Int)+1)) none ⟨l.calls+1,none,l.fast,l.drops+1⟩ (by omega) (by simp[I7]) rfl;have HSt:=A0 HSb.1.st;have HSd:Hid (A3 (dx D X) w _):=At.o.trans (HSa.2.trans HSb.2);have HBq:=A0 ((HBd.o.set (fun g hg=>El.o.ne.2 g (.inl hg)) (o:=n*4+1) (.pointer none)).set (fun g hg=>El.o.ne.2 g (.inl hg)) (o:=n*4+3) (.int .i64 ((l.drops:Int)+1)));clear HSa HSb;go_wp2;go_ret;refine⟨D,⟨l.calls+1,none,l.fast,l.drops+1⟩,A8,n*4+2,f.slots,f.steps,sa,sn,sc,fun _ h=>h,?_,HSd.o,HBq.o,(hfit f (List.mem_of_getElem? hf)).1,rfl,?_⟩
    ·have:=HSt.o;simp only[List.set_set]at this;exact this
    ·unfold MS.body;rw[hl];dsimp only;rw[HTk.o];dsimp only;rw[hform];dsimp only;rw[if_neg (by rw[HZ.o];simp)];rfl
   ·have HSa:=El.o.set 2 (.int .i64 ((l.fast:Int)+1)) (some ⟨fb,0,none⟩) ⟨l.calls+1,some (fo),l.fast+1,l.drops⟩ (by omega) (by simp[I7]) El.o.form;have HSt:=A0 HSa.1.st;have HSd:Hid (A3 (dx D X) w _):=At.o.trans (HSa.2);have HBq:=A0 (HFB.o.set (fun g hg=>El.o.ne.2 g (.inl hg)) (o:=n*4+2) (.int .i64 ((l.fast:Int)+1)));clear HSa;go_wp2;go_ret;refine⟨D,⟨l.calls+1,some (fo),l.fast+1,l.drops⟩,fb,0,_,_,t1a,t1n,t1c,fun _ h=>h,?_,HSd.o,HBq.o,hks,rfl,?_⟩
    ·have:=HSt.o;simp only[List.set_set]at this;exact this
    ·unfold MS.body;rw[hl];dsimp only;rw[HTk.o];dsimp only;rw[hform];dsimp only;rw[if_pos HZ.o];rfl
 ·obtain⟨hfn,haf⟩:=A71 htk;have HTk:=A0 htk;have hL1:=HL.o.same (HL.o.st.below A1).1 rfl A1.block;have Fh:=A0 hL1;have A5:Hid (A3 (dx D X) w w1):=(HL.o.st.below A1).2;obtain⟨ba,bc,ev,hbc,hbt⟩:=HB.o.below A1;obtain⟨g0c,hprg0,hdx0⟩:=hL1.st.Np;have b1:=hL1.st.X0;rw[ev]at b1;obtain⟨g,o,rfl,hKg,lg,hcell⟩:=hbt (by omega);obtain⟨q0,q1,kv,iv,q2,q3,rk,ri⟩:=hcell j hj;obtain⟨ka,kc,ek,_⟩:=id rk;obtain⟨ia,ic,ei,_⟩:=id ri;rw[show(ints bets[j].kinds).length=bets[j].kinds.length by simp[ints]]at ek;rw[show(ints bets[j].ints).length=bets[j].ints.length by simp[ints]]at ei;subst ek ei;have HNew:=A0 (Air (w:=w1.drew) (hprg0.keep (E':=D) (fun g hg _=>⟨rfl,hg⟩)) (fun g hg=>(hdx0 g (.inl hg)).1) hfn hf (rk.keep (K':=X) (w':=w1.drew) (fun g hg _=>⟨rfl,hg⟩) (Nat.le_refl _)) (ri.keep (K':=X) (w':=w1.drew) (fun g hg _=>⟨rfl,hg⟩) (Nat.le_refl _)) hfit hst hN);rw[←Nat.add_assoc]at q1 q2 q3;have a0x:=hL1.c0;have fzx:=hL1.fz;have lbx:=hL1.lbl;have lbmy:=hL1.st.B7;have lpx:=(hdx0 _ (.inl (hprg0.choose_spec.choose_spec.choose_spec.choose_spec.choose_spec.choose_spec.choose_spec.1))).1;have hko:∀x∈(Ge C.P bets[j] f).bet,x.like.r=none:=fun x hx=>by
   simp only[Ge,List.mem_map]at hx;obtain⟨i,_,rfl⟩:=hx;exact Ug _ i
  have hkl:(Ge C.P bets[j] f).bet.length<=1000:=by
   have:=(hfit f (List.mem_of_getElem? hf)).1;have:=(hfit f (List.mem_of_getElem? hf)).2.1;simp only[Ge,List.length_map,List.length_range];omega
  have hks:(Ge C.P bets[j] f).slots<=1000:=(hfit f (List.mem_of_getElem? hf)).1;clear A1 htk HT hL1 a0 hbt hcell rk ri hprg0 hdx0;rw[hfn,haf]at HNew;go_wp2;go_region_law (refine Fj rfl 246 _ _ rfl #[.pointer (some ⟨C.pb,0,none⟩),.agg #[.int .i64 (n:Nat),.int .i64 (l.calls:Nat),.slice ka bets[j].kinds.length kc,.slice ia bets[j].ints.length ic]] (by kernel_rfl) HNew.o ?_;rintro e w2 ⟨fb0,E,rfl,hform2,hE,hb20⟩;refine⟨_,rfl,?_⟩;have hb2':Below w1.heap.size w1 w2:=Below.trans (b:=w1.drew) ⟨rfl,rfl,rfl,Nat.le_refl _,fun _ _=>rfl⟩ hb20;have hm3:C.Ms (fun g=>D g\/E g) X β w2 m:=((Fh.o.st.more hb2').An1 E (fun g hg=>.inr (hE g hg))).less (fun _ h=>.inl h) (fun _ _ _=>rfl) rfl;have L2:=Fh.o.same hm3 rfl hb2'.block;have Fb:=A0 L2;have HB2':Hid (A3 (dx D X) w w2):=A5.o.trans (Fh.o.st.below hb2').2;obtain⟨L4,k4⟩:=L2.set 1 (.pointer (some ⟨fb0,0,none⟩)) (some ⟨fb0,0,none⟩) ⟨l.calls,some (Ge C.P bets[j] f),l.fast,l.drops⟩ (by omega) (by simp[I7]) (hform2.keep (fun g hg _=>⟨rfl,.inr hg⟩));have HL4:=A0 L4;have Ci:Hid (A3 (dx D X) w (w2.setCell ⟨lb,n*4+1,none⟩ (.pointer (some ⟨fb0,0,none⟩)))):=HB2'.o.trans (k4.weak (fun g hg=>hg.imp (fun q=>Or.inl q) id));have a1z:=Fb.o.c1;have fzz:=Fb.o.fz;have lbz:=Fb.o.lbl;clear hm3 L2 L4 k4 hform2 hE hb2' hb20)
  all_goals
   have a0:=Fb.o.c0;have a1:=Fb.o.c1;have a2:=Fb.o.c2;have a3:=Fb.o.c3;have fz:=Fb.o.fz;have lblx:=Fb.o.lbl;have lbmx:=Fb.o.st.B7;obtain⟨g0,hprg,hdx⟩:=Fb.o.st.Np;obtain⟨A8,hc2,sa,sn,sc,p3,hcc2,hDp,hDb,lp,lh,hlt,hBd⟩:=Qu hprg hf;have ne1:=Fb.o.ne.1;have ne2:=Fb.o.ne.2 _ (.inl hDp);have ne3:=Fb.o.ne.2 _ (.inl hDb);have HBd:=A0 hBd;clear hprg hdx hBd;obtain⟨fb,s1a,s1n,s1c,k1a,k1n,k1c,hpe,hDf,hfb,hfs,hfk⟩:=HL4.o.form;injection hpe with hpe;injection hpe with hpe;subst hpe;clear hDf hfb hfs hfk;have HS:=HL4.o.set 0 (.int .i64 ((l.calls:Int)+1)) (some ⟨fb0,0,none⟩) ⟨l.calls+1,some (Ge C.P bets[j] f),l.fast,l.drops⟩ (by omega) (by simp[I7]) HL4.o.form;obtain⟨s1,s2⟩:=HS;have HFt:=A0 (fun(W':World) (hW:W'=(w2.setCell ⟨lb,n*4+1,none⟩ (.pointer (some ⟨fb0,0,none⟩))).setCell ⟨lb,n*4+0,none⟩ (.int .i64 ((l.calls:Int)+1)))=>(show Calls Tryz.prog 247 #[.pointer (some ⟨C.mb,0,none⟩),.pointer (some ⟨fb0,0,none⟩)] W' (fun e w'=>e=.returned (.bool (J0 m ((m.vals.length:Nat)-((Ge C.P bets[j] f).bet.length:Nat)) (Ge C.P bets[j] f).bet))/\Below W'.heap.size W' w') by rw[hW,←o6 m (m.lots.set n ⟨l.calls+1,some (Ge C.P bets[j] f),l.fast,l.drops⟩)];exact A02 (m:={ m with lots:=m.lots.set n ⟨l.calls+1,some (Ge C.P bets[j] f),l.fast,l.drops⟩ }) (by have:=s1.st;simp only[List.set_set]at this;exact this) s1.form hko hkl hv));have A9:=A0 s1;have Aa:Hid (A3 (dx D X) w _):=Ci.o.trans ((s2).weak (fun g hg=>hg.imp (fun q=>Or.inl q) id));clear s1 s2;generalize hz:J0 m ((m.vals.length:Nat)-((Ge C.P bets[j] f).bet.length:Nat)) (Ge C.P bets[j] f).bet=z at *;have HZ:=A0 hz;clear hz;go_wp2_with fail
   refine(HFt.o _ rfl).mono ?_;rintro e w3 ⟨rfl,Aj⟩;have hb3':Below ((w2.setCell ⟨lb,n*4+1,none⟩ (.pointer (some ⟨fb0,0,none⟩))).setCell ⟨lb,n*4+0,none⟩ (.int .i64 ((l.calls:Int)+1))).heap.size ((w2.setCell ⟨lb,n*4+1,none⟩ (.pointer (some ⟨fb0,0,none⟩))).setCell ⟨lb,n*4+0,none⟩ (.int .i64 ((l.calls:Int)+1))) w3:=Aj;have L3:=A9.o.same (A9.o.st.below hb3').1 rfl hb3'.block;have At:Hid (A3 (dx D X) w w3):=Aa.o.trans (((A9.o.st.below hb3').2).weak (fun g hg=>hg.imp (fun q=>Or.inl q) id));have El:=A0 L3;clear Aj hb3' L3 HFt a0 a1 a2 a3 fz lblx lbmx g0 A8 hc2 sa sn sc p3 hcc2 hDp hDb lp lh hlt ne1 ne2 ne3 HBd;have a0:=El.o.c0;have a1:=El.o.c1;have a2:=El.o.c2;have a3:=El.o.c3;have fz:=El.o.fz;have lblx:=El.o.lbl;have lbmx:=El.o.st.B7;obtain⟨g0,hprg,hdx⟩:=El.o.st.Np;obtain⟨A8,hc2,sa,sn,sc,p3,hcc2,hDp,hDb,lp,lh,hlt,hBd⟩:=Qu hprg hf;have ne1:=El.o.ne.1;have ne2:=El.o.ne.2 _ (.inl hDp);have ne3:=El.o.ne.2 _ (.inl hDb);have HBd:=A0 hBd;clear hprg hdx hBd;obtain⟨fb',t1a,t1n,t1c,k2a,k2n,k2c,hpe,hDf,hfb,hfs,hfk⟩:=El.o.form;injection hpe with hpe;injection hpe with hpe;subst hpe;have HFB:Hid (Km (fun g=>D g\/E g) w3 fb0 0 (Ge C.P bets[j] f).slots (Ge C.P bets[j] f).steps t1a t1n t1c):=⟨hDf,A2 hfb 0 _ rfl,A2 hfb 1 _ rfl,hfs⟩;have lfb:=A4 hfb;have ne4:=El.o.ne.2 _ (.inl hDf);clear hfb hfs hfk;cases z
   ·have HSa:=El.o.set 1 (.pointer none) none ⟨l.calls+1,none,l.fast,l.drops⟩ (by omega) (by simp[I7]) rfl;have HSb:=HSa.1.set 3 (.int .i64 ((l.drops:Int)+1)) none ⟨l.calls+1,none,l.fast,l.drops+1⟩ (by omega) (by simp[I7]) rfl;have HSt:=A0 HSb.1.st;have HSd:Hid (A3 (dx D X) w _):=At.o.trans ((HSa.2.trans HSb.2).weak (fun g hg=>hg.imp (fun q=>Or.inl q) id));have HBq:=A0 ((HBd.o.set (fun g hg=>El.o.ne.2 g (.inl hg)) (o:=n*4+1) (.pointer none)).set (fun g hg=>El.o.ne.2 g (.inl hg)) (o:=n*4+3) (.int .i64 ((l.drops:Int)+1)));clear HSa HSb;go_wp2;go_ret;refine⟨fun g=>D g\/E g,⟨l.calls+1,none,l.fast,l.drops+1⟩,A8,n*4+2,f.slots,f.steps,sa,sn,sc,fun _ h=>.inl h,?_,HSd.o,HBq.o,(hfit f (List.mem_of_getElem? hf)).1,rfl,?_⟩
    ·have:=HSt.o;simp only[List.set_set]at this;exact this
    ·unfold MS.body;rw[hl];dsimp only;rw[HTk.o];dsimp only;rw[if_neg (by rw[HZ.o];simp)];rfl
   ·have HSa:=El.o.set 2 (.int .i64 ((l.fast:Int)+1)) (some ⟨fb0,0,none⟩) ⟨l.calls+1,some (Ge C.P bets[j] f),l.fast+1,l.drops⟩ (by omega) (by simp[I7]) El.o.form;have HSt:=A0 HSa.1.st;have HSd:Hid (A3 (dx D X) w _):=At.o.trans ((HSa.2).weak (fun g hg=>hg.imp (fun q=>Or.inl q) id));have HBq:=A0 (HFB.o.set (fun g hg=>El.o.ne.2 g (.inl hg)) (o:=n*4+2) (.int .i64 ((l.fast:Int)+1)));clear HSa;go_wp2;go_ret;refine⟨fun g=>D g\/E g,⟨l.calls+1,some (Ge C.P bets[j] f),l.fast+1,l.drops⟩,fb0,0,_,_,t1a,t1n,t1c,fun _ h=>.inl h,?_,HSd.o,HBq.o,hks,rfl,?_⟩
    ·have:=HSt.o;simp only[List.set_set]at this;exact this
    ·unfold MS.body;rw[hl];dsimp only;rw[HTk.o];dsimp only;rw[if_pos HZ.o];rfl
end
end Go.Proofs.YtjdlndhfaaolaaaGreatDoor
