import Derived.Test.YtjdlndhfaaolaaaGreatDoorV41
set_option maxHeartbeats 20000000
namespace Go.Proofs.YtjdlndhfaaolaaaGreatDoor
section
open Go.RowKit
open Go.Deep (BT)
variable {C:MC} {D X:Nat->Prop} {w w':World} {m:MS} {β:Nat->Nat}
variable {α:Type} {T:TypeId} {sz:Nat} {f:α->List Value}
theorem Ajk(hf:∀x,(f x).length=sz):∀(xs:List α) (i:Nat) (h:i<xs.length),Bw f xs=(Bw f xs).take (i*sz)++f xs[i]++(Bw f xs).drop ((i+1)*sz):=by
 intro xs i h;have:=Ut hf xs[i] xs i h;rw[List.set_getElem_self]at this;exact this
theorem Ajj(hf:∀x,(f x).length=sz)(xs:List α)(i o:Nat)(h:i<xs.length)(ho:o<sz)(y:α)(v:Value)(hy:f y=(f xs[i]).set o v):Bw f (xs.set i y)=(Bw f xs).set (i*sz+o) v:=by
 have hl:=Lr hf xs;have hadd:(i+1)*sz=i*sz+sz:=by rw[Nat.add_mul,Nat.one_mul]
 have hin:(i+1)*sz<=xs.length*sz:=Nat.mul_le_mul_right _ h;rw[Ut hf y xs i h,hy];conv=>rhs;rw[Ajk hf xs i h]
 have ht:((Bw f xs).take (i*sz)).length=i*sz:=by simp;omega
 rw[List.append_assoc,List.append_assoc,List.set_append_right _ _ z4va,ht,show i*sz+o-i*sz=o by omega,List.set_append_left _ _ (by rw[hf];exact ho)]
theorem Ah0{g c:Nat}{xs:List α}(ho:w.ownsRow 0 T sz (.slice (some ⟨g,0,none⟩) xs.length c) xs.length (Bw f xs))(hf:∀x,(f x).length=sz)(i o:Nat)(hi:i<xs.length)(hos:o<sz)(y:α)(v:Value)(hy:f y=(f xs[i]).set o v):(w.setCell ⟨g,i*sz+o,none⟩ v).ownsRow 0 T sz (.slice (some ⟨g,0,none⟩) (xs.set i y).length c) (xs.set i y).length (Bw f (xs.set i y)):=by
 obtain⟨hl,⟨h2,h3⟩|⟨g',cap,cur,hv,_,hgc,hcap,hmx,hsz,ht⟩⟩:=ho
 ·cases h2
 injection hv with e1 e2 e3;injection e1 with e1;injection e1 with e1;subst e1 e3;refine⟨by rw[Lr hf],.inr ⟨g,c,cur.setIfInBounds (i*sz+o) v,rfl,Nat.zero_le _,heap_set hgc v,by rw[List.length_set];exact hcap,hmx,by simp;exact hsz,?_⟩⟩;rw[List.length_set,Ajj hf xs i o hi hos y v hy,←ht,Array.toList_setIfInBounds,List.take_set]
theorem MC.Ms.Xp(h:C.Ms D X β w m){n:Nat}(hn:n<m.lots.length):∃lb lc p,w.cell? ⟨C.mb,2,none⟩=some (.slice (some ⟨lb,0,none⟩) m.lots.length lc)/\m.lots.length<=lc/\lb<w.heap.size/\(lb≠C.mb/\∀g,dx D X g->lb≠g)/\(∀o,w.frozen? ⟨lb,o,none⟩=false)/\w.cell? ⟨lb,n*4,none⟩=some (.int .i64 (m.lots[n].calls:Nat))/\w.cell? ⟨lb,n*4+1,none⟩=some (.pointer p)/\w.cell? ⟨lb,n*4+2,none⟩=some (.int .i64 (m.lots[n].fast:Nat))/\w.cell? ⟨lb,n*4+3,none⟩=some (.int .i64 (m.lots[n].drops:Nat))/\M0 D w p m.lots[n].form/\
  ∀(o:Nat) (v:Value) (p':Option Addr) (l':Dv),o<4->Ip (p',l')=(Ip (p,m.lots[n])).set o v->M0 D w p' l'.form->C.Ms D X β (w.setCell ⟨lb,n*4+o,none⟩ v) { m with lots:=m.lots.set n l' }/\A3 (dx D X) w (w.setCell ⟨lb,n*4+o,none⟩ v)/\(w.setCell ⟨lb,n*4+o,none⟩ v).cell? ⟨lb,n*4+1,none⟩=some (.pointer p'):=by
 obtain⟨ρ,s,x,fv,ab,lp,h⟩:=h;have hlm:=h.lotm;have hll:m.lots.length=lp.length:=by rw[hlm];simp
 have hnl:n<lp.length:=by omega
 obtain⟨lb,k1,k2,hcap,lbl,hcell⟩:=Fo h.lots z4va;have hown:=h.lots;have hlo:=h.loto lb (by rw[k1];rfl);have hne:lb≠C.mb:=fun e=>by rw[e,h.one.1]at hlo;cases hlo
 have hq:m.lots[n]=lp[n].2:=by simp[hlm]
 have c2:=A2 h.cell 2 (.slice s.la s.ln s.lc) rfl;rw[k1,k2,←hll]at c2;have hat:∀j v,j<4->(Ip lp[n])[j]?=some v->w.cell? ⟨lb,n*4+j,none⟩=some v:=fun j v hj hv=>hcell (n*4+j) v ((D1 (sz:=4) (fun _=>rfl) lp n j hnl hj).trans hv);rw[hq];have hfr:∀o,w.frozen? ⟨lb,o,none⟩=false:=by
  rw[k1,k2]at hown;exact A28 hown
 refine⟨lb,s.lc,lp[n].1,c2,by rw[hll];exact hcap,lbl,⟨hne,fun g hg e=>by have:=(h.prot g hg).2;rw[←e,hlo]at this;cases this⟩,hfr,hat 0 _ z4va rfl,hat 1 _ z4va rfl,hat 2 _ z4va rfl,hat 3 _ z4va rfl,h.forms _ (List.getElem_mem hnl),?_⟩;intro o v p' l' ho hlc hform;have hc:G9 2 ρ w (w.setCell ⟨lb,n*4+o,none⟩ v):=⟨rfl,rfl,rfl,by simp[World.setCell],fun k hk h1 h2=>Below.heap_setCell _ _ _ _ (by show k≠lb;exact fun e=>h2 (by rw[e];exact hlo))⟩;rw[k1,k2]at hown;have hrow:=Ah0 hown (fun _=>rfl) n o hnl ho (p',l') v hlc;have hfin:=h.Aks hc (la:=some ⟨lb,0,none⟩) (ln:=(lp.set n (p',l')).length) (lc:=s.lc) (lp':=lp.set n (p',l')) (x':=x) (now:=m.now) (fuel:=m.fuel) (cells:=m.cells) (code:=m.code) (line:=m.line)
  (by
   rw[Below.heap_setCell _ _ _ _ (by show C.mb≠lb;exact fun e=>hne e.symm),h.cell,List.length_set];simp only[MC.cells];rw[←k1,←k2])
  hrow (fun g hg=>.inl (by rw[k1];exact(Mi _ _ _ _).trans hg)) h.now
  (fun q hq=>by
   rcases List.mem_or_eq_of_mem_set hq with e|e
   ·exact h.forms q e
   ·rw[e];exact hform)
 have hmap:(lp.set n (p',l')).map Prod.snd=m.lots.set n l':=by rw[hlm,List.map_set]
 rw[hmap]at hfin;refine⟨⟨_,_,_,_,_,_,hfin⟩,h.F7 hc z4va,?_⟩;have hnl':n<(lp.set n (p',l')).length:=by rw[List.length_set];exact hnl
 obtain⟨E2,k3,_,_,_,hcell2⟩:=Fo hrow z4va;injection k3 with k3;injection k3 with k3;subst k3;refine hcell2 (n*4+1) _ ((D1 (f:=Ip) (sz:=4) (fun _=>rfl) (lp.set n (p',l')) n 1 hnl' z4va).trans ?_);rw[List.getElem_set_self];rfl
end
section
open Go.RowKit
open Go.Deep (BT)
variable {C:MC} {D X:Nat->Prop} {w w':World} {m:MS} {β:Nat->Nat}
structure Ob (C : MC) (D X : Nat -> Prop) (β : Nat -> Nat) (w : World) (m : MS) (lb n : Nat) (p : Option Addr) (l : Dv) : Prop where
 st:C.Ms D X β w m
 cell:∃c,w.cell? ⟨C.mb,2,none⟩=some (.slice (some ⟨lb,0,none⟩) m.lots.length c)/\m.lots.length<=c
 lt:n<m.lots.length
 lot:m.lots[n]?=some l
 lbl:lb<w.heap.size
 ne:lb≠C.mb/\∀g,dx D X g->lb≠g
 fz:∀o,w.frozen? ⟨lb,o,none⟩=false
 c0:w.cell? ⟨lb,n*4,none⟩=some (.int .i64 (l.calls:Nat))
 c1:w.cell? ⟨lb,n*4+1,none⟩=some (.pointer p)
 c2:w.cell? ⟨lb,n*4+2,none⟩=some (.int .i64 (l.fast:Nat))
 c3:w.cell? ⟨lb,n*4+3,none⟩=some (.int .i64 (l.drops:Nat))
 form:M0 D w p l.form
theorem A1p(h:C.Ms D X β w m){n:Nat}{l:Dv}(hl:m.lots[n]?=some l):∃lb p,Ob C D X β w m lb n p l:=by
 have hn:n<m.lots.length:=(List.getElem?_eq_some_iff.1 hl).1;have e:m.lots[n]=l:=(List.getElem?_eq_some_iff.1 hl).2;obtain⟨lb,lc,p,q1,q2,q3,q4,q5,q6,q7,q8,q9,q10,_⟩:=h.Xp hn;rw[e]at q6 q8 q9 q10;exact⟨lb,p,h,⟨lc,q1,q2⟩,hn,hl,q3,q4,q5,q6,q7,q8,q9,q10⟩
theorem Ob.same{lb n:Nat}{p:Option Addr}{l:Dv}(h:Ob C D X β w m lb n p l){D' X':Nat->Prop}{m':MS}(hs:C.Ms D' X' β w' m')(hl:m'.lots=m.lots)(hk:∀g,g<w.heap.size->w'.heap[g]?=w.heap[g]?):Ob C D' X' β w' m' lb n p l:=by
 obtain⟨c,hc,hcc⟩:=h.cell;have lm:=h.st.Au;have hn:n<m'.lots.length:=by rw[hl];exact h.lt
 have hlot:m'.lots[n]?=some l:=by rw[hl];exact h.lot
 have e:m'.lots[n]=l:=(List.getElem?_eq_some_iff.1 hlot).2;obtain⟨lb',lc,p',q1,q2,q3,q4,q5,q6,q7,q8,q9,q10,_⟩:=hs.Xp hn;have hc':=(World.cell?_of_block (hk _ lm)).trans hc;rw[q1]at hc';simp only[Option.some.injEq,Value.slice.injEq,Addr.mk.injEq,and_true]at hc';obtain⟨e1,e2,e3⟩:=hc';subst e1 e3;have hp:=(World.cell?_of_block (hk _ h.lbl)).trans h.c1;rw[q7]at hp;simp only[Option.some.injEq,Value.pointer.injEq]at hp;subst hp;rw[e]at q6 q8 q9 q10;exact⟨hs,⟨lc,q1,q2⟩,hn,hlot,q3,q4,q5,q6,q7,q8,q9,q10⟩
theorem Ob.set{lb n:Nat}{p:Option Addr}{l:Dv}(h:Ob C D X β w m lb n p l)(o:Nat)(v:Value)(p':Option Addr)(l':Dv)(ho:o<4)(hv:Ip (p',l')=(Ip (p,l)).set o v)(hf:M0 D w p' l'.form):Ob C D X β (w.setCell ⟨lb,n*4+o,none⟩ v) { m with lots:=m.lots.set n l' } lb n p' l'/\A3 (dx D X) w (w.setCell ⟨lb,n*4+o,none⟩ v):=by
 obtain⟨c,hc,hcc⟩:=h.cell;have hn:=h.lt;have e:m.lots[n]=l:=by have:=h.lot;rw[List.getElem?_eq_getElem h.lt]at this;exact Option.some.inj this
 obtain⟨lb',lc,q0,q1,q2,q3,q4,q5,q6,q7,q8,q9,q10,hset⟩:=h.st.Xp h.lt;rw[hc]at q1;simp only[Option.some.injEq,Value.slice.injEq,Addr.mk.injEq,and_true,true_and]at q1;obtain⟨e1,e2,e3⟩:=q1;subst e1;have hp:=h.c1;rw[q7]at hp;simp only[Option.some.injEq,Value.pointer.injEq]at hp;subst hp;obtain⟨s1,s2,s3⟩:=hset o v p' l' ho (by rw[e];exact hv) hf;refine⟨?_,s2⟩;have hn':n<(m.lots.set n l').length:=by rw[List.length_set];exact h.lt
 have hl':({ m with lots:=m.lots.set n l' }:MS).lots[n]?=some l':=by show(m.lots.set n l')[n]?=some l';rw[List.getElem?_set_self h.lt]
 obtain⟨E2,p2,hL⟩:=A1p s1 hl';obtain⟨c2,He,hcc2⟩:=hL.cell;have hcm:(w.setCell ⟨lb,n*4+o,none⟩ v).cell? ⟨C.mb,2,none⟩=w.cell? ⟨C.mb,2,none⟩:=World.cell?_of_block (Below.heap_setCell _ _ _ _ (by show C.mb≠lb;exact fun q=>h.ne.1 q.symm));rw[hcm,hc]at He;simp only[Option.some.injEq,Value.slice.injEq,Addr.mk.injEq,and_true]at He;obtain⟨e4,_,_⟩:=He;subst e4;have hp2:p2=p':=by
  have h1:=hL.c1;rw[s3]at h1;simp only[Option.some.injEq,Value.pointer.injEq]at h1;exact h1.symm
 rw[hp2]at hL;exact hL
end
section
set_option maxRecDepth 100000
open Go.RowKit
open Go.Deep (BT)
variable {C:MC} {D X:Nat->Prop} {w w':World} {m:MS} {β:Nat->Nat}
def MBP(C:MC)(D X:Nat->Prop)(β:Nat->Nat)(w:World)(m:MS)(bets:List Cx)(n:Nat)(f:Fn)(e:Ending)(w':World):Prop:=
 ∃D' l' bb oo slots steps sa sn sc,(∀g,D g->D' g)/\C.Ms D' X β w' { m with lots:=m.lots.set n l' }/\A3 (dx D X) w w'/\L0 D' w' bb oo slots steps sa sn sc/\slots<=1000/\e=.returned (.pointer (some ⟨bb,oo,none⟩))/\MS.body C.P bets n f m=({ m with lots:=m.lots.set n l' }:MS).begin slots steps f.params
theorem MC.Ms.P7(h:C.Ms D X β w m):w.cell? ⟨C.mb,0,none⟩=some (.pointer (some ⟨C.pb,0,none⟩))/\K3 D w C.pb C.P/\(∀g,dx D X g->g<w.heap.size/\C.mb≠g):=by
 obtain⟨ρ,s,x,fv,ab,lp,h⟩:=h;exact⟨A2 h.cell 0 _ rfl,h.prog,fun g hg=>⟨(h.prot g hg).1,fun e=>h.lo.2 (by rw[e];exact hg)⟩⟩
theorem Aof{n c:Nat}:∀{l:List Cx} {b:Cx},taken n c l=some b->b.fn=(n:Nat)/\b.after=(c:Nat):=by
 intro l;induction l with
 | nil=>intro b h;simp[taken]at h
 | cons x r ih=>
  intro b h;rw[taken]at h;cases hq:taken n c r with
  | some y=>rw[hq]at h;injection h with h;rw[←h];exact ih hq
  | none=>
   rw[hq]at h;dsimp only at h;split at h
   ·rename_i hc;injection h with h;rw[←h];exact hc
   ·cases h
theorem A0t(m:MS)(x:List Dv):∀(ks:List Kn) (i:Int),Jc { m with lots:=x } i ks=Jc m i ks:=by
 intro ks;induction ks with
 | nil=>intro i;rfl
 | cons k r ih=>intro i;rw[Jc,Jc,ih];rfl
theorem L0.set{bb oo slots:Nat}{st:List Ac}{sa:Option Addr}{sn sc:Nat}(h:L0 D w bb oo slots st sa sn sc){lb o:Nat}(hne:∀g,D g->lb≠g)(v:Value):L0 D (w.setCell ⟨lb,o,none⟩ v) bb oo slots st sa sn sc:=by
 have hk:∀g,D g->(w.setCell ⟨lb,o,none⟩ v).heap[g]?=w.heap[g]?:=fun g hg=>Below.heap_setCell _ _ _ _ (by show g≠lb;exact fun e=>hne g hg e.symm);exact⟨h.kept,(World.cell?_of_block (hk bb h.kept)).trans h.slots,(World.cell?_of_block (hk bb h.kept)).trans h.row,h.own.keep (fun g hg _=>⟨hk g hg,hg⟩)⟩
theorem Su{pb:Nat}{P:D7}(hp:K3 D w pb P){n:Nat}{f:Fn}(hf:P.fns[n]?=some f):∃hb hc sa sn sc,w.cell? ⟨pb,3,none⟩=some (.slice (some ⟨hb,0,none⟩) P.fns.length hc)/\P.fns.length<=hc/\D pb/\D hb/\pb<w.heap.size/\hb<w.heap.size/\n<P.fns.length/\L0 D w hb (n*4+2) f.slots f.steps sa sn sc:=by
 obtain⟨hb,hc,sa,sn,sc,p3,hcc,hDp,hDb,lp,lh,hlt,e1,e2,e3,hown⟩:=hp.Ub hf;exact⟨hb,hc,sa,sn,sc,p3,hcc,hDp,hDb,lp,lh,hlt,hDb,e2,e3,hown⟩
theorem z31a {P:Prop} (h:P:=by
  have:=HSt.o;simp only[List.set_set]at this;exact this):P:=h
theorem z66a {P:Prop} (h:P:=by simp[Ip]):P:=h
theorem Ag9(h:C.Ms D X β w m){n:Nat}{f:Fn}(hf:C.P.fns[n]?=some f){l:Dv}(hl:m.lots[n]?=some l){bets:List Cx}(hb:Ib X w (.slice C.ba C.bn C.bc) bets)(hbl:bets.length<=1000)
  (hfit:∀f∈C.P.fns,No C.P.fns.length 1000 f) (hst:f.steps.length<=90000) (hN:C.P.fns.length<=1000000) (hfo:∀fo,l.form=some fo->(∀x∈fo.bet,x.like.r=none)/\fo.bet.length<=1000/\fo.slots<=1000) (hv:m.vals.length<=100000) (hc:l.calls<=80000/\l.fast<=80000/\l.drops<=80000) :
  Calls Tryz.prog 204 #[.pointer (some ⟨C.mb,0,none⟩),.int .i64 (n:Nat)] w (MBP C D X β w m bets n f):=by
 obtain⟨lb,p,hL⟩:=A1p h hl;obtain⟨lc,c2,hcc⟩:=hL.cell;have lbm:=h.Au;have lbl:=hL.lbl;have hn:=hL.lt;have a0:=hL.c0;have HT:=A0 (Aod h hb hbl n l.calls);have HL:=A0 hL;have HB:=A0 hb;have hcl:=hc.1;have hcf:=hc.2.1;have hcd:=hc.2.2;clear hL h hb;go_enter Tryz.func204,Tryz.ntmps204;go_wp2_with fail
 refine HT.o.mono ?_;rintro e w1 ⟨A1,⟨rfl,htk⟩|⟨j,hj,rfl,htk⟩⟩
 ·have HTk:=A0 htk;have hL1:=HL.o.same (HL.o.st.below A1).1 rfl A1.block;have Fb:=A0 hL1;have A4:Hid (A3 (dx D X) w w1):=(HL.o.st.below A1).2;clear A1 htk HT hL1 a0;cases hform:l.form with
  | none=>
   have hpn:p=none:=by have:=Fb.o.form;rw[hform]at this;exact this
   subst hpn;have a0:=Fb.o.c0;have a1:=Fb.o.c1;have a2:=Fb.o.c2;have a3:=Fb.o.c3;have fz:=Fb.o.fz;have lblx:=Fb.o.lbl;have lbmx:=Fb.o.st.Au;obtain⟨g0,hprg,hdx⟩:=Fb.o.st.P7;obtain⟨A8,He,sa,sn,sc,p3,hcc2,hDp,hDb,lp,lh,hlt,hBd⟩:=Su hprg hf;have ne1:=Fb.o.ne.1;have ne2:=Fb.o.ne.2 _ (.inl hDp);have ne3:=Fb.o.ne.2 _ (.inl hDb);have HBd:=A0 hBd;clear hprg hdx hBd;have HS:=A0 (Fb.o.set 0 (.int .i64 ((l.calls:Int)+1)) none ⟨l.calls+1,none,l.fast,l.drops⟩ z4va z66a rfl);go_wp2;go_ret;obtain⟨s1,s2⟩:=HS.o;refine⟨D,⟨l.calls+1,none,l.fast,l.drops⟩,A8,n*4+2,f.slots,f.steps,sa,sn,sc,fun _ h=>h,s1.st,A4.o.trans s2,HBd.o.set (fun g hg=>Fb.o.ne.2 g (.inl hg)) _,(hfit f (List.mem_of_getElem? hf)).1,rfl,?_⟩;unfold MS.body;rw[hl];dsimp only;rw[HTk.o];dsimp only;rw[hform];rfl
  | some fo=>
   obtain⟨hko,hkl,hks⟩:=hfo fo hform;have hle:l=⟨l.calls,some fo,l.fast,l.drops⟩:=by rw[←hform]
   have HLq:=Fb.o;rw[hle]at HLq;have Fi:Hid (Ob C D X β w1 m lb n p ⟨l.calls,some fo,l.fast,l.drops⟩):=HLq;clear HLq hle Fb;have a0:=Fi.o.c0;have a1:=Fi.o.c1;have a2:=Fi.o.c2;have a3:=Fi.o.c3;have fz:=Fi.o.fz;have lblx:=Fi.o.lbl;have lbmx:=Fi.o.st.Au;obtain⟨g0,hprg,hdx⟩:=Fi.o.st.P7;obtain⟨A8,He,sa,sn,sc,p3,hcc2,hDp,hDb,lp,lh,hlt,hBd⟩:=Su hprg hf;have ne1:=Fi.o.ne.1;have ne2:=Fi.o.ne.2 _ (.inl hDp);have ne3:=Fi.o.ne.2 _ (.inl hDb);have HBd:=A0 hBd;clear hprg hdx hBd;obtain⟨fb,s1a,s1n,s1c,k1a,k1n,k1c,hpe,hDf,hfb,hfs,hfk⟩:=Fi.o.form;subst hpe;clear hDf hfb hfs hfk;have HS:=Fi.o.set 0 (.int .i64 ((l.calls:Int)+1)) (some ⟨fb,0,none⟩) ⟨l.calls+1,some (fo),l.fast,l.drops⟩ z4va z66a Fi.o.form;obtain⟨s1,s2⟩:=HS;have HFt:=A0 (fun(W':World) (hW:W'=w1.setCell ⟨lb,n*4+0,none⟩ (.int .i64 ((l.calls:Int)+1)))=>(show Calls Tryz.prog 247 #[.pointer (some ⟨C.mb,0,none⟩),.pointer (some ⟨fb,0,none⟩)] W' (fun e w'=>e=.returned (.bool (Jc m ((m.vals.length:Nat)-((fo).bet.length:Nat)) (fo).bet))/\Below W'.heap.size W' w') by rw[hW,←A0t m (m.lots.set n ⟨l.calls+1,some (fo),l.fast,l.drops⟩)];exact A1t (m:={ m with lots:=m.lots.set n ⟨l.calls+1,some (fo),l.fast,l.drops⟩ }) s1.st s1.form hko hkl hv));have A7:=A0 s1;have Aa:Hid (A3 (dx D X) w _):=A4.o.trans (s2);clear s1 s2;generalize hz:Jc m ((m.vals.length:Nat)-((fo).bet.length:Nat)) (fo).bet=z at *;have HZ:=A0 hz;clear hz;go_wp2_with fail
   refine(HFt.o _ rfl).mono ?_;rintro e w3 ⟨rfl,Aj⟩;have hb3':Below (w1.setCell ⟨lb,n*4+0,none⟩ (.int .i64 ((l.calls:Int)+1))).heap.size (w1.setCell ⟨lb,n*4+0,none⟩ (.int .i64 ((l.calls:Int)+1))) w3:=Aj;have L3:=A7.o.same (A7.o.st.below hb3').1 rfl hb3'.block;have Av:Hid (A3 (dx D X) w w3):=Aa.o.trans ((A7.o.st.below hb3').2);have Ew:=A0 L3;clear Aj hb3' L3 HFt a0 a1 a2 a3 fz lblx lbmx g0 A8 He sa sn sc p3 hcc2 hDp hDb lp lh hlt ne1 ne2 ne3 HBd;have a0:=Ew.o.c0;have a1:=Ew.o.c1;have a2:=Ew.o.c2;have a3:=Ew.o.c3;have fz:=Ew.o.fz;have lblx:=Ew.o.lbl;have lbmx:=Ew.o.st.Au;obtain⟨g0,hprg,hdx⟩:=Ew.o.st.P7;obtain⟨A8,He,sa,sn,sc,p3,hcc2,hDp,hDb,lp,lh,hlt,hBd⟩:=Su hprg hf;have ne1:=Ew.o.ne.1;have ne2:=Ew.o.ne.2 _ (.inl hDp);have ne3:=Ew.o.ne.2 _ (.inl hDb);have HBd:=A0 hBd;clear hprg hdx hBd;obtain⟨fb',t1a,t1n,t1c,k2a,k2n,k2c,hpe,hDf,hfb,hfs,hfk⟩:=Ew.o.form;injection hpe with hpe;injection hpe with hpe;subst hpe;have HFB:Hid (L0 (D) w3 fb 0 (fo).slots (fo).steps t1a t1n t1c):=⟨hDf,A2 hfb 0 _ rfl,A2 hfb 1 _ rfl,hfs⟩;have lfb:=A5 hfb;have ne4:=Ew.o.ne.2 _ (.inl hDf);clear hfb hfs hfk;cases z
   ·have HSa:=Ew.o.set 1 (.pointer none) none ⟨l.calls+1,none,l.fast,l.drops⟩ z4va z66a rfl;have HSb:=HSa.1.set 3 (.int .i64 ((l.drops:Int)+1)) none ⟨l.calls+1,none,l.fast,l.drops+1⟩ z4va z66a rfl;have HSt:=A0 HSb.1.st;have HSd:Hid (A3 (dx D X) w _):=Av.o.trans (HSa.2.trans HSb.2);have HBq:=A0 ((HBd.o.set (fun g hg=>Ew.o.ne.2 g (.inl hg)) (o:=n*4+1) (.pointer none)).set (fun g hg=>Ew.o.ne.2 g (.inl hg)) (o:=n*4+3) (.int .i64 ((l.drops:Int)+1)));clear HSa HSb;go_wp2;go_ret;refine⟨D,⟨l.calls+1,none,l.fast,l.drops+1⟩,A8,n*4+2,f.slots,f.steps,sa,sn,sc,fun _ h=>h,?_,HSd.o,HBq.o,(hfit f (List.mem_of_getElem? hf)).1,rfl,?_⟩
    ·exact z31a
    ·unfold MS.body;rw[hl];dsimp only;rw[HTk.o];dsimp only;rw[hform];dsimp only;rw[if_neg (by rw[HZ.o];simp)];rfl
   ·have HSa:=Ew.o.set 2 (.int .i64 ((l.fast:Int)+1)) (some ⟨fb,0,none⟩) ⟨l.calls+1,some (fo),l.fast+1,l.drops⟩ z4va z66a Ew.o.form;have HSt:=A0 HSa.1.st;have HSd:Hid (A3 (dx D X) w _):=Av.o.trans (HSa.2);have HBq:=A0 (HFB.o.set (fun g hg=>Ew.o.ne.2 g (.inl hg)) (o:=n*4+2) (.int .i64 ((l.fast:Int)+1)));clear HSa;go_wp2;go_ret;refine⟨D,⟨l.calls+1,some (fo),l.fast+1,l.drops⟩,fb,0,_,_,t1a,t1n,t1c,fun _ h=>h,?_,HSd.o,HBq.o,hks,rfl,?_⟩
    ·exact z31a
    ·unfold MS.body;rw[hl];dsimp only;rw[HTk.o];dsimp only;rw[hform];dsimp only;rw[if_pos HZ.o];rfl
 ·obtain⟨hfn,haf⟩:=Aof htk;have HTk:=A0 htk;have hL1:=HL.o.same (HL.o.st.below A1).1 rfl A1.block;have Fb:=A0 hL1;have A4:Hid (A3 (dx D X) w w1):=(HL.o.st.below A1).2;obtain⟨ba,bc,ev,hbc,hbt⟩:=HB.o.below A1;obtain⟨g0c,hprg0,hdx0⟩:=hL1.st.P7;have b1:=hL1.st.Zp;rw[ev]at b1;obtain⟨g,o,rfl,hKg,lg,hcell⟩:=hbt z4va;obtain⟨q0,q1,kv,iv,q2,q3,rk,ri⟩:=hcell j hj;obtain⟨ka,kc,ek,_⟩:=id rk;obtain⟨ia,ic,ei,_⟩:=id ri;rw[show(ints bets[j].kinds).length=bets[j].kinds.length by simp[ints]]at ek;rw[show(ints bets[j].ints).length=bets[j].ints.length by simp[ints]]at ei;subst ek ei;have HNew:=A0 (Adh (w:=w1.drew) (hprg0.keep (E':=D) (fun g hg _=>⟨rfl,hg⟩)) (fun g hg=>(hdx0 g (.inl hg)).1) hfn hf (rk.keep (K':=X) (w':=w1.drew) (fun g hg _=>⟨rfl,hg⟩) (Nat.le_refl _)) (ri.keep (K':=X) (w':=w1.drew) (fun g hg _=>⟨rfl,hg⟩) (Nat.le_refl _)) hfit hst hN);rw[←Nat.add_assoc]at q1 q2 q3;have a0x:=hL1.c0;have fzx:=hL1.fz;have lbx:=hL1.lbl;have lbmy:=hL1.st.Au;have lpx:=(hdx0 _ (.inl (hprg0.choose_spec.choose_spec.choose_spec.choose_spec.choose_spec.choose_spec.choose_spec.1))).1;have hko:∀x∈(I0 C.P bets[j] f).bet,x.like.r=none:=fun x hx=>by
   simp only[I0,List.mem_map]at hx;obtain⟨i,_,rfl⟩:=hx;exact W4 _ i
  have hkl:(I0 C.P bets[j] f).bet.length<=1000:=by
   have:=(hfit f (List.mem_of_getElem? hf)).1;have:=(hfit f (List.mem_of_getElem? hf)).2.1;simp only[I0,List.length_map,List.length_range];omega
  have hks:(I0 C.P bets[j] f).slots<=1000:=(hfit f (List.mem_of_getElem? hf)).1;clear A1 htk HT hL1 a0 hbt hcell rk ri hprg0 hdx0;rw[hfn,haf]at HNew;go_wp2;go_region_law (refine Eo rfl 246 _ _ rfl #[.pointer (some ⟨C.pb,0,none⟩),.agg #[.int .i64 (n:Nat),.int .i64 (l.calls:Nat),.slice ka bets[j].kinds.length kc,.slice ia bets[j].ints.length ic]] z4xa HNew.o ?_;rintro e w2 ⟨fb0,E,rfl,hform2,hE,hb20⟩;refine⟨_,rfl,?_⟩;have hb2':Below w1.heap.size w1 w2:=Below.trans (b:=w1.drew) ⟨rfl,rfl,rfl,Nat.le_refl _,fun _ _=>rfl⟩ hb20;have hm3:C.Ms (fun g=>D g\/E g) X β w2 m:=((Fb.o.st.more hb2').Agc E (fun g hg=>.inr (hE g hg))).less (fun _ h=>.inl h) (fun _ _ _=>rfl) rfl;have L2:=Fb.o.same hm3 rfl hb2'.block;have Fi:=A0 L2;have HB2':Hid (A3 (dx D X) w w2):=A4.o.trans (Fb.o.st.below hb2').2;obtain⟨L4,k4⟩:=L2.set 1 (.pointer (some ⟨fb0,0,none⟩)) (some ⟨fb0,0,none⟩) ⟨l.calls,some (I0 C.P bets[j] f),l.fast,l.drops⟩ z4va z66a (hform2.keep (fun g hg _=>⟨rfl,.inr hg⟩));have HL4:=A0 L4;have Cn:Hid (A3 (dx D X) w (w2.setCell ⟨lb,n*4+1,none⟩ (.pointer (some ⟨fb0,0,none⟩)))):=HB2'.o.trans (k4.weak (fun g hg=>hg.imp (fun q=>Or.inl q) id));have a1z:=Fi.o.c1;have fzz:=Fi.o.fz;have lbz:=Fi.o.lbl;clear hm3 L2 L4 k4 hform2 hE hb2' hb20)
  all_goals
   have a0:=Fi.o.c0;have a1:=Fi.o.c1;have a2:=Fi.o.c2;have a3:=Fi.o.c3;have fz:=Fi.o.fz;have lblx:=Fi.o.lbl;have lbmx:=Fi.o.st.Au;obtain⟨g0,hprg,hdx⟩:=Fi.o.st.P7;obtain⟨A8,He,sa,sn,sc,p3,hcc2,hDp,hDb,lp,lh,hlt,hBd⟩:=Su hprg hf;have ne1:=Fi.o.ne.1;have ne2:=Fi.o.ne.2 _ (.inl hDp);have ne3:=Fi.o.ne.2 _ (.inl hDb);have HBd:=A0 hBd;clear hprg hdx hBd;obtain⟨fb,s1a,s1n,s1c,k1a,k1n,k1c,hpe,hDf,hfb,hfs,hfk⟩:=HL4.o.form;injection hpe with hpe;injection hpe with hpe;subst hpe;clear hDf hfb hfs hfk;have HS:=HL4.o.set 0 (.int .i64 ((l.calls:Int)+1)) (some ⟨fb0,0,none⟩) ⟨l.calls+1,some (I0 C.P bets[j] f),l.fast,l.drops⟩ z4va z66a HL4.o.form;obtain⟨s1,s2⟩:=HS;have HFt:=A0 (fun(W':World) (hW:W'=(w2.setCell ⟨lb,n*4+1,none⟩ (.pointer (some ⟨fb0,0,none⟩))).setCell ⟨lb,n*4+0,none⟩ (.int .i64 ((l.calls:Int)+1)))=>(show Calls Tryz.prog 247 #[.pointer (some ⟨C.mb,0,none⟩),.pointer (some ⟨fb0,0,none⟩)] W' (fun e w'=>e=.returned (.bool (Jc m ((m.vals.length:Nat)-((I0 C.P bets[j] f).bet.length:Nat)) (I0 C.P bets[j] f).bet))/\Below W'.heap.size W' w') by rw[hW,←A0t m (m.lots.set n ⟨l.calls+1,some (I0 C.P bets[j] f),l.fast,l.drops⟩)];exact A1t (m:={ m with lots:=m.lots.set n ⟨l.calls+1,some (I0 C.P bets[j] f),l.fast,l.drops⟩ }) (by have:=s1.st;simp only[List.set_set]at this;exact this) s1.form hko hkl hv));have A7:=A0 s1;have Aa:Hid (A3 (dx D X) w _):=Cn.o.trans ((s2).weak (fun g hg=>hg.imp (fun q=>Or.inl q) id));clear s1 s2;generalize hz:Jc m ((m.vals.length:Nat)-((I0 C.P bets[j] f).bet.length:Nat)) (I0 C.P bets[j] f).bet=z at *;have HZ:=A0 hz;clear hz;go_wp2_with fail
   refine(HFt.o _ rfl).mono ?_;rintro e w3 ⟨rfl,Aj⟩;have hb3':Below ((w2.setCell ⟨lb,n*4+1,none⟩ (.pointer (some ⟨fb0,0,none⟩))).setCell ⟨lb,n*4+0,none⟩ (.int .i64 ((l.calls:Int)+1))).heap.size ((w2.setCell ⟨lb,n*4+1,none⟩ (.pointer (some ⟨fb0,0,none⟩))).setCell ⟨lb,n*4+0,none⟩ (.int .i64 ((l.calls:Int)+1))) w3:=Aj;have L3:=A7.o.same (A7.o.st.below hb3').1 rfl hb3'.block;have Av:Hid (A3 (dx D X) w w3):=Aa.o.trans (((A7.o.st.below hb3').2).weak (fun g hg=>hg.imp (fun q=>Or.inl q) id));have Ew:=A0 L3;clear Aj hb3' L3 HFt a0 a1 a2 a3 fz lblx lbmx g0 A8 He sa sn sc p3 hcc2 hDp hDb lp lh hlt ne1 ne2 ne3 HBd;have a0:=Ew.o.c0;have a1:=Ew.o.c1;have a2:=Ew.o.c2;have a3:=Ew.o.c3;have fz:=Ew.o.fz;have lblx:=Ew.o.lbl;have lbmx:=Ew.o.st.Au;obtain⟨g0,hprg,hdx⟩:=Ew.o.st.P7;obtain⟨A8,He,sa,sn,sc,p3,hcc2,hDp,hDb,lp,lh,hlt,hBd⟩:=Su hprg hf;have ne1:=Ew.o.ne.1;have ne2:=Ew.o.ne.2 _ (.inl hDp);have ne3:=Ew.o.ne.2 _ (.inl hDb);have HBd:=A0 hBd;clear hprg hdx hBd;obtain⟨fb',t1a,t1n,t1c,k2a,k2n,k2c,hpe,hDf,hfb,hfs,hfk⟩:=Ew.o.form;injection hpe with hpe;injection hpe with hpe;subst hpe;have HFB:Hid (L0 (fun g=>D g\/E g) w3 fb0 0 (I0 C.P bets[j] f).slots (I0 C.P bets[j] f).steps t1a t1n t1c):=⟨hDf,A2 hfb 0 _ rfl,A2 hfb 1 _ rfl,hfs⟩;have lfb:=A5 hfb;have ne4:=Ew.o.ne.2 _ (.inl hDf);clear hfb hfs hfk;cases z
   ·have HSa:=Ew.o.set 1 (.pointer none) none ⟨l.calls+1,none,l.fast,l.drops⟩ z4va z66a rfl;have HSb:=HSa.1.set 3 (.int .i64 ((l.drops:Int)+1)) none ⟨l.calls+1,none,l.fast,l.drops+1⟩ z4va z66a rfl;have HSt:=A0 HSb.1.st;have HSd:Hid (A3 (dx D X) w _):=Av.o.trans ((HSa.2.trans HSb.2).weak (fun g hg=>hg.imp (fun q=>Or.inl q) id));have HBq:=A0 ((HBd.o.set (fun g hg=>Ew.o.ne.2 g (.inl hg)) (o:=n*4+1) (.pointer none)).set (fun g hg=>Ew.o.ne.2 g (.inl hg)) (o:=n*4+3) (.int .i64 ((l.drops:Int)+1)));clear HSa HSb;go_wp2;go_ret;refine⟨fun g=>D g\/E g,⟨l.calls+1,none,l.fast,l.drops+1⟩,A8,n*4+2,f.slots,f.steps,sa,sn,sc,fun _ h=>.inl h,?_,HSd.o,HBq.o,(hfit f (List.mem_of_getElem? hf)).1,rfl,?_⟩
    ·exact z31a
    ·unfold MS.body;rw[hl];dsimp only;rw[HTk.o];dsimp only;rw[if_neg (by rw[HZ.o];simp)];rfl
   ·have HSa:=Ew.o.set 2 (.int .i64 ((l.fast:Int)+1)) (some ⟨fb0,0,none⟩) ⟨l.calls+1,some (I0 C.P bets[j] f),l.fast+1,l.drops⟩ z4va z66a Ew.o.form;have HSt:=A0 HSa.1.st;have HSd:Hid (A3 (dx D X) w _):=Av.o.trans ((HSa.2).weak (fun g hg=>hg.imp (fun q=>Or.inl q) id));have HBq:=A0 (HFB.o.set (fun g hg=>Ew.o.ne.2 g (.inl hg)) (o:=n*4+2) (.int .i64 ((l.fast:Int)+1)));clear HSa;go_wp2;go_ret;refine⟨fun g=>D g\/E g,⟨l.calls+1,some (I0 C.P bets[j] f),l.fast+1,l.drops⟩,fb0,0,_,_,t1a,t1n,t1c,fun _ h=>.inl h,?_,HSd.o,HBq.o,hks,rfl,?_⟩
    ·exact z31a
    ·unfold MS.body;rw[hl];dsimp only;rw[HTk.o];dsimp only;rw[if_pos HZ.o];rfl
def MQ(C:MC)(D X:Nat->Prop)(β:Nat->Nat)(w:World)(m:MS)(r:Value)(e:Ending)(w':World):Prop:=e=.returned r/\(∃D':Nat->Prop,(∀g,D g->D' g)/\C.Ms D' X β w' m)/\A3 (dx D X) w w'
theorem MQ.of{r:Value}{e:Ending}(h:MP C D X β w m r e w'):MQ C D X β w m r e w':=⟨h.1,⟨D,fun _ h=>h,h.2.1⟩,h.2.2⟩
theorem A65(h:C.Ms D X β w m)(i:Ac)(hf:m.fuel=0):Calls Tryz.prog 159 #[.pointer (some ⟨C.mb,0,none⟩),Ab i] w (MP C D X β w (m.fail 8 i) (.tuple #[])):=by
 obtain⟨w0,Am,Ap,Af,Al,Aq,n0,n1,n2,n3,n4,n5,n6,n7,ln,lb,Bz⟩:=h.C1 i;clear h;have HSp:=A0 (A23 Ap.o i hf);unfold Ab at HSp;clear hf;unfold Ab;go_enter Tryz.func159,Tryz.ntmps159;go_wp2_with fail
 rw[←Am.o];refine HSp.o.mono ?_;rintro e w1 ⟨rfl,h1,k1⟩;have A7:=A0 h1.back;have A4:Hid (A3 (dx D X) w w1):=Af.o.trans (Ae k1);clear h1 k1;go_wp2;refine bodyPost_ret (v:=.tuple #[]) (by simp[results,Tryz.results159,go_sem]) rfl ?_;exact z3ja
theorem A64(h:C.Ms D X β w m)(i:Ac)(hf:m.fuel≠0)(hf2:m.fuel<=100000)(hd:m.calls.length=40):Calls Tryz.prog 159 #[.pointer (some ⟨C.mb,0,none⟩),Ab i] w (MP C D X β w ({ m with fuel:=m.fuel-1 }.fail 9 i) (.tuple #[])):=by
 obtain⟨w0,Am,Ap,Af,Al,Aq,n0,n1,n2,n3,n4,n5,n6,n7,ln,lb,Bz⟩:=h.C1 i;clear h;have HSp:=A0 (Uj Ap.o i hf hf2);unfold Ab at HSp;have td:(((m.calls.length:Nat):Int)==40)=true:=by rw[hd];rfl
 clear hf hf2 hd;unfold Ab;go_enter Tryz.func159,Tryz.ntmps159;go_wp2_with fail
 rw[←Am.o];refine HSp.o.mono ?_;rintro e w1 ⟨rfl,h1,k1⟩;have Bj:=h1.Au;have A7:=A0 h1;have A4:Hid (A3 (dx D X) w w1):=Af.o.trans (Ae k1);have Ad:=(k1.block _ Al.o).trans Aq.o;have Bo:=A0 Ad;clear n0 n1 n2 n3 n4 n5 n6 n7 ln;obtain⟨n0,n1,n2,n3,n4,n5,n6,n7,ln⟩:=B1 Ad;clear h1 k1 Ad;have HFl:=A0 A7.o.A0v;go_wp2_with fail
 refine HFl.o.mono ?_;rintro e w9 ⟨rfl,Dq⟩;rw[Dq];clear Dq w9;have B2:=A0 (fun(W:World) (hb:Below w1.heap.size w1 W)=>And.intro ((fun hs=>Gw hs 9 i) (A7.o.below hb).1) (A4.o.trans (Ae (A7.o.below hb).2)));unfold Ab at B2;go_wp2_with fail
 refine((B2.o _ z4ua).1).mono ?_;rintro e w2 ⟨rfl,h2,k2⟩;have Ai:=A0 h2.back;have Aa:Hid (A3 (dx D X) w w2):=(B2.o _ z4ua).2.trans (Ae k2);clear h2 k2;go_wp2;refine bodyPost_ret (v:=.tuple #[]) (by simp[results,Tryz.results159,go_sem]) rfl ?_;exact z38a
theorem A63(h:C.Ms D X β w m)(i:Ac)(hf:m.fuel≠0)(hf2:m.fuel<=100000)(hd:m.calls.length<40){j:Nat}(hj:i.arg=(j:Nat)){f:Fn}(hfn:C.P.fns[j]?=some f){l:Dv}(hl:m.lots[j]?=some l){bets:List Cx}(hb:Ib X w (.slice C.ba C.bn C.bc) bets)(hbl:bets.length<=1000)
  (hfit:∀f∈C.P.fns,No C.P.fns.length 1000 f) (hst:f.steps.length<=90000) (hN:C.P.fns.length<=1000000) (hfo:∀fo,l.form=some fo->Qc C.P.fns.length 1000 fo) (hv:m.vals.length<=80000) (hc:l.calls<=80000/\l.fast<=80000/\l.drops<=80000):Calls Tryz.prog 159 #[.pointer (some ⟨C.mb,0,none⟩),Ab i] w (MQ C D X β w (MS.body C.P bets j f { m with fuel:=m.fuel-1,calls:=m.calls++[m.now] }) (.tuple #[])):=by
 obtain⟨w0,Am,Ap,Af,Al,Aq,n0,n1,n2,n3,n4,n5,n6,n7,ln,lb,Bz⟩:=h.C1 i;clear h;rw[hj]at n1 Aq Am;have HSp:=A0 (Uj Ap.o i hf hf2);unfold Ab at HSp;rw[hj]at HSp;have td:(((m.calls.length:Nat):Int)==40)=false:=by rw[beq_eq_false_iff_ne];omega
 clear hf hf2;unfold Ab;rw[hj];have HJ:=A0 hj;clear hj;go_enter Tryz.func159,Tryz.ntmps159;go_wp2_with fail
 rw[←Am.o];refine HSp.o.mono ?_;rintro e w1 ⟨rfl,h1,k1⟩;have Bj:=h1.Au;have A7:=A0 h1;have A4:Hid (A3 (dx D X) w w1):=Af.o.trans (Ae k1);have Ad:=(k1.block _ Al.o).trans Aq.o;have Bo:=A0 Ad;clear n0 n1 n2 n3 n4 n5 n6 n7 ln;obtain⟨n0,n1,n2,n3,n4,n5,n6,n7,ln⟩:=B1 Ad;clear h1 k1 Ad;have HFl:=A0 A7.o.A0v;go_wp2_with fail
 refine HFl.o.mono ?_;rintro e w9 ⟨rfl,Dq⟩;rw[Dq];clear Dq w9;obtain⟨x1,E1,g6,g7,g8,gz⟩:=A7.o.Ul;have I4:=A0 E1;clear E1;have HPu:=A0 (A7.o.Hs.Adm x1 m.now (I4.o.keep (w':=w1.drew) (D':=D) (fun g hg _=>⟨rfl,hg⟩)) z4ya);unfold Sf at HPu;go_wp2;refine Ih 7 z4xa z4xa ?_;simp only[List.take_succ_cons,List.take_zero,List.drop_succ_cons,List.drop_zero];iterate 7 (refine Ez (fun K' hK'=>?_);go_simp;refine hK' _ ?_;clear hK' K')
 refine Ig ?_;go_wp2_with fail
 refine HPu.o.mono ?_;rintro e w2 ⟨rfl,h2,k2⟩;have Aa:Hid (A3 (dx D X) w w2):=A4.o.trans ((Dw _ w1 1).trans (Ae k2));have Aw:=(k2.block _ Al.o).trans Bo.o;clear n0 n1 n2 n3 n4 n5 n6 n7 ln g6 g7 g8 gz HPu;obtain⟨n0,n1,n2,n3,n4,n5,n6,n7,ln⟩:=B1 Aw;have E2:=h2.Au;obtain⟨g0,hprg,_⟩:=h2.P7;obtain⟨hbk,hck,_,_,_,p3,hcc3,hDp,hDb,lp,lh,hlt,e1,_,_,_⟩:=hprg.Ub hfn;have HBo:=A0 (Ag9 h2.Hs hfn (l:=l) hl ((hb.keep (K':=Cp X w) (w':=w2.drew) (fun g hg _=>⟨Aa.o.block g (.inr hg),.inl hg⟩) Aa.o.size)) hbl hfit hst hN (fun fo hfo'=>⟨(hfo fo hfo').2.2.2,(hfo fo hfo').2.1,(hfo fo hfo').1⟩) (by show m.vals.length<=100000;omega) hc);have hpar:f.params<=1000:=by have:=(hfit f (List.mem_of_getElem? hfn)).1;have:=(hfit f (List.mem_of_getElem? hfn)).2.1;omega
 have Ai:=A0 h2;clear h2 k2 Aw hprg hb;go_wp2;go_region_law (first
  | (refine Eo rfl 57 _ _ rfl #[.pointer (some ⟨C.mb,0,none⟩),.pointer (some ⟨bb,oo,none⟩),.int .i64 (f.params:Nat)] z4xa HBg.o ?_;rintro e w4 ⟨rfl,h4,k4⟩;refine⟨_,rfl,?_⟩;have Er:=A0 h4.back;have Cn:Hid (A3 (dx D X) w w4):=Av.o.trans (k4.weak (fun g hg=>hg.imp (fun q=>hDD g q) .inl));clear h4 k4)
  | (refine Eo rfl 204 _ _ rfl #[.pointer (some ⟨C.mb,0,none⟩),.int .i64 (j:Nat)] z4xa HBo.o ?_;rintro e w3 ⟨D',l',bb,oo,slots,steps,sa,sn,sc,hDD,h3,k3,hBd,hsl,rfl,heq⟩;refine⟨_,rfl,?_⟩;have HBg:=A0 (A1r h3 hBd (args:=f.params) z4va z4va (by show m.vals.length+slots<=90000;omega));have Av:Hid (A3 (dx D X) w w3):=Aa.o.trans ((Dw _ w2 1).trans (Ae k3));have HEq:=A0 heq;have lb3:=h3.Au;have e13:=(World.cell?_of_block (k3.block hbk (.inl hDb))).trans e1;have p33:=(World.cell?_of_block (k3.block C.pb (.inl hDp))).trans p3;obtain⟨g03,_,_⟩:=h3.P7;have lh3:=block_lt_of_cell e13;have lp3:=block_lt_of_cell p33;have Cy:=k3.block w.heap.size Al.o;have n13:=(World.cell?_of_block Cy).trans n1;have ln3:=block_lt_of_cell n13;clear h3 k3 hBd heq Cy))
 all_goals go_wp2
 all_goals go_end0
 all_goals refine⟨rfl,⟨D',hDD,?_⟩,Cn.o⟩
 all_goals rw[HEq.o]
 all_goals exact Er.o
end
section
open Go.RowKit
open Go.Deep (BT)
variable {C:MC} {D X:Nat->Prop} {w w':World} {m:MS} {β:Nat->Nat} {bets:List Cx}
theorem Yu(n:Nat):C8 n Ag:=by show(0:Nat)≠4;omega
theorem A4o{n:Nat}{l:List PV}(h:∀v∈l,C8 n v)(i:Nat):C8 n ((l[i]?).getD Ag):=by
 rcases Nat.lt_or_ge i l.length with q|q
 ·exact z2ma
 ·rw[List.getElem?_eq_none q];exact Yu n
theorem Yt{n:Nat}{l:List PV}(h:∀v∈l,C8 n v):C8 n (l.getLastD Ag):=by
 rw[List.getLastD_eq_getLast?,List.getLast?_eq_getElem?];exact A4o h _
theorem MC.Ms.vv(h:C.Ms D X β w m):∀v∈m.vals,C8 m.arr.length v:=by
 obtain⟨ρ,s,x,fv,ab,lp,h⟩:=h;exact h.vv.1
theorem MC.Ms.O9(h:C.Ms D X β w m):C8 m.arr.length m.top:=Yt h.vv
theorem MC.Ms.Pd(h:C.Ms D X β w m):C8 m.arr.length m.pop.top:=Yt (fun v hv=>h.vv v (List.dropLast_subset _ hv))
theorem MC.Ms.vat(h:C.Ms D X β w m)(i:Int):C8 m.arr.length (m.at' i):=by
 unfold MS.at';split
 ·exact Yu _
 ·exact A4o h.vv _
theorem Se{l:List PV}(h:∀v∈l,I2 v):I2 (l.getLastD Ag):=by
 rw[List.getLastD_eq_getLast?,List.getLast?_eq_getElem?];exact Sd h _
theorem S8:∀(args:Array Value) (W:World),(callFunc 212 args).run Tryz.prog W=.ok (.enter 212 args) W:=Go.Proofs.enters_of Tryz.func212 z4xa rfl
theorem Aco:∀(args:Array Value) (W:World),(callFunc 157 args).run Tryz.prog W=.ok (.enter 157 args) W:=Go.Proofs.enters_of Tryz.func157 z4xa rfl
theorem Wm:∀(args:Array Value) (W:World),(callFunc 159 args).run Tryz.prog W=.ok (.enter 159 args) W:=Go.Proofs.enters_of Tryz.func159 z4xa rfl
theorem M4:∀(args:Array Value) (W:World),(callFunc 221 args).run Tryz.prog W=.ok (.enter 221 args) W:=Go.Proofs.enters_of Tryz.func221 z4xa rfl
theorem Ua:∀(args:Array Value) (W:World),(callFunc 222 args).run Tryz.prog W=.ok (.enter 222 args) W:=Go.Proofs.enters_of Tryz.func222 z4xa rfl
theorem Acp:∀(args:Array Value) (W:World),(callFunc 148 args).run Tryz.prog W=.ok (.enter 148 args) W:=Go.Proofs.enters_of Tryz.func148 z4xa rfl
theorem Qo:∀(args:Array Value) (W:World),(callFunc 156 args).run Tryz.prog W=.ok (.enter 156 args) W:=Go.Proofs.enters_of Tryz.func156 z4xa rfl
theorem Wn:∀(args:Array Value) (W:World),(callFunc 216 args).run Tryz.prog W=.ok (.enter 216 args) W:=Go.Proofs.enters_of Tryz.func216 z4xa rfl
theorem Acq:∀(args:Array Value) (W:World),(callFunc 153 args).run Tryz.prog W=.ok (.enter 153 args) W:=Go.Proofs.enters_of Tryz.func153 z4xa rfl
theorem Acr:∀(args:Array Value) (W:World),(callFunc 219 args).run Tryz.prog W=.ok (.enter 219 args) W:=Go.Proofs.enters_of Tryz.func219 z4xa rfl
theorem A0h:∀(args:Array Value) (W:World),(callFunc 213 args).run Tryz.prog W=.ok (.enter 213 args) W:=Go.Proofs.enters_of Tryz.func213 z4xa rfl
theorem Acs:∀(args:Array Value) (W:World),(callFunc 154 args).run Tryz.prog W=.ok (.enter 154 args) W:=Go.Proofs.enters_of Tryz.func154 z4xa rfl
theorem A0i:∀(args:Array Value) (W:World),(callFunc 160 args).run Tryz.prog W=.ok (.enter 160 args) W:=Go.Proofs.enters_of Tryz.func160 z4xa rfl
theorem Acu:∀(args:Array Value) (W:World),(callFunc 149 args).run Tryz.prog W=.ok (.enter 149 args) W:=Go.Proofs.enters_of Tryz.func149 z4xa rfl
theorem A0l:∀(args:Array Value) (W:World),(callFunc 215 args).run Tryz.prog W=.ok (.enter 215 args) W:=Go.Proofs.enters_of Tryz.func215 z4xa rfl
theorem Wo:∀(args:Array Value) (W:World),(callFunc 218 args).run Tryz.prog W=.ok (.enter 218 args) W:=Go.Proofs.enters_of Tryz.func218 z4xa rfl
theorem Wp:∀(args:Array Value) (W:World),(callFunc 220 args).run Tryz.prog W=.ok (.enter 220 args) W:=Go.Proofs.enters_of Tryz.func220 z4xa rfl
theorem Wr:∀(args:Array Value) (W:World),(callFunc 217 args).run Tryz.prog W=.ok (.enter 217 args) W:=Go.Proofs.enters_of Tryz.func217 z4xa rfl
theorem Acw:∀(args:Array Value) (W:World),(callFunc 151 args).run Tryz.prog W=.ok (.enter 151 args) W:=Go.Proofs.enters_of Tryz.func151 z4xa rfl
theorem A0m:∀(args:Array Value) (W:World),(callFunc 214 args).run Tryz.prog W=.ok (.enter 214 args) W:=Go.Proofs.enters_of Tryz.func214 z4xa rfl
theorem Ws:∀(args:Array Value) (W:World),(callFunc 158 args).run Tryz.prog W=.ok (.enter 158 args) W:=Go.Proofs.enters_of Tryz.func158 z4xa rfl
theorem Oo:∀(args:Array Value) (W:World),(callFunc 155 args).run Tryz.prog W=.ok (.enter 155 args) W:=Go.Proofs.enters_of Tryz.func155 z4xa rfl
def MR(C:MC)(D X:Nat->Prop)(w:World)(m:MS)(e:Ending)(w':World):Prop:=∃β,MQ C D X β w m (.tuple #[]) e w'
def SA(C:MC)(D X:Nat->Prop)(w:World)(i:Ac)(m':MS):Prop:=∃k,(∀W:World,Calls Tryz.prog 100 #[.int .i64 (i.op:Nat)] W fun e w'=>e=.returned (.func (.func k) #[] #[])/\w'=W)/\(∀(args:Array Value) (W:World),(callFunc k args).run Tryz.prog W=.ok (.enter k args) W)/\Calls Tryz.prog k #[.pointer (some ⟨C.mb,0,none⟩),Ab i] w (MR C D X w m')
theorem SA.of{i:Ac}{m':MS}{k:FuncId}{o:Nat}(ho:i.op=o)(ha:∀W:World,Calls Tryz.prog 100 #[.int .i64 (o:Nat)] W fun e w'=>e=.returned (.func (.func k) #[] #[])/\w'=W)(he:∀(args:Array Value) (W:World),(callFunc k args).run Tryz.prog W=.ok (.enter k args) W)(h:Calls Tryz.prog k #[.pointer (some ⟨C.mb,0,none⟩),Ab i] w (MP C D X β w m' (.tuple #[]))):SA C D X w i m':=⟨k,by rw[ho];exact ha,he,h.mono (fun _ _ q=>⟨β,MQ.of q⟩)⟩
theorem Amj(h:C.Ms D X β w m)(i:Ac)(hf:Dx C.P i m)(ho:i.op=0):SA C D X w i (Ay C.P bets i m):=by
 have hn:m.vals.length+1<=100000:=by have:=hf.vals;omega
 have e:Ay C.P bets i m=m.push i.v:=by unfold Ay;rw[ho] <;> rfl
 rw[e];exact SA.of ho A66 Acp (aconst h i hf.ins.2.2.1 hf.ins.2.2.2.1 hn)
theorem Amk(h:C.Ms D X β w m)(i:Ac)(hf:Dx C.P i m)(ho:i.op=1):SA C D X w i (Ay C.P bets i m):=by
 have hn:m.vals.length+1<=100000:=by have:=hf.vals;omega
 have e:Ay C.P bets i m=m.push (m.at' (m.now.base+i.arg)):=by unfold Ay;rw[ho] <;> rfl
 rw[e];exact SA.of ho A67 Acu (A7m h i ⟨by have:=hf.base.1;omega,by have:=hf.base.2;omega⟩ ⟨by have:=hf.ins.1;omega,by have:=hf.ins.2.1;omega⟩ hn (h.vat _))
theorem An6(h:C.Ms D X β w m)(i:Ac)(hf:Dx C.P i m)(ho:i.op=3):SA C D X w i (Ay C.P bets i m):=by
 have hn:m.vals.length+1<=100000:=by have:=hf.vals;omega
 have e:Ay C.P bets i m=m.pop.put (m.now.base+i.arg) m.top:=by unfold Ay;rw[ho] <;> rfl
 rw[e];exact SA.of ho A6k Acw (A8f h i ⟨by have:=hf.base.1;omega,by have:=hf.base.2;omega⟩ ⟨by have:=hf.ins.1;omega,by have:=hf.ins.2.1;omega⟩ h.O9)
theorem Ano(h:C.Ms D X β w m)(i:Ac)(hf:Dx C.P i m)(ho:i.op=5):SA C D X w i (Ay C.P bets i m):=by
 have hn:m.vals.length+1<=100000:=by have:=hf.vals;omega
 have e:Ay C.P bets i m=m.pop:=by unfold Ay;rw[ho] <;> rfl
 rw[e];exact SA.of ho A6s Acq (A73 h i)
theorem Anp(h:C.Ms D X β w m)(i:Ac)(hf:Dx C.P i m)(ho:i.op=6):SA C D X w i (Ay C.P bets i m):=by
 have hn:m.vals.length+1<=100000:=by have:=hf.vals;omega
 have e:Ay C.P bets i m=m.jump i.arg:=by unfold Ay;rw[ho] <;> rfl
 rw[e];exact SA.of ho A6t Acs (A7d h i hf.ins.1)
theorem Anq(h:C.Ms D X β w m)(i:Ac)(hf:Dx C.P i m)(ho:i.op=7):SA C D X w i (Ay C.P bets i m):=by
 have hn:m.vals.length+1<=100000:=by have:=hf.vals;omega
 have e:Ay C.P bets i m=(if m.top.y then m.pop.Kh i (fun m'=>if m.top.k=1 then m' else m'.fail 5 i) else if m.top.k=1 then m.pop.jump i.arg else m.pop.fail 5 i):=by unfold Ay;rw[ho] <;> rfl
 rw[e];have hfu:m.fuel<=100000:=by have:=hf.fuel;omega
 cases hy:m.top.y
 ·rw[if_neg z50a];by_cases hk:m.top.k=1
  ·rw[if_pos hk];exact SA.of ho Ru Oo (A8a h i ho hk hy hf.ins.1)
  ·rw[if_neg hk];exact SA.of ho Ru Oo (A88 h i ho hk hy)
 ·rw[if_pos rfl];unfold MS.Kh;by_cases hz:m.fuel=0
  ·rw[if_pos (by exact hz)];exact SA.of ho Ru Oo (A8b h i ho hy hz)
  ·rw[if_neg (by exact hz)];by_cases hk:m.top.k=1
   ·simp only[if_pos hk];exact SA.of ho Ru Oo (A8c h i ho hk hy hz hfu)
   ·simp only[if_neg hk];exact SA.of ho Ru Oo (A89 h i ho hk hy hz hfu)
theorem Anr(h:C.Ms D X β w m)(i:Ac)(hf:Dx C.P i m)(ho:i.op=8):SA C D X w i (Ay C.P bets i m):=by
 have hn:m.vals.length+1<=100000:=by have:=hf.vals;omega
 have e:Ay C.P bets i m=(if m.top.k=1 then(if m.top.y then m.pop else m.pop.jump i.arg) else m.pop.fail 5 i):=by unfold Ay;rw[ho] <;> rfl
 rw[e];by_cases hk:m.top.k=1
 ·rw[if_pos hk];cases hy:m.top.y
  ·rw[if_neg z50a];exact SA.of ho Vv Oo (A8n h i ho hk hy hf.ins.1)
  ·rw[if_pos rfl];exact SA.of ho Vv Oo (A8o h i ho hk hy)
 ·rw[if_neg hk];exact SA.of ho Vv Oo (A8m h i ho hk)
theorem Ans(h:C.Ms D X β w m)(i:Ac)(hf:Dx C.P i m)(ho:i.op=9):SA C D X w i (Ay C.P bets i m):=by
 have hn:m.vals.length+1<=100000:=by have:=hf.vals;omega
 have e:Ay C.P bets i m=(if m.top.k=1 then(if m.top.y then m.pop else m.jump i.arg) else m.fail 5 i):=by unfold Ay;rw[ho] <;> rfl
 rw[e];by_cases hk:m.top.k=1
 ·rw[if_pos hk];cases hy:m.top.y
  ·rw[if_neg z50a];exact SA.of ho Vw Qo (A6y h i ho hk hy hf.ins.1)
  ·rw[if_pos rfl];exact SA.of ho Vw Qo (A6z h i ho hk hy)
 ·rw[if_neg hk];exact SA.of ho Vw Qo (Zh h i hk)
theorem Aml(h:C.Ms D X β w m)(i:Ac)(hf:Dx C.P i m)(ho:i.op=10):SA C D X w i (Ay C.P bets i m):=by
 have hn:m.vals.length+1<=100000:=by have:=hf.vals;omega
 have e:Ay C.P bets i m=(if m.top.k=1 then(if m.top.y then m.jump i.arg else m.pop) else m.fail 5 i):=by unfold Ay;rw[ho] <;> rfl
 rw[e];by_cases hk:m.top.k=1
 ·rw[if_pos hk];cases hy:m.top.y
  ·rw[if_neg z50a];exact SA.of ho Vn Qo (A6w h i ho hk hy)
  ·rw[if_pos rfl];exact SA.of ho Vn Qo (A6x h i ho hk hy hf.ins.1)
 ·rw[if_neg hk];exact SA.of ho Vn Qo (Zh h i hk)
theorem Amm(h:C.Ms D X β w m)(i:Ac)(hf:Dx C.P i m)(ho:i.op=11):SA C D X w i (Ay C.P bets i m):=by
 have hn:m.vals.length+1<=100000:=by have:=hf.vals;omega
 have e:Ay C.P bets i m=(if m.top.k=1 then m else m.fail 5 i):=by unfold Ay;rw[ho] <;> rfl
 rw[e];exact SA.of ho A68 Aco (A61 h i)
theorem Amn(h:C.Ms D X β w m)(i:Ac)(hf:Dx C.P i m)(ho:i.op=12):SA C D X w i (Ay C.P bets i m):=by
 have hn:m.vals.length+1<=100000:=by have:=hf.vals;omega
 have e:Ay C.P bets i m=(if m.both 3 then m.join i else m.ints i (fun a b m'=>m'.push (ofInt (wr (a+b))))):=by unfold Ay;rw[ho] <;> rfl
 rw[e];have t1:m.top.t.length<=100000:=by have:=(Se hf.str).1;unfold MS.top;omega
 have t2:m.pop.top.t.length<=100000:=Nat.le_trans (Se (fun v hv=>hf.str v (List.dropLast_subset _ hv))).1 z4va;cases h3:m.both 3
 ·rw[if_neg z50a];unfold MS.ints;cases h2:m.both 2
  ·rw[if_neg z50a];exact SA.of ho Tp S8 (A5w h i ho h3 h2)
  ·rw[if_pos rfl];exact SA.of ho Tp S8 (A60 h i ho h3 h2 hn)
 ·rw[if_pos rfl];unfold MS.join MS.two;dsimp only;by_cases hz:100<m.pop.top.t.length+m.top.t.length
  ·rw[if_pos hz];exact SA.of ho Tp S8 (A5y h i ho h3 t2 t1 hz)
  ·rw[if_neg hz];exact SA.of ho Tp S8 (A5z h i ho h3 z4va hn)
theorem Amo(h:C.Ms D X β w m)(i:Ac)(hf:Dx C.P i m)(ho:i.op=13):SA C D X w i (Ay C.P bets i m):=by
 have hn:m.vals.length+1<=100000:=by have:=hf.vals;omega
 have e:Ay C.P bets i m=m.two fun a b m'=>m'.push (ofInt (wr (a.n+b.n))):=by unfold Ay;rw[ho] <;> rfl
 rw[e];exact SA.of ho A69 S8 (A5x h i ho hn)
theorem Amp(h:C.Ms D X β w m)(i:Ac)(hf:Dx C.P i m)(ho:i.op=14):SA C D X w i (Ay C.P bets i m):=by
 have hn:m.vals.length+1<=100000:=by have:=hf.vals;omega
 have e:Ay C.P bets i m=m.join i:=by unfold Ay;rw[ho] <;> rfl
 rw[e];have t1:m.top.t.length<=100000:=by have:=(Se hf.str).1;unfold MS.top;omega
 have t2:m.pop.top.t.length<=100000:=Nat.le_trans (Se (fun v hv=>hf.str v (List.dropLast_subset _ hv))).1 z4va;unfold MS.join MS.two;dsimp only;by_cases hz:100<m.pop.top.t.length+m.top.t.length
 ·rw[if_pos hz];exact SA.of ho Z9 A0h (Zj h i t2 t1 hz)
 ·rw[if_neg hz];exact SA.of ho Z9 A0h (Zk h i z4va hn)
theorem Amq(h:C.Ms D X β w m)(i:Ac)(hf:Dx C.P i m)(ho:i.op=15):SA C D X w i (Ay C.P bets i m):=by
 have hn:m.vals.length+1<=100000:=by have:=hf.vals;omega
 have e:Ay C.P bets i m=m.ints i (fun a b m'=>m'.push (ofInt (wr (a-b)))):=by unfold Ay;rw[ho] <;> rfl
 rw[e];exact SA.of ho A6a A0m (A8h h i ho hn)
theorem Amr(h:C.Ms D X β w m)(i:Ac)(hf:Dx C.P i m)(ho:i.op=16):SA C D X w i (Ay C.P bets i m):=by
 have hn:m.vals.length+1<=100000:=by have:=hf.vals;omega
 have e:Ay C.P bets i m=m.two fun a b m'=>m'.push (ofInt (wr (a.n-b.n))):=by unfold Ay;rw[ho] <;> rfl
 rw[e];exact SA.of ho A6b A0m (A8i h i ho hn)
theorem Ams(h:C.Ms D X β w m)(i:Ac)(hf:Dx C.P i m)(ho:i.op=17):SA C D X w i (Ay C.P bets i m):=by
 have hn:m.vals.length+1<=100000:=by have:=hf.vals;omega
 have e:Ay C.P bets i m=m.ints i (fun a b m'=>m'.push (ofInt (wr (a*b)))):=by unfold Ay;rw[ho] <;> rfl
 rw[e];exact SA.of ho A6c A0l (A7p h i ho hn)
theorem Amt(h:C.Ms D X β w m)(i:Ac)(hf:Dx C.P i m)(ho:i.op=18):SA C D X w i (Ay C.P bets i m):=by
 have hn:m.vals.length+1<=100000:=by have:=hf.vals;omega
 have e:Ay C.P bets i m=m.two fun a b m'=>m'.push (ofInt (wr (a.n*b.n))):=by unfold Ay;rw[ho] <;> rfl
 rw[e];exact SA.of ho A6d A0l (A7q h i ho hn)
theorem Amu(h:C.Ms D X β w m)(i:Ac)(hf:Dx C.P i m)(ho:i.op=19):SA C D X w i (Ay C.P bets i m):=by
 have hn:m.vals.length+1<=100000:=by have:=hf.vals;omega
 have e:Ay C.P bets i m=m.ints i (fun a b m'=>if b=0 then m'.fail 6 i else m'.push (ofInt (wr (a.tdiv b)))):=by unfold Ay;rw[ho] <;> rfl
 rw[e];exact SA.of ho A6e Wn (A70 h i ho hn)
theorem Amw(h:C.Ms D X β w m)(i:Ac)(hf:Dx C.P i m)(ho:i.op=20):SA C D X w i (Ay C.P bets i m):=by
 have hn:m.vals.length+1<=100000:=by have:=hf.vals;omega
 have e:Ay C.P bets i m=m.two fun a b m'=>if b.n=0 then m'.fail 6 i else m'.push (ofInt (wr (a.n.tdiv b.n))):=by unfold Ay;rw[ho] <;> rfl
 rw[e];unfold MS.two;dsimp only;by_cases hz:m.top.n=0
 ·rw[if_pos hz];exact SA.of ho Za Wn (A72 h i ho hz)
 ·rw[if_neg hz];exact SA.of ho Za Wn (A71 h i ho hz hn)
theorem Amx(h:C.Ms D X β w m)(i:Ac)(hf:Dx C.P i m)(ho:i.op=21):SA C D X w i (Ay C.P bets i m):=by
 have hn:m.vals.length+1<=100000:=by have:=hf.vals;omega
 have e:Ay C.P bets i m=m.ints i (fun a b m'=>if b=0 then m'.fail 6 i else m'.push (ofInt (a.tmod b))):=by unfold Ay;rw[ho] <;> rfl
 rw[e];exact SA.of ho A6g Wr (A84 h i ho hn)
theorem Amy(h:C.Ms D X β w m)(i:Ac)(hf:Dx C.P i m)(ho:i.op=22):SA C D X w i (Ay C.P bets i m):=by
 have hn:m.vals.length+1<=100000:=by have:=hf.vals;omega
 have e:Ay C.P bets i m=m.two fun a b m'=>if b.n=0 then m'.fail 6 i else m'.push (ofInt (a.n.tmod b.n)):=by unfold Ay;rw[ho] <;> rfl
 rw[e];unfold MS.two;dsimp only;by_cases hz:m.top.n=0
 ·rw[if_pos hz];exact SA.of ho Zb Wr (A86 h i ho hz)
 ·rw[if_neg hz];exact SA.of ho Zb Wr (A85 h i ho hz hn)
theorem Amz(h:C.Ms D X β w m)(i:Ac)(hf:Dx C.P i m)(ho:i.op=23):SA C D X w i (Ay C.P bets i m):=by
 have hn:m.vals.length+1<=100000:=by have:=hf.vals;omega
 have e:Ay C.P bets i m=(if m.top.k=2 then m.pop.push (ofInt (wr (-m.top.n))) else m.fail 5 i):=by unfold Ay;rw[ho] <;> rfl
 rw[e];by_cases hk:m.top.k=2
 ·rw[if_pos hk];exact SA.of ho Zc Wo (A7t h i ho hk hn)
 ·rw[if_neg hk];exact SA.of ho Zc Wo (A7r h i ho hk)
theorem An0(h:C.Ms D X β w m)(i:Ac)(hf:Dx C.P i m)(ho:i.op=24):SA C D X w i (Ay C.P bets i m):=by
 have hn:m.vals.length+1<=100000:=by have:=hf.vals;omega
 have e:Ay C.P bets i m=m.pop.push (ofInt (wr (-m.top.n))):=by unfold Ay;rw[ho] <;> rfl
 rw[e];exact SA.of ho A6h Wo (A7s h i ho hn)
theorem An1(h:C.Ms D X β w m)(i:Ac)(hf:Dx C.P i m)(ho:i.op=25):SA C D X w i (Ay C.P bets i m):=by
 have hn:m.vals.length+1<=100000:=by have:=hf.vals;omega
 have e:Ay C.P bets i m=m.pop.pop.push (ofBool (m.pop.top.same m.top)):=by unfold Ay;rw[ho] <;> rfl
 rw[e];exact SA.of ho A6i Acr (Zi h i h.Pd h.O9 hn)
theorem An2(h:C.Ms D X β w m)(i:Ac)(hf:Dx C.P i m)(ho:i.op=26):SA C D X w i (Ay C.P bets i m):=by
 have hn:m.vals.length+1<=100000:=by have:=hf.vals;omega
 have e:Ay C.P bets i m=m.pop.pop.push (ofBool (!m.pop.top.same m.top)):=by unfold Ay;rw[ho] <;> rfl
 rw[e];exact SA.of ho A6j Wp (A7w h i ho h.Pd h.O9 hn)
theorem An3(h:C.Ms D X β w m)(i:Ac)(hf:Dx C.P i m)(ho:i.op=27):SA C D X w i (Ay C.P bets i m):=by
 have hn:m.vals.length+1<=100000:=by have:=hf.vals;omega
 have e:Ay C.P bets i m=(if m.top.k=1 then m.pop.push (ofBool (!m.top.y)) else m.pop.fail 5 i):=by unfold Ay;rw[ho] <;> rfl
 rw[e];by_cases hk:m.top.k=1
 ·rw[if_pos hk];exact SA.of ho Zd Wp (A7v h i ho hk hn)
 ·rw[if_neg hk];exact SA.of ho Zd Wp (A7u h i ho hk)
theorem An4(h:C.Ms D X β w m)(i:Ac)(hf:Dx C.P i m)(ho:i.op=28):SA C D X w i (Ay C.P bets i m):=by
 have hn:m.vals.length+1<=100000:=by have:=hf.vals;omega
 have e:Ay C.P bets i m=(if m.both 2||m.both 3 then m.two fun a b m'=>m'.push (ofBool (before b a)) else m.fail 5 i):=by unfold Ay;rw[ho] <;> rfl
 rw[e];cases h2:m.both 2
 ·cases h3:m.both 3
  ·rw[if_neg z50a];exact SA.of ho Vo M4 (Tz h i h2 h3)
  ·rw[if_pos z50a];exact SA.of ho Vo M4 (Aad h i ho h2 h3 hn)
 ·rw[if_pos z50a];exact SA.of ho Vo M4 (Aac h i ho h2 hn)
theorem An5(h:C.Ms D X β w m)(i:Ac)(hf:Dx C.P i m)(ho:i.op=29):SA C D X w i (Ay C.P bets i m):=by
 have hn:m.vals.length+1<=100000:=by have:=hf.vals;omega
 have e:Ay C.P bets i m=(if m.both 2||m.both 3 then m.two fun a b m'=>m'.push (ofBool (before a b)) else m.fail 5 i):=by unfold Ay;rw[ho] <;> rfl
 rw[e];cases h2:m.both 2
 ·cases h3:m.both 3
  ·rw[if_neg z50a];exact SA.of ho Vp M4 (Tz h i h2 h3)
  ·rw[if_pos z50a];exact SA.of ho Vp M4 (Aaj h i ho h2 h3 hn)
 ·rw[if_pos z50a];exact SA.of ho Vp M4 (Aai h i ho h2 hn)
theorem An7(h:C.Ms D X β w m)(i:Ac)(hf:Dx C.P i m)(ho:i.op=30):SA C D X w i (Ay C.P bets i m):=by
 have hn:m.vals.length+1<=100000:=by have:=hf.vals;omega
 have e:Ay C.P bets i m=(if m.both 2||m.both 3 then m.two fun a b m'=>m'.push (ofBool (!before a b)) else m.fail 5 i):=by unfold Ay;rw[ho] <;> rfl
 rw[e];cases h2:m.both 2
 ·cases h3:m.both 3
  ·rw[if_neg z50a];exact SA.of ho Vq M4 (Tz h i h2 h3)
  ·rw[if_pos z50a];exact SA.of ho Vq M4 (Aab h i ho h2 h3 hn)
 ·rw[if_pos z50a];exact SA.of ho Vq M4 (Aaa h i ho h2 hn)
theorem An8(h:C.Ms D X β w m)(i:Ac)(hf:Dx C.P i m)(ho:i.op=31):SA C D X w i (Ay C.P bets i m):=by
 have hn:m.vals.length+1<=100000:=by have:=hf.vals;omega
 have e:Ay C.P bets i m=(if m.both 2||m.both 3 then m.two fun a b m'=>m'.push (ofBool (!before b a)) else m.fail 5 i):=by unfold Ay;rw[ho] <;> rfl
 rw[e];cases h2:m.both 2
 ·cases h3:m.both 3
  ·rw[if_neg z50a];exact SA.of ho Vr M4 (Tz h i h2 h3)
  ·rw[if_pos z50a];exact SA.of ho Vr M4 (Aag h i ho h2 h3 hn)
 ·rw[if_pos z50a];exact SA.of ho Vr M4 (Aaf h i ho h2 hn)
theorem An9(h:C.Ms D X β w m)(i:Ac)(hf:Dx C.P i m)(ho:i.op=32):SA C D X w i (Ay C.P bets i m):=by
 have hn:m.vals.length+1<=100000:=by have:=hf.vals;omega
 have e:Ay C.P bets i m=m.two fun a b m'=>m'.push (ofBool (decide (b.n<a.n))):=by unfold Ay;rw[ho] <;> rfl
 rw[e];exact SA.of ho A6l Ua (A7b h i ho hn)
theorem Ana(h:C.Ms D X β w m)(i:Ac)(hf:Dx C.P i m)(ho:i.op=33):SA C D X w i (Ay C.P bets i m):=by
 have hn:m.vals.length+1<=100000:=by have:=hf.vals;omega
 have e:Ay C.P bets i m=m.two fun a b m'=>m'.push (ofBool (decide (a.n<b.n))):=by unfold Ay;rw[ho] <;> rfl
 rw[e];exact SA.of ho A6m Ua (A7o h i ho hn)
theorem Anb(h:C.Ms D X β w m)(i:Ac)(hf:Dx C.P i m)(ho:i.op=34):SA C D X w i (Ay C.P bets i m):=by
 have hn:m.vals.length+1<=100000:=by have:=hf.vals;omega
 have e:Ay C.P bets i m=m.two fun a b m'=>m'.push (ofBool (decide (b.n<=a.n))):=by unfold Ay;rw[ho] <;> rfl
 rw[e];exact SA.of ho A6n Ua (A7a h i ho hn)
theorem Anc(h:C.Ms D X β w m)(i:Ac)(hf:Dx C.P i m)(ho:i.op=35):SA C D X w i (Ay C.P bets i m):=by
 have hn:m.vals.length+1<=100000:=by have:=hf.vals;omega
 have e:Ay C.P bets i m=m.two fun a b m'=>m'.push (ofBool (decide (a.n<=b.n))):=by unfold Ay;rw[ho] <;> rfl
 rw[e];exact SA.of ho A6o Ua (A7h h i ho hn)
theorem Anm(h:C.Ms D X β w m)(i:Ac)(hf:Dx C.P i m)(ho:i.op=43):SA C D X w i (Ay C.P bets i m):=by
 have hn:m.vals.length+1<=100000:=by have:=hf.vals;omega
 have e:Ay C.P bets i m={ (m.cut m.now.base).push Ag with now:=m.calls.getLastD ⟨[],0,0⟩,calls:=m.calls.dropLast }:=by unfold Ay;rw[ho] <;> rfl
 rw[e];exact SA.of ho A6q A0i (A7x h i ho hn)
theorem Ann(h:C.Ms D X β w m)(i:Ac)(hf:Dx C.P i m)(ho:i.op=44):SA C D X w i (Ay C.P bets i m):=by
 have hn:m.vals.length+1<=100000:=by have:=hf.vals;omega
 have e:Ay C.P bets i m={ (m.pop.cut m.now.base).push m.top with now:=m.calls.getLastD ⟨[],0,0⟩,calls:=m.calls.dropLast }:=by unfold Ay;rw[ho] <;> rfl
 rw[e];exact SA.of ho A6r A0i (A87 h i ho h.O9 hn)
theorem Ank(h:C.Ms D X β w m)(i:Ac)(hf:Dx C.P i m)(ht:G3 w)(hD:D K0)(ho:i.op=41):SA C D X w i (Ay C.P bets i m):=by
 have hn:m.vals.length+1<=100000:=by have:=hf.vals;omega
 have e:Ay C.P bets i m=m.Mj i:=by unfold Ay;rw[ho] <;> rfl
 rw[e];have hft:Tl m.top:=by
  have:=Se hf.str;exact⟨hf.nice.1 ho,this.2,by have:=this.1;unfold MS.top;omega⟩
 unfold MS.Mj;by_cases hz:500<(G1 m.arr 4 [] m.top).length
 ·rw[if_pos (.inl hz)];exact SA.of ho Vt Ws (A8j h i hft ht hD hz)
 ·by_cases hq:m.out.length=100
  ·rw[if_pos (.inr hq)];exact SA.of ho Vt Ws (A8k h i hft ht hD z4va hq)
  ·rw[if_neg z4va];exact SA.of ho Vt Ws (A8l h i hft ht hD z4va (by have:=hf.out;omega))
theorem Anl(h:C.Ms D X β w m)(i:Ac)(hf:Dx C.P i m)(hb:Ib X w (.slice C.ba C.bn C.bc) bets)(hbl:bets.length<=1000)(hst:∀f∈C.P.fns,f.steps.length<=90000)(hN:C.P.fns.length<=1000000)(ho:i.op=42):SA C D X w i (Ay C.P bets i m):=by
 have hfu:m.fuel<=100000:=by have:=hf.fuel;omega
 have hlt:=hf.ins.2.2.2.2.2.1 ho;have hfn:=List.getElem?_eq_getElem hlt;have hll:i.arg.toNat<m.lots.length:=by rw[hf.lotn];exact hlt
 have hl:=List.getElem?_eq_getElem hll;by_cases hz:m.fuel=0
 ·have e:Ay C.P bets i m=m.fail 8 i:=by
   unfold Ay;rw[ho];show MS.Kh _ _ _=_;unfold MS.Kh;rw[if_pos hz]
  rw[e];exact SA.of ho Vu Wm (A65 h i hz)
 by_cases hd:m.calls.length=40
 ·have e:Ay C.P bets i m={ m with fuel:=m.fuel-1 }.fail 9 i:=by
   unfold Ay;rw[ho];show MS.Kh _ _ _=_;unfold MS.Kh;rw[if_neg hz];dsimp only;rw[if_pos hd]
  rw[e];exact SA.of ho Vu Wm (A64 h i hz hfu hd)
 ·rw[Z8 m i ho hz hd hfn];have hm:=List.getElem_mem hlt;refine⟨_,by rw[ho];exact Vu,Wm,(A63 h i hz hfu (by have:=hf.depth;omega) (j:=i.arg.toNat) (by have:=hf.ins.1;omega) hfn hl hb hbl hf.fns (hst _ hm) hN (fun fo hfo=>hf.lots _ (List.getElem_mem hll) fo hfo) hf.vals (hf.lotc _ (List.getElem_mem hll))).mono (fun _ _ q=>⟨β,q⟩)⟩
end
section
set_option maxRecDepth 100000
open Go.RowKit
open Go.Deep (BT)
variable {C:MC} {D X:Nat->Prop} {w w':World} {m:MS} {β:Nat->Nat}
theorem MC.Ms.X5(h:C.Ms D X β w m){k:Nat}(hk:k<m.gl.length):∃g c,w.cell? ⟨C.mb,3,none⟩=some (.slice (some ⟨g,0,none⟩) m.gl.length c)/\g<w.heap.size/\g≠C.mb/\(∀q,dx D X q->q≠g)/\(∀o,w.frozen? ⟨g,o,none⟩=false)/\w.cell? ⟨g,k*5,none⟩=some (.int .i64 (m.gl[k].k:Nat))/\w.cell? ⟨g,k*5+1,none⟩=some (.bool m.gl[k].y)/\w.cell? ⟨g,k*5+2,none⟩=some (.int .i64 m.gl[k].n)/\w.cell? ⟨g,k*5+3,none⟩=some (.string ⟨m.gl[k].t.toArray⟩)/\w.cell? ⟨g,k*5+4,none⟩=some (.pointer (Bk β m.gl[k])):=by
 obtain⟨ρ,s,x,fv,ab,lp,hv⟩:=h;obtain⟨g,e,_,hc,lg,hcell⟩:=Fo hv.gl z4va;have hn:s.gn=m.gl.length:=(C9 hv.gl).1;have c3:=A2 hv.cell 3 (.slice s.ga s.gn s.gc) rfl;have ho:=hv.glo g (by rw[e];rfl);have hat:∀j u,(C7 β m.gl[k])[j]?=some u->j<5->w.cell? ⟨g,k*5+j,none⟩=some u:=fun j u hu hj=>hcell (k*5+j) u ((D1 (f:=C7 β) (sz:=5) (fun _=>rfl) m.gl k j hk hj).trans hu);rw[e,hn]at c3;obtain⟨_,h1|⟨g',cap,cur,hv',_,hg',_⟩⟩:=hv.gl
 ·rw[e]at h1;cases h1.1
 ·rw[e]at hv';injection hv' with e1 _ _;injection e1 with e1;injection e1 with e1 _ _;subst e1;exact⟨g,s.gc,c3,lg,(fun q=>by rw[q,hv.one.1]at ho;cases ho),(fun q hq e=>by have:=(hv.prot q hq).2;rw[e,ho]at this;cases this),Bd hg',hat 0 _ rfl z4va,hat 1 _ rfl z4va,hat 2 _ rfl z4va,hat 3 _ rfl z4va,hat 4 _ rfl z4va⟩
theorem A7n(h:C.Ms D X β w m)(i:Ac){k:Nat}(ha:i.arg=(k:Nat))(hg:k<m.gl.length)(hn:m.vals.length+1<=100000)(hv:C8 m.arr.length m.gl[k]):Calls Tryz.prog 150 #[.pointer (some ⟨C.mb,0,none⟩),Ab i] w (MP C D X β w (m.push m.gl[k]) (.tuple #[])):=by
 obtain⟨w0,Am,Ap,Af,Al,Aq,n0,n1,n2,n3,n4,n5,n6,n7,ln,lb,Bz⟩:=h.C1 i;clear h;obtain⟨g,c,c3,lg,_,_,_,e0,e1,e2,e3,e4⟩:=Ap.o.X5 hg;have HP:=A0 ((Ap.o.Hs).push m.gl[k] hv hn);unfold Az at HP;clear hv;generalize m.gl[k]=u at *;rw[ha]at n1;have t0:(0:Int)<=(k:Int):=by omega
 have t1:(k:Int)<(m.gl.length:Int):=by omega
 unfold Ab;rw[ha]at Am Aq ⊢;clear ha;go_enter Tryz.func150,Tryz.ntmps150;go_wp2;rw[←Am.o];refine Ih 11 z4xa z4xa ?_;simp only[List.take_succ_cons,List.take_zero,List.drop_succ_cons,List.drop_zero];iterate 11 (refine Ez (fun K' hK'=>?_);go_simp;refine hK' _ ?_;clear hK' K')
 exact z21a
theorem MC.Ms.Ahm(h:C.Ms D X β w m){v3:Value}(h3:w.cell? ⟨C.mb,3,none⟩=some v3):Calls Tryz.prog 197 #[.pointer (some ⟨C.mb,4,none⟩)] w fun e w'=>MP C D X β w m.pop (Az β m.top) e w'/\w'.cell? ⟨C.mb,3,none⟩=some v3:=by
 obtain⟨ρ,s,x,fv,ab,lp,h⟩:=h;have c3:=(A2 h.cell 3 (.slice s.ga s.gn s.gc) rfl).symm.trans h3;refine(A4t h.Ma z5oa z5xa m.top rfl).mono ?_;rintro e w1 ⟨rfl,hp⟩;have hq:=h.We hp;rw[Yl]at hq;refine⟨⟨rfl,hq⟩,?_⟩;rw[←c3];exact A2 hp.1.blk 3 _ z5xa
theorem MC.Ms.Aid(h:C.Ms D X β w m){k g c:Nat}(hk:k<m.gl.length)(hc:w.cell? ⟨C.mb,3,none⟩=some (.slice (some ⟨g,0,none⟩) m.gl.length c))(v:PV)(hv:C8 m.arr.length v):C.Ms D X β (w.setCells g (k*5) (C7 β v)) { m with gl:=m.gl.set k v }/\A3 (dx D X) w (w.setCells g (k*5) (C7 β v)):=by
 obtain⟨ρ,s,x,fv,ab,lp,h⟩:=h;have c3:=(A2 h.cell 3 (.slice s.ga s.gn s.gc) rfl).symm.trans hc;injection c3 with c3;injection c3 with e1 e2 e3;have ho:=h.glo g (by rw[e1];rfl);have hgl:=h.gl;rw[e1,e2,e3]at hgl;have hne:g≠C.mb:=fun q=>by rw[q,h.one.1]at ho;cases ho
 obtain⟨f1,f2,f3,f4,f5⟩:=Kv g (C7 β v) (k*5) w;have hch:G9 3 ρ w (w.setCells g (k*5) (C7 β v)):=⟨f1,f2,f3,Nat.le_of_eq f4.symm,fun q _ h1 h2=>f5 q (fun e=>h2 (by rw[e];exact ho))⟩;have hput:=Xt (f:=C7 β) (sz:=5) hgl (fun _=>rfl) k hk v;refine⟨⟨_,{ s with ga:=some ⟨g,0,none⟩,gn:=(m.gl.set k v).length,gc:=c },x,fv,ab,lp,h.Yc hch ?_ hput ?_ h.now ?_⟩,h.F7 hch z4va⟩
 ·rw[f5 _ (fun e=>hne e.symm),h.cell,List.length_set,←e1,←e2,←e3]
 ·intro q hq;left;rw[e1];exact hq
 ·intro u hu;rcases List.mem_or_eq_of_mem_set hu with q|q
  ·exact h.vv.2.1 u q
  ·rw[q];exact hv
theorem Am3{w:World}{a:Addr}{g g' n n' c c':Nat}(h:w.cell? a=some (.slice (some ⟨g,0,none⟩) n c))(h':w.cell? a=some (.slice (some ⟨g',0,none⟩) n' c')):g'=g:=by
 rw[h]at h';injection h' with h';injection h' with h' _ _;injection h' with h';injection h' with h' _ _;exact h'.symm
theorem A13{w:World}{g q o0 o1 o2 o3 o4:Nat}(v0 v1 v2 v3 v4:Value)(h:q≠g):(((((w.setCell ⟨g,o0,none⟩ v0).setCell ⟨g,o1,none⟩ v1).setCell ⟨g,o2,none⟩ v2).setCell ⟨g,o3,none⟩ v3).setCell ⟨g,o4,none⟩ v4).heap[q]?=w.heap[q]?:=
 ((((Below.heap_setCell _ _ _ _ h).trans (Below.heap_setCell _ _ _ _ h)).trans (Below.heap_setCell _ _ _ _ h)).trans (Below.heap_setCell _ _ _ _ h)).trans (Below.heap_setCell _ _ _ _ h)
theorem Adw{w:World}{g o0 o1 o2 o3 o4:Nat}{v0 v1 v2 v3 v4:Value}:(((((w.setCell ⟨g,o0,none⟩ v0).setCell ⟨g,o1,none⟩ v1).setCell ⟨g,o2,none⟩ v2).setCell ⟨g,o3,none⟩ v3).setCell ⟨g,o4,none⟩ v4).heap.size=w.heap.size:=by simp
theorem Wy(w:World)(g o:Nat)(v:PV)(β:Nat->Nat):w.setCells g o (C7 β v)=((((w.setCell ⟨g,o,none⟩ (.int .i64 (v.k:Nat))).setCell ⟨g,o+1,none⟩ (.bool v.y)).setCell ⟨g,o+2,none⟩ (.int .i64 v.n)).setCell ⟨g,o+3,none⟩ (.string ⟨v.t.toArray⟩)).setCell ⟨g,o+4,none⟩ (.pointer (Bk β v)):=rfl
theorem A8g(h:C.Ms D X β w m)(i:Ac){k:Nat}(ha:i.arg=(k:Nat))(hg:k<m.gl.length)(hv:C8 m.arr.length m.top):Calls Tryz.prog 152 #[.pointer (some ⟨C.mb,0,none⟩),Ab i] w (MP C D X β w { m.pop with gl:=m.gl.set k m.top } (.tuple #[])):=by
 obtain⟨w0,Am,Ap,Af,Al,Aq,n0,n1,n2,n3,n4,n5,n6,n7,ln,lb,Bz⟩:=h.C1 i;clear h;obtain⟨g,c,c3,_⟩:=Ap.o.X5 hg;have HPr:=A0 (Ap.o.Hs.Ahm (v3:=.slice (some ⟨g,0,none⟩) m.gl.length c) c3);have HG:=A0 (fun(W:World) (hs:C.Ms D (Cp X w) β W m.pop)=>hs.X5 (k:=k) hg);have HU:=A0 (fun(W:World) (hs:C.Ms D (Cp X w) β W m.pop) (hc:W.cell? ⟨C.mb,3,none⟩=some (.slice (some ⟨g,0,none⟩) m.gl.length c))=>hs.Aid (k:=k) hg hc m.top hv);rw[ha]at n1;have t0:(0:Int)<=(k:Int):=by omega
 have t1:(k:Int)<(m.gl.length:Int):=by omega
 unfold Ab;rw[ha]at Am Aq ⊢;unfold Az at HPr;clear hv;generalize hu9:m.top=u at *;clear ha hu9;go_enter Tryz.func152,Tryz.ntmps152;go_wp2;rw[←Am.o];go_region_held3 (fun V:World=>C.mb<V.heap.size/\w.heap.size<V.heap.size/\V.cell? ⟨C.mb,3,none⟩=some (.slice (some ⟨g,0,none⟩) m.gl.length c)/\V.cell? ⟨w.heap.size,1,none⟩=some (.int .i64 (k:Int))) (first|(rw[Adw];exact⟨Bj,Io,(World.cell?_of_block (A13 _ _ _ _ _ (Ne.symm ng1))).trans c31,(World.cell?_of_block (A13 _ _ _ _ _ pg)).trans n11⟩)|exact⟨Bj,Io,c31,n11⟩|exact⟨Bz,ln,c3,n1⟩) (first|(go_at_call 197;refine HPr.o.mono ?_;rintro e w1 ⟨⟨rfl,h1,k1⟩,c31⟩;have Bj:=h1.Au;have Ad:=(k1.block _ Al.o).trans Aq.o;have n11:=A2 Ad 1 _ rfl;have Io:=A5 Ad;obtain⟨g',c',c3',lg1,ng1,pg1,fg1,e0,e1,e2,e3,e4⟩:=HG.o w1 h1;have hgg:=Am3 c31 c3';have pg:=pg1 _ Al.o;rw[hgg]at lg1 ng1 pg fg1 e0 e1 e2 e3 e4;clear c3' hgg pg1;have HU1:=A0 (HU.o w1 h1 c31);have A4:Hid (A3 (dx D X) w w1):=Af.o.trans ((Dw _ w0 1).trans (Ae k1));clear h1 k1 Ad))
 go_wp2;go_end0;rw[←Wy];exact⟨rfl,HU1.o.1.back,A4.o.trans (Ae HU1.o.2)⟩
theorem MC.Ms.Aic(h:C.Ms D X β w m){r k g c:Nat}(hr:r<m.arr.length)(hk:k<m.arr[r].length)(hc:w.cell? ⟨β r,0,none⟩=some (.slice (some ⟨g,0,none⟩) m.arr[r].length c))(v:PV)(hv:C8 m.arr.length v):C.Ms D X β (w.setCells g (k*5) (C7 β v)) { m with arr:=m.arr.set r (m.arr[r].set k v) }/\A3 (dx D X) w (w.setCells g (k*5) (C7 β v)):=by
 obtain⟨ρ,s,x,fv,ab,lp,h⟩:=h;have hl:=h.arr.len;obtain⟨a1,a2,a3,a4⟩:=h.arr.at' r z4va hr;have c0:=(A2 a1 0 _ rfl).symm.trans hc;have c1:Lh (ab[r]'z4va)=.slice (some ⟨g,0,none⟩) m.arr[r].length c:=by injection c0
 rw[c1]at a2;have hg:=a4 g (by rw[c1];rfl);obtain⟨f1,f2,f3,f4,f5⟩:=Kv g (C7 β v) (k*5) w;have hput:=Xt (f:=C7 β) (sz:=5) a2 (fun _=>rfl) k hk v;have hne:β r≠g:=fun e=>by rw[e,hg]at a3;omega
 have hs:(m.arr[r].set k v).length=m.arr[r].length:=by simp
 have hq:=h.A3s (w':=w.setCells g (k*5) (C7 β v)) hr f1 f2 f3 (Nat.le_of_eq f4.symm) (fun q _ _ h8=>f5 q (fun e=>h8 (by rw[e];exact hg))) (nb:=(some ⟨g,0,none⟩,(m.arr[r].set k v).length,c)) (l:=m.arr[r].set k v) (by rw[f5 _ hne,a1,c1];unfold Lh;rw[hs]) hput (fun q hq=>.inl (by rw[c1];exact hq)) (fun u hu=>by
  rcases List.mem_or_eq_of_mem_set hu with q|q
  ·exact h.vv.2.2 _ (List.getElem_mem hr) u q
  ·rw[q];exact hv)
 exact⟨⟨_,s,x,fv,_,lp,hq.1⟩,hq.2⟩
theorem A8e(h:C.Ms D X β w m)(i:Ac)(Gr:m.pop.pop.top.k≠4):Calls Tryz.prog 165 #[.pointer (some ⟨C.mb,0,none⟩),Ab i] w (MP C D X β w (m.pop.pop.pop.fail 5 i) (.tuple #[])):=by
 obtain⟨w0,Am,Ap,Af,Al,Aq,n0,n1,n2,n3,n4,n5,n6,n7,ln,lb,Bz⟩:=h.C1 i;clear h;have HP:=A0 Ap.o.pop;have t4:(((m.pop.pop.top.k:Nat):Int) !=4)=true:=by rw[bne_iff_ne];omega
 clear Gr;generalize m.top=v at *;unfold Ab;go_enter Tryz.func165,Tryz.ntmps165;go_wp2_with fail
 rw[←Am.o];refine HP.o.mono ?_;rintro e w1 ⟨rfl,h1,k1⟩;obtain⟨h1e,be1,E1⟩:=h1.enter (.cells #[.int .i64 (v.k:Nat),.bool v.y,.int .i64 v.n,.string ⟨v.t.toArray⟩,.pointer (Bk β v)] 225);have G5:=heap_alloc_new w1 (.cells #[.int .i64 (v.k:Nat),.bool v.y,.int .i64 v.n,.string ⟨v.t.toArray⟩,.pointer (Bk β v)] 225);obtain⟨wa,hwa⟩:∃wa,wa=w1.alloc (.cells #[.int .i64 (v.k:Nat),.bool v.y,.int .i64 v.n,.string ⟨v.t.toArray⟩,.pointer (Bk β v)] 225):=⟨_,rfl⟩;rw[←hwa]at h1e be1 G5;have HWa:=A0 hwa;have Bj:=h1.Au;have HT:=A0 (Eh h1e);generalize m.pop.top=p at *;generalize m.pop.pop.top=u at *;have hxi:dx D (Cp (Cp X w) w1) w.heap.size:=Al.o.imp id (fun q=>.inl q);have hia:=(be1.block _ Al.o).trans ((k1.block _ Al.o).trans Aq.o);have A4:Hid (A3 (dx D X) w wa):=(Af.o.trans (Ae k1)).trans (Ae be1);have lba:=h1e.Au;clear hwa h1 k1 h1e be1 HP n0 n1 n2 n3 n4 n5 n6 n7 ln;obtain⟨n0,n1,n2,n3,n4,n5,n6,n7,ln⟩:=B1 hia;unfold Az;unfold Az at HT;go_wp2_with fail
 rw[←HWa.o];go_wp2_with fail
 refine HT.o.mono ?_;rintro e w2 ⟨rfl,h2,k2⟩;have Aw:=(k2.block _ hxi).trans hia;have Ft:=(k2.block _ E1).trans G5;have Aa:Hid (A3 (dx D X) w w2):=A4.o.trans (Ae (Ae k2));have Ai:=A0 h2;have E2:=h2.Au;clear h2 k2 hia G5 HT n0 n1 n2 n3 n4 n5 n6 n7 ln;obtain⟨n0,n1,n2,n3,n4,n5,n6,n7,ln⟩:=B1 Aw;have HF:=A0 (fun(V:World) (hb:Below w2.heap.size w2 V)=>And.intro (Gw (Ai.o.below hb).1 5 i) (Aa.o.trans (Ae (Ae (Ai.o.below hb).2))));unfold Ab at HF;go_wp2_with fail
 refine((HF.o _ z4ua).1).mono ?_;rintro e w3 ⟨rfl,h3,k3⟩;have Bc:=A0 h3.back.back;have Av:Hid (A3 (dx D X) w w3):=(HF.o _ z4ua).2.trans (Ae (Ae k3));clear h3 k3;go_wp2;refine bodyPost_ret (v:=.tuple #[]) (by simp[results,Tryz.results165,go_sem]) rfl ?_;exact z4ra
theorem Tr(h:C.Ms D X β w m)(i:Ac)(Gr:m.pop.pop.top.k=4){m':MS}(hp:∀X' W,C.Ms D X' β W m.pop.pop.pop->Calls Tryz.prog 211 #[.pointer (some ⟨C.mb,0,none⟩),Az β m.pop.pop.top,Az β m.pop.top,Ab i] W (MP C D X' β W m' (.bool false))):Calls Tryz.prog 165 #[.pointer (some ⟨C.mb,0,none⟩),Ab i] w (MP C D X β w m' (.tuple #[])):=by
 obtain⟨w0,Am,Ap,Af,Al,Aq,n0,n1,n2,n3,n4,n5,n6,n7,ln,lb,Bz⟩:=h.C1 i;clear h;have HP:=A0 Ap.o.pop;have t4:(((m.pop.pop.top.k:Nat):Int) !=4)=false:=by rw[Gr];rfl
 have HH:=A0 hp;unfold Ab at HH;clear Gr hp;generalize m.top=v at *;unfold Ab;go_enter Tryz.func165,Tryz.ntmps165;go_wp2_with fail
 rw[←Am.o];refine HP.o.mono ?_;rintro e w1 ⟨rfl,h1,k1⟩;obtain⟨h1e,be1,E1⟩:=h1.enter (.cells #[.int .i64 (v.k:Nat),.bool v.y,.int .i64 v.n,.string ⟨v.t.toArray⟩,.pointer (Bk β v)] 225);have G5:=heap_alloc_new w1 (.cells #[.int .i64 (v.k:Nat),.bool v.y,.int .i64 v.n,.string ⟨v.t.toArray⟩,.pointer (Bk β v)] 225);obtain⟨wa,hwa⟩:∃wa,wa=w1.alloc (.cells #[.int .i64 (v.k:Nat),.bool v.y,.int .i64 v.n,.string ⟨v.t.toArray⟩,.pointer (Bk β v)] 225):=⟨_,rfl⟩;rw[←hwa]at h1e be1 G5;have HWa:=A0 hwa;have Bj:=h1.Au;have HT:=A0 (Eh h1e);generalize m.pop.top=p at *;generalize m.pop.pop.top=u at *;have hxi:dx D (Cp (Cp X w) w1) w.heap.size:=Al.o.imp id (fun q=>.inl q);have hia:=(be1.block _ Al.o).trans ((k1.block _ Al.o).trans Aq.o);have A4:Hid (A3 (dx D X) w wa):=(Af.o.trans (Ae k1)).trans (Ae be1);have lba:=h1e.Au;clear hwa h1 k1 h1e be1 HP n0 n1 n2 n3 n4 n5 n6 n7 ln;obtain⟨n0,n1,n2,n3,n4,n5,n6,n7,ln⟩:=B1 hia;unfold Az;unfold Az at HT;go_wp2_with fail
 rw[←HWa.o];go_wp2_with fail
 refine HT.o.mono ?_;rintro e w2 ⟨rfl,h2,k2⟩;have Aw:=(k2.block _ hxi).trans hia;have Ft:=(k2.block _ E1).trans G5;have Aa:Hid (A3 (dx D X) w w2):=A4.o.trans (Ae (Ae k2));have Ai:=A0 h2;have E2:=h2.Au;clear h2 k2 hia G5 HT n0 n1 n2 n3 n4 n5 n6 n7 ln;obtain⟨n0,n1,n2,n3,n4,n5,n6,n7,ln⟩:=B1 Aw;unfold Az at HH;have HH2:=A0 (fun(V:World) (hb:Below w2.heap.size w2 V)=>And.intro (HH.o _ V (Ai.o.below hb).1) (Aa.o.trans (Ae (Ae (Ai.o.below hb).2))));clear HH;go_wp2_with fail
 refine((HH2.o _ z4ua).1).mono ?_;rintro e w3 ⟨rfl,h3,k3⟩;have Bc:=A0 h3.back.back;have Av:Hid (A3 (dx D X) w w3):=(HH2.o _ z4ua).2.trans (Ae (Ae k3));clear h3 k3;go_wp2;go_end0;exact z4ra
theorem Agy{w:World}{T:TypeId}{sz n g c n':Nat}{xs:List Value}(h:w.ownsRow 0 T sz (.slice (some ⟨g,0,none⟩) n' c) n xs):∀o,w.frozen? ⟨g,o,none⟩=false:=by
 obtain⟨_,h1|⟨g',cap,cur,hv',_,hg',_⟩⟩:=h
 ·cases h1.1
 ·injection hv' with e1 _ _;injection e1 with e1;injection e1 with e1 _ _;subst e1;exact Bd hg'
theorem A8d(h:C.Ms D X β w m)(i:Ac){r k:Nat}(hr:m.pop.pop.top.r=some r)(hra:r<m.arr.length)(Gr:m.pop.pop.top.k=4)(Ci:m.pop.top.k=2)(hkn:m.pop.top.n=(k:Nat))(hki:k<m.arr[r].length)(hvv:C8 m.arr.length m.top):Calls Tryz.prog 165 #[.pointer (some ⟨C.mb,0,none⟩),Ab i] w (MP C D X β w { m.pop.pop.pop with arr:=m.arr.set r (m.arr[r].set k m.top) } (.tuple #[])):=by
 obtain⟨w0,Am,Ap,Af,Al,Aq,n0,n1,n2,n3,n4,n5,n6,n7,ln,lb,Bz⟩:=h.C1 i;clear h;have HP:=A0 Ap.o.pop;have t4:(((m.pop.pop.top.k:Nat):Int) !=4)=false:=by rw[Gr];rfl
 have hs:G0 m.pop.pop.pop m.pop.pop.top=.tuple #[.int .i64 (m.arr[r].length:Nat),.bool true]:=by
  exact z2ea
 have hvu:C8 m.arr.length m.pop.pop.top:=by unfold C8;rw[hr];exact⟨Gr,hra⟩
 have HH:=A0 (fun(X':Nat->Prop) (W:World) (hs':C.Ms D X' β W m.pop.pop.pop)=>A1y hs' m.pop.pop.top m.pop.top i hvu hs Ci z4va z4va);have HA:Hid (∀(X':Nat->Prop) (W:World),C.Ms D X' β W m.pop.pop.pop->∃a c,W.cell? ⟨β r,0,none⟩=some (.slice a m.arr[r].length c)/\β r<W.heap.size/\W.ownsRow 0 225 5 (.slice a m.arr[r].length c) m.arr[r].length (Bw (C7 β) m.arr[r])):=fun X' W hs'=>hs'.Vy hra;have HU:Hid (∀(X':Nat->Prop) (W:World) (g c:Nat),C.Ms D X' β W m.pop.pop.pop->W.cell? ⟨β r,0,none⟩=some (.slice (some ⟨g,0,none⟩) m.arr[r].length c)->C.Ms D X' β (W.setCells g (k*5) (C7 β m.top)) { m.pop.pop.pop with arr:=m.arr.set r (m.arr[r].set k m.top) }/\A3 (dx D X') W (W.setCells g (k*5) (C7 β m.top))):=fun X' W g c hs' hc=>hs'.Aic hra hki hc m.top hvv;have er:Bk β m.pop.pop.top=some ⟨β r,0,none⟩:=by unfold Bk;rw[hr]
 unfold Ab at HH;clear hr Gr Ci hs hvu hvv;have t1:(0:Int)<=(k:Int):=by omega
 have t2:(k:Int)<(m.arr[r].length:Int):=by omega
 generalize hL:m.arr[r]=L at *;generalize m.top=v at *;unfold Ab;go_enter Tryz.func165,Tryz.ntmps165;go_wp2_with fail
 rw[←Am.o];refine HP.o.mono ?_;rintro e w1 ⟨rfl,h1,k1⟩;obtain⟨h1e,be1,E1⟩:=h1.enter (.cells #[.int .i64 (v.k:Nat),.bool v.y,.int .i64 v.n,.string ⟨v.t.toArray⟩,.pointer (Bk β v)] 225);have G5:=heap_alloc_new w1 (.cells #[.int .i64 (v.k:Nat),.bool v.y,.int .i64 v.n,.string ⟨v.t.toArray⟩,.pointer (Bk β v)] 225);obtain⟨wa,hwa⟩:∃wa,wa=w1.alloc (.cells #[.int .i64 (v.k:Nat),.bool v.y,.int .i64 v.n,.string ⟨v.t.toArray⟩,.pointer (Bk β v)] 225):=⟨_,rfl⟩;rw[←hwa]at h1e be1 G5;have HWa:=A0 hwa;have Bj:=h1.Au;have HT:=A0 (Eh h1e);unfold Az at HT;rw[er,hkn]at HT;generalize m.pop.top=p at *;generalize m.pop.pop.top=u at *;have hxi:dx D (Cp (Cp X w) w1) w.heap.size:=Al.o.imp id (fun q=>.inl q);have hia:=(be1.block _ Al.o).trans ((k1.block _ Al.o).trans Aq.o);have A4:Hid (A3 (dx D X) w wa):=(Af.o.trans (Ae k1)).trans (Ae be1);have lba:=h1e.Au;clear hwa h1 k1 h1e be1 HP n0 n1 n2 n3 n4 n5 n6 n7 ln;obtain⟨n0,n1,n2,n3,n4,n5,n6,n7,ln⟩:=B1 hia;unfold Az;go_wp2_with fail
 rw[←HWa.o];go_wp2_with fail
 refine HT.o.mono ?_;rintro e w2 ⟨rfl,h2,k2⟩;have Aw:=(k2.block _ hxi).trans hia;have Ft:=(k2.block _ E1).trans G5;have Aa:Hid (A3 (dx D X) w w2):=A4.o.trans (Ae (Ae k2));have Ai:=A0 h2;have E2:=h2.Au;clear h2 k2 hia G5 HT n0 n1 n2 n3 n4 n5 n6 n7 ln;obtain⟨n0,n1,n2,n3,n4,n5,n6,n7,ln⟩:=B1 Aw;unfold Az at HH;rw[er,hkn]at HH;obtain⟨W,hW,z0,z1,hbW,hsW⟩:=A4m w2 (.cells #[.int .i64 (u.k:Nat),.bool u.y,.int .i64 u.n,.string ⟨u.t.toArray⟩,.pointer (some ⟨β r,0,none⟩)] 225) (.cells #[.int .i64 (p.k:Nat),.bool p.y,.int .i64 (k:Nat),.string ⟨p.t.toArray⟩,.pointer (Bk β p)] 225);have HW:=A0 hW;have HH2:=A0 (HH.o _ W (Ai.o.below hbW).1);have HBe:=A0 (fun(V:World) (hb:Below W.heap.size W V)=>And.intro (Ai.o.below (hbW.trans (hb.mono hbW.size))) (hbW.trans (hb.mono hbW.size)));have lv2:=A5 Ft;have li2:=A5 Aw;clear hW hbW HH;go_wp2_with fail
 rw[←HW.o];refine HH2.o.mono ?_;rintro e w3 ⟨rfl,Aj⟩;have q0:=(Aj.block _ z4va).trans z0;have q1:=(Aj.block _ z4va).trans z1;obtain⟨⟨s1,s2⟩,s3⟩:=HBe.o w3 Aj;have qv:=(s3.block _ lv2).trans Ft;obtain⟨a,c,c0,lr,ho⟩:=HA.o _ w3 s1;obtain⟨g,ea,_,hcp,lg,hcell⟩:=Fo ho z4va;subst ea;obtain⟨y0,e0⟩:=M9 (f:=C7 β) (sz:=5) ho k 0 hki z4va;obtain⟨y1,e1⟩:=M9 (f:=C7 β) (sz:=5) ho k 1 hki z4va;obtain⟨y2,e2⟩:=M9 (f:=C7 β) (sz:=5) ho k 2 hki z4va;obtain⟨y3,e3⟩:=M9 (f:=C7 β) (sz:=5) ho k 3 hki z4va;obtain⟨y4,e4⟩:=M9 (f:=C7 β) (sz:=5) ho k 4 hki z4va;rw[Nat.add_zero]at e0;have fg:∀o,w3.frozen? ⟨g,o,none⟩=false:=Agy ho;have HU3:=A0 (HU.o _ _ g c s1 c0);have Av:Hid (A3 (dx D X) w w3):=Aa.o.trans (Ae (Ae s2));clear n0 n1 n2 n3 n4 n5 n6 n7 ln;obtain⟨u0,u1,u2,u3,u4,lu⟩:=Jn q0;obtain⟨p0,p1,p2,p3,p4,lp⟩:=Jn q1;obtain⟨v0,v1,v2,v3,v4,lv⟩:=Jn qv;have lb3:=s1.Au;clear Aj q0 q1 qv s1 s2 s3 ho hcell HBe HH2 HU HA z0 z1 Ft Aw;go_wp2;refine Ih 9 z4xa z4xa ?_;simp only[List.take_succ_cons,List.take_zero,List.drop_succ_cons,List.drop_zero];iterate 9 (refine Ez (fun K' hK'=>?_);go_simp;refine hK' _ ?_;clear hK' K')
 refine Ig ?_;go_wp2;go_end0;rw[←Wy];exact⟨rfl,HU3.o.1.Hs.back.back,Av.o.trans ((Ae (Ae HU3.o.2)).trans (Dw _ _ 1))⟩
end
end Go.Proofs.YtjdlndhfaaolaaaGreatDoor
