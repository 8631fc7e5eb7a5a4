import Derived.Test.YtjdlndhfaaolaaaGreatDoorY34
set_option maxHeartbeats 20000000
set_option linter.all false
namespace Go.Proofs.YtjdlndhfaaolaaaGreatDoor
section
open Go.RowKit
variable {D:Nat->Prop} {w w':World}
def Ajl:∀{fs:List Fn} {cs:List Value},N9 D w fs cs->∀(j:Nat) (f:Fn),fs[j]?=some f->∃sa sn sc,cs[j*4+1]?=some (.n f.params)/\cs[j*4+2]?=some (.n f.slots)/\cs[j*4+3]?=some (.slice sa sn sc)/\Dj D w 251 8 (.slice sa sn sc) f.steps.length (F7 f.steps):=by
 intro fs;induction fs with
 | nil=>intro cs _ j f h;simp at h
 | cons g r ih=>
  intro cs h j f hj;obtain⟨sa,sn,sc,rest,e1,h1,h2⟩:=h;cases j with
  | zero=>
   simp only[X7,Cg]at hj;subst hj;rw[e1];exact⟨sa,sn,sc,rfl,rfl,rfl,h1⟩
  | succ j=>
   simp only[Ti]at hj;obtain⟨a,b,c,q1,q2,q3,q4⟩:=ih h2 j f hj;rw[e1];refine⟨a,b,c,?_,?_,?_,q4⟩
   ·rw[show(j+1)*4+1=(j*4+1)+4 by omega];simpa using q1
   ·rw[show(j+1)*4+2=(j*4+2)+4 by omega];simpa using q2
   ·rw[show(j+1)*4+3=(j*4+3)+4 by omega];simpa using q3
def M0.Y5{pb:Nat}{P:C5}(h:M0 D w pb P){j:Nat}{f:Fn}(hj:P.fns[j]?=some f):∃hb hc sa sn sc,w.cell? ⟨pb,3,none⟩=some (.slice (some ⟨hb,0,none⟩) P.fns.length hc)/\P.fns.length<=hc/\D pb/\D hb/\pb<w.heap.size/\hb<w.heap.size/\j<P.fns.length/\
  w.cell? ⟨hb,j*4+1,none⟩=some (.n f.params)/\w.cell? ⟨hb,j*4+2,none⟩=some (.n f.slots)/\w.cell? ⟨hb,j*4+3,none⟩=some (.slice sa sn sc)/\Dj D w 251 8 (.slice sa sn sc) f.steps.length (F7 f.steps):=by
 obtain⟨_,_,_,ha,hn,hc,ms,hD,hpb,_,hfo,hfi⟩:=h;have hlt:j<P.fns.length:=(K4.1 hj).1;obtain⟨sa,sn,sc,q1,q2,q3,q4⟩:=Ajl hfi j f hj;obtain⟨g,rfl,hvn,hcap,lg,hcell⟩:=G1 hfo.1 z4ma;have c3:=A4 hpb 3 _ rfl;refine⟨g,hc,sa,sn,sc,?_,hcap,hD,hfo.2 g rfl,A6 hpb,lg,hlt,hcell _ _ q1,hcell _ _ q2,hcell _ _ q3,q4⟩;rw[hvn]at c3;exact c3
end
section
open Go.RowKit
def Sz{P:Program}(t e:TypeId)(z:Value)(sz bytes:Nat)(ht:P.underlying t=some (.slice e))(hinfo:(P.info? e).map (fun i=>(i.zero,i.size,i.bytes))=some (some z,sz,bytes))
  (kl kc:IntKind) (n:Nat) (hn:n<=1000000) (hby:bytes<=1000) (w:World):(Instr.makeSlice t (.int kl (n:Int)) (.int kc (n:Int))).run P w=.ok (.slice (some ⟨w.heap.size,0,none⟩) n n) (w.alloc (.cells (madeCells z.cells (n*sz)) e)):=by
 obtain⟨i,hi,I6,Cu,Dg⟩:=Qr hinfo;have hb:=Z7 hby hn;have hr:=run_make (P:=P) w t e i z ht hi I6 kl kc n n z4ma (Int.le_refl _) (by rw[Dg];have:((bytes*n:Nat):Int)<=281474976710656:=z4ma;rwa [Int.natCast_mul]at this) z4ma;simp only[O8,Cu]at hr;exact hr
structure Hz {α : Type} (T : TypeId) (sz : Nat) (f : α -> List Value) (sb : Nat) (w : World) (n : Nat) (xs : List α) : Prop where
 blk:∃cur,w.heap[sb]?=some (.cells cur T (0,0))/\cur.size=n*sz/\cur.toList.take (xs.length*sz)=C0 f xs
 le:xs.length<=n
variable {α:Type} {T:TypeId} {sz:Nat} {f:α->List Value} {sb:Nat} {w w':World} {n:Nat} {xs:List α}
def Hz.lt(h:Hz T sz f sb w n xs):sb<w.heap.size:=by obtain⟨cur,h1,_⟩:=h.blk;exact A6 h1
def Hz.start(w:World)(z:Array Value)(n:Nat):Hz T sz f w.heap.size (w.alloc (.cells (madeCells z (n*sz)) T)) n ([]:List α):=
 ⟨⟨_,Bp _ _,V6 _ _,by simp[C0]⟩,De _⟩
def Hz.keep(h:Hz T sz f sb w n xs)(hk:w'.heap[sb]?=w.heap[sb]?):Hz T sz f sb w' n xs:=by
 obtain⟨⟨cur,h1,h2,h3⟩,hl⟩:=h;exact⟨⟨cur,hk.trans h1,h2,h3⟩,hl⟩
def Hz.put(h:Hz T sz f sb w n xs)(hf:∀x,(f x).length=sz)(hn:xs.length<n)(u:α):Hz T sz f sb (w.setCells sb (xs.length*sz) (f u)) n (xs++[u]):=by
 obtain⟨⟨cur,h1,h2,h3⟩,hl⟩:=h;have hle:(xs.length+1)*sz<=n*sz:=O5 _ hn;have hadd:(xs.length+1)*sz=xs.length*sz+sz:=by rw[Mm,V5]
 obtain⟨cur',k1,k2,k3⟩:=Y7 sb T (0,0) (f u) (xs.length*sz) cur w h1 (by rw[hf];omega);refine⟨⟨cur',k1,by rw[k2];exact h2,?_⟩,by simp;omega⟩;have hcl:cur.toList.length=n*sz:=by simpa using h2
 rw[k3,Ds,Lw,T8,Wh,←h3,hf];rw[Aau (by simp[hf];omega),Ot (by simp[hf];omega)]
def Hz.cells(h:Hz T sz f sb w n xs)(i j:Nat)(hi:i<n)(hj:j<sz):∃v,w.cell? ⟨sb,i*sz+j,none⟩=some v:=by
 obtain⟨⟨cur,h1,h2,h3⟩,hl⟩:=h;have:i*sz+j<cur.size:=by
  have:(i+1)*sz<=n*sz:=O5 _ hi;rw[Mm]at this;omega
 exact⟨_,by rw[K2 w sb (i*sz+j) cur _ _ h1,Li this]⟩
def Hz.frozen(h:Hz T sz f sb w n xs):∀o,w.frozen? ⟨sb,o,none⟩=false:=by
 obtain⟨⟨cur,h1,h2,h3⟩,hl⟩:=h;exact By h1
def Hz.done(h:Hz T sz f sb w n xs)(hf:∀x,(f x).length=sz)(he:xs.length=n)(hn:n<=1000000):w.ownsRow 0 T sz (.slice (some ⟨sb,0,none⟩) n n) xs.length (C0 f xs):=by
 obtain⟨⟨cur,h1,h2,h3⟩,hl⟩:=h;subst he;exact⟨Nw hf xs,.inr ⟨sb,xs.length,cur,rfl,De _,h1,Af _,by unfold maxLen;omega,h2,h3⟩⟩
def Agu{P:Program}(w:World)(dT sT ty elem:TypeId)(b o dCap:Nat)(a:Addr)(n sCap sz:Nat)(cs:List Value)
  (hu:P.underlying dT=some (.slice elem)) (hs:(P.info? elem).map (·.size)=some sz) (hn:cs.length=n*sz)
  (hsrc:∀j v,cs[j]?=some v->w.cell? (a.add j)=some v) (hc:∀j,j<cs.length->(w.cell? ⟨b,o+j,none⟩).isSome=true) (hf:∀j,j<cs.length->w.frozen? ⟨b,o+j,none⟩=false) (h1:∀v∈cs,v.oneCell'=true) :
  (Builtin.copy_ #[dT,sT] ty #[.slice (some ⟨b,o,none⟩) n dCap,.slice (some a) n sCap]).run P w=.ok (goInt n) (w.setCells b o cs):=by
 have hl:=run_loadCells_list (P:=P) w a cs hsrc;have hst:=run_storeCells_cells (P:=P) b o cs 0 w (by simpa using hc) (by simpa using hf) h1;cases hq:P.info? elem with
 | none=>simp[hq]at hs
 | some i=>
  have hi:i.size=sz:=by simpa [hq]using hs
  have hmn:Nat.min n n=n:=Nat.min_self n;simp[Builtin.copy_,P7 hu,Builtin.lenOf,Builtin.firstCells,sizeOf,typeInfo,hq,hi,hmn,←hn,hl,hst]
def A1v{g c:Nat}(ho:w.ownsRow 0 T sz (.slice (some ⟨g,0,none⟩) xs.length c) xs.length (C0 f xs))(hf:∀x,(f x).length=sz)(i:Nat)(hi:i<xs.length)(u:α):(w.setCells g (i*sz) (f u)).ownsRow 0 T sz (.slice (some ⟨g,0,none⟩) (xs.set i u).length c) (xs.set i u).length (C0 f (xs.set i u)):=by
 obtain⟨hl,⟨h2,h3⟩|⟨g',cap,cur,hv,_,hgc,hcap,hmx,hsz,ht⟩⟩:=ho
 ·cases h2
 injection hv with e1 e2 e3;injection e1 with e1;injection e1 with e1;subst e1 e3;have hin:(i+1)*sz<=xs.length*sz:=O5 _ hi;have hin2:xs.length*sz<=c*sz:=O5 _ hcap;have hadd:(i+1)*sz=i*sz+sz:=by rw[Mm,V5]
 obtain⟨cur',k1,k2,k3⟩:=Y7 g T (0,0) (f u) (i*sz) cur w hgc (by rw[hf];omega);refine⟨by rw[Nw hf],.inr ⟨g,c,cur',rfl,De _,k1,by rw[Lc];exact hcap,hmx,by rw[k2];exact hsz,?_⟩⟩;have hcl:cur.toList.length=c*sz:=by simpa using hsz
 exact z3ja
def Ok{g c:Nat}(ho:w.ownsRow 0 T sz (.slice (some ⟨g,0,none⟩) xs.length c) xs.length (C0 f xs))(i j:Nat)(hi:i<xs.length)(hj:j<sz):∃v,w.cell? ⟨g,i*sz+j,none⟩=some v:=by
 obtain⟨hl,⟨h2,h3⟩|⟨g',cap,cur,hv,_,hgc,hcap,hmx,hsz,ht⟩⟩:=ho
 ·cases h2
 injection hv with e1 e2 e3;injection e1 with e1;injection e1 with e1;subst e1 e3;have:i*sz+j<cur.size:=by
  have h1:(i+1)*sz<=xs.length*sz:=O5 _ hi;have h2:xs.length*sz<=c*sz:=O5 _ hcap;rw[Mm]at h1;omega
 exact⟨_,by rw[K2 w g (i*sz+j) cur _ _ hgc,Li this]⟩
def Hz.full(hn:Hz T sz f sb w n ([]:List α))(hf:∀x,(f x).length=sz)(hl:xs.length=n)(hb:n<=1000000):(w.setCells sb 0 (C0 f xs)).ownsRow 0 T sz (.slice (some ⟨sb,0,none⟩) xs.length xs.length) xs.length (C0 f xs):=by
 obtain⟨⟨cur,h1,h2,h3⟩,_⟩:=hn;have hcl:cur.toList.length=n*sz:=by simpa using h2
 have hrl:=Nw hf xs;obtain⟨cur',k1,k2,k3⟩:=Y7 sb T (0,0) (C0 f xs) 0 cur w h1 (by rw[hrl,hl];omega);refine⟨hrl,.inr ⟨sb,xs.length,cur',rfl,De _,k1,Af _,by unfold maxLen;omega,by rw[k2,h2,hl],?_⟩⟩;rw[k3,J1,Se,←hrl,List.take_left'];rfl
end
section
open Go.RowKit
def Amb{α:Type}{f:α->List Value}{sz:Nat}(hf:∀x,(f x).length=sz)(hs:0<sz)(z:Array Value)(a:α)(hz:z.toList=f a)(n:Nat):(madeCells z (n*sz)).toList=C0 f (List.replicate n a):=by
 have hzs:z.size=sz:=by rw[←Array.length_toList,hz,hf]
 have hl:(C0 f (List.replicate n a)).length=n*sz:=by rw[Nw hf,Tl]
 apply List.ext_getElem?;intro k;rcases N2 k (n*sz) with hk|hk
 ·have hq:k / sz<n:=by rw[Nat.div_lt_iff_lt_mul hs];exact hk
  have hr:k % sz<sz:=Nat.mod_lt _ hs;have e:k=k / sz*sz+k % sz:=by rw[Nat.mul_comm];exact(Nat.div_add_mod k sz).symm
  have h1:(madeCells z (n*sz)).toList[k]?=z.toList[k % sz]?:=by
   rw[madeCells,Array.toList_map,Qt,S9,Array.getElem?_range,A7 hk];simp only[X6];rw[hzs,getElem!_pos z _ z4ma,S9,Li z4ma]
  rw[h1,hz];conv=>rhs;rw[e]
  rw[D8 hf _ (k / sz) (k % sz) (by rw[Tl];exact hq) hr,List.getElem_replicate]
 ·rw[N6 (by rw[Array.length_toList,V6];exact hk),N6 (by rw[hl];exact hk)]
def A7g{α:Type}{T:TypeId}{f:α->List Value}{sz:Nat}(hf:∀x,(f x).length=sz)(hs:0<sz)(z:Array Value)(a:α)(hz:z.toList=f a)(n:Nat)(hn:n<=1000000){w:World}{g:Nat}(hg:w.heap[g]?=some (.cells (madeCells z (n*sz)) T (0,0))):w.ownsRow 0 T sz (.slice (some ⟨g,0,none⟩) n n) n (C0 f (List.replicate n a)):=
 ⟨by rw[Nw hf,Tl],.inr ⟨g,n,_,rfl,De _,hg,Af _,by unfold maxLen;omega,V6 _ _,by rw[Amb hf hs z a hz n,Ot];rw[Nw hf,Tl];exact Af _⟩⟩
end
section
open Go.RowKit
open Go.Deep (BT)
variable {C:MC} {D X:Nat->Prop} {w w':World} {m:MS} {β:Nat->Nat}
def MBP(C:MC)(D X:Nat->Prop)(β:Nat->Nat)(w:World)(m:MS)(bets:List Cl)(n:Nat)(f:Fn)(e:Ending)(w':World):Prop:=
 ∃D' l' bb oo slots steps sa sn sc,(∀g,D g->D' g)/\C.Ms D' X β w' { m with lots:=m.lots.set n l' }/\A3 (dx D X) w w'/\N8 D' w' bb oo slots steps sa sn sc/\slots<=5000/\e=.returned (.pointer (some ⟨bb,oo,none⟩))/\MS.body C.P bets n f m=({ m with lots:=m.lots.set n l' }:MS).begin slots steps f.params
def MC.Ms.Rt(h:C.Ms D X β w m):w.cell? ⟨C.mb,0,none⟩=some (.p C.pb)/\M0 D w C.pb C.P/\(∀g,dx D X g->g<w.heap.size/\C.mb≠g):=by
 obtain⟨ρ,s,x,fv,ab,lp,h⟩:=h;exact⟨A4 h.cell 0 _ rfl,h.prog,fun g hg=>⟨(h.prot g hg).1,fun e=>h.lo.2 (by rw[e];exact hg)⟩⟩
def Aut{n c:Nat}:∀{l:List Cl} {b:Cl},taken n c l=some b->b.fn=(n:Nat)/\b.after=(c:Nat):=by
 intro l;induction l with
 | nil=>intro b h;simp[taken]at h
 | cons x r ih=>
  intro b h;rw[taken]at h;cases hq:taken n c r with
  | some y=>rw[hq]at h;injection h with h;rw[←h];exact ih hq
  | none=>
   rw[hq]at h;dsimp only at h;split at h
   ·rename_i hc;injection h with h;rw[←h];exact hc
   ·cases h
def A67(m:MS)(x:List En):∀(ks:List Kn) (i:Int),Ju { m with lots:=x } i ks=Ju m i ks:=by
 intro ks;induction ks with
 | nil=>intro i;rfl
 | cons k r ih=>intro i;rw[Ju,Ju,ih];rfl
def N8.set{bb oo slots:Nat}{st:List Aa}{sa:Option Addr}{sn sc:Nat}(h:N8 D w bb oo slots st sa sn sc){lb o:Nat}(hne:∀g,D g->lb≠g)(v:Value):N8 D (w.setCell ⟨lb,o,none⟩ v) bb oo slots st sa sn sc:=by
 have hk:∀g,D g->(w.setCell ⟨lb,o,none⟩ v).heap[g]?=w.heap[g]?:=fun g hg=>Bh _ _ _ _ (by show g≠lb;exact fun e=>hne g hg e.symm);exact⟨h.kept,(D9 (hk bb h.kept)).trans h.slots,(D9 (hk bb h.kept)).trans h.row,h.own.keep (fun g hg _=>⟨hk g hg,hg⟩)⟩
def We{pb:Nat}{P:C5}(hp:M0 D w pb P){n:Nat}{f:Fn}(hf:P.fns[n]?=some f):∃hb hc sa sn sc,w.cell? ⟨pb,3,none⟩=some (.slice (some ⟨hb,0,none⟩) P.fns.length hc)/\P.fns.length<=hc/\D pb/\D hb/\pb<w.heap.size/\hb<w.heap.size/\n<P.fns.length/\N8 D w hb (n*4+2) f.slots f.steps sa sn sc:=by
 obtain⟨hb,hc,sa,sn,sc,p3,hcc,hDp,hDb,lp,lh,hlt,e1,e2,e3,hown⟩:=hp.Y5 hf;exact⟨hb,hc,sa,sn,sc,p3,hcc,hDp,hDb,lp,lh,hlt,hDb,e2,e3,hown⟩
def A3v(C:MC)(D:Nat->Prop)(bets:List Cl)(l:En)(n:Nat)(f:Fn):Prop:=∀(X:Nat->Prop) (β:Nat->Nat) (w:World) (m:MS),C.Ms D X β w m->m.lots[n]?=some l->H7 X w (.slice C.ba C.bn C.bc) bets->m.vals.length<=90000000000->
 Calls Tryz.prog 204 #[.p C.mb,.n n] w (MBP C D X β w m bets n f)
def A3u(C:MC)(D:Nat->Prop)(bets:List Cl)(m:MS):Prop:=∀n f l,C.P.fns[n]?=some f->m.lots[n]?=some l->A3v C D bets l n f
end
section
set_option maxRecDepth 100000
open Go.RowKit
open Go.Deep (BT)
variable {C:MC} {D X:Nat->Prop} {w w':World} {m:MS} {β:Nat->Nat}
def MQ(C:MC)(D X:Nat->Prop)(β:Nat->Nat)(w:World)(m:MS)(r:Value)(e:Ending)(w':World):Prop:=e=.returned r/\(∃D':Nat->Prop,(∀g,D g->D' g)/\C.Ms D' X β w' m)/\A3 (dx D X) w w'
def MQ.of{r:Value}{e:Ending}(h:MP C D X β w m r e w'):MQ C D X β w m r e w':=⟨h.1,⟨D,fun _ h=>h,h.2.1⟩,h.2.2⟩
def Abt(h:C.Ms D X β w m)(i:Aa)(hf:m.fuel=0):Calls Tryz.prog 159 #[.p C.mb,Ac i] w (MP C D X β w (m.fail 8 i) (.tuple #[])):=by
 obtain⟨w0,As,Av,Ag,Ao,Aw,nn,lb,C9⟩:=h.Ci i;have HSp:=A7s Av.o i hf;unfold Ac at HSp;unfold Ac;go_in;go_wp2_with fail
 rw[←As.o];refine HSp.mono ?_;rintro e w1 ⟨rfl,h1,k1⟩;have B5:=A0 h1.back;have A9:A3 (dx D X) w w1:=Ag.o.trans (Ae k1);go_wp2;refine B9 (v:=.tuple #[]) (by simp[results,Tryz.results159,go_sem]) rfl ?_;exact⟨rfl,B5.o,A9⟩
def Abs(h:C.Ms D X β w m)(i:Aa)(hf:m.fuel≠0)(hf2:m.fuel<=100000)(hd:m.calls.length=40):Calls Tryz.prog 159 #[.p C.mb,Ac i] w (MP C D X β w ({ m with fuel:=m.fuel-1 }.fail 9 i) (.tuple #[])):=by
 obtain⟨w0,As,Av,Ag,Ao,Aw,nn,lb,C9⟩:=h.Ci i;have HSp:=Ye Av.o i hf hf2;unfold Ac at HSp;have td:(((m.calls.length:Nat):Int)==40)=true:=by rw[hd];rfl
 unfold Ac;go_in;go_wp2_with fail
 rw[←As.o];refine HSp.mono ?_;rintro e w1 ⟨rfl,h1,k1⟩;have Bn:=h1.B3;have A9:A3 (dx D X) w w1:=Ag.o.trans (Ae k1);have An:=(k1.block _ Ao.o).trans Aw.o;have nn:=Bi An;have HFl:=A0 h1.A69;go_wp2_with fail
 refine HFl.o.mono ?_;rintro e w9 ⟨rfl,Ff⟩;rw[Ff];have Bk:=fun(W:World) (hb:Bw w1 W)=>C3 ((fun hs=>Ih hs 9 i) (h1.below hb).1) (A9.trans (Ae (h1.below hb).2));unfold Ac at Bk;go_wp2_with fail
 refine((Bk _ z4na).1).mono ?_;rintro e w2 ⟨rfl,h2,k2⟩;have Au:=A0 h2.back;have Ab:A3 (dx D X) w w2:=(Bk _ z4na).2.trans (Ae k2);go_wp2;refine B9 (v:=.tuple #[]) (by simp[results,Tryz.results159,go_sem]) rfl ?_;exact z4ja
def Abr(h:C.Ms D X β w m)(i:Aa)(hf:m.fuel≠0)(hf2:m.fuel<=100000)(hd:m.calls.length<40){j:Nat}(hj:i.arg=(j:Nat)){f:Fn}(hfn:C.P.fns[j]?=some f){l:En}(hl:m.lots[j]?=some l){bets:List Cl}(hb:H7 X w (.slice C.ba C.bn C.bc) bets)(hfit:∀f∈C.P.fns,Q4 C.P.fns.length 5000 f)(hBody:A3v C D bets l j f)(hv:m.vals.length<=80000000000):Calls Tryz.prog 159 #[.p C.mb,Ac i] w (MQ C D X β w (MS.body C.P bets j f { m with fuel:=m.fuel-1,calls:=m.calls++[m.now] }) (.tuple #[])):=by
 obtain⟨w0,As,Av,Ag,Ao,Aw,n0,n1,n2,n3,n4,n5,n6,n7,ln,lb,C9⟩:=h.Ci i;rw[hj]at n1 Aw As;have HSp:=Ye Av.o i hf hf2;unfold Ac at HSp;rw[hj]at HSp;have td:(((m.calls.length:Nat):Int)==40)=false:=by rw[Am];omega
 unfold Ac;rw[hj];go_in;go_wp2_with fail
 rw[←As.o];refine HSp.mono ?_;rintro e w1 ⟨rfl,h1,k1⟩;have Bn:=h1.B3;have A9:A3 (dx D X) w w1:=Ag.o.trans (Ae k1);have An:=(k1.block _ Ao.o).trans Aw.o;obtain⟨n0,n1,n2,n3,n4,n5,n6,n7,ln⟩:=Bi An;have HFl:=A0 h1.A69;go_wp2_with fail
 refine HFl.o.mono ?_;rintro e w9 ⟨rfl,Ff⟩;rw[Ff];obtain⟨x1,Er,g6,g7,g8,gz⟩:=h1.Yf;have HPu:=h1.J6.Ajp x1 m.now (Er.keep (w':=w1.drew) (D':=D) (fun g hg _=>⟨rfl,hg⟩)) z4qa;unfold Vu at HPu;go_wp2;refine Jt 7 z4pa z4pa ?_;simp only[Jh,J1,Ia,Hl];iterate 7 (refine Fm (fun K' hK'=>?_);go_simp;refine hK' _ ?_;clear hK' K')
 refine Js ?_;go_wp2_with fail
 refine HPu.mono ?_;rintro e w2 ⟨rfl,h2,k2⟩;have Ab:A3 (dx D X) w w2:=A9.trans ((Eb _ w1 1).trans (Ae k2));have Ct:=(k2.block _ Ao.o).trans An;obtain⟨n0,n1,n2,n3,n4,n5,n6,n7,ln⟩:=Bi Ct;have Ed:=h2.B3;obtain⟨g0,hprg,_⟩:=h2.Rt;obtain⟨hbk,hck,_,_,_,p3,hcc3,hDp,hDb,lp,lh,hlt,e1,_,_,_⟩:=hprg.Y5 hfn;have HBo:=hBody _ _ _ _ h2.J6 hl ((hb.keep (K':=Dd X w) (w':=w2.drew) (fun g hg _=>⟨Ab.block g (.inr hg),.inl hg⟩) Ab.size)) (by show m.vals.length<=90000000000;omega);have hpar:f.params<=5000:=by have:=(hfit f (Gl hfn)).1;have:=(hfit f (Gl hfn)).2.1;omega
 go_wp2;go_region_law (first
  | (refine F9 rfl 57 _ _ rfl #[.p C.mb,.pointer (some ⟨bb,oo,none⟩),.n f.params] z4pa HBg.o ?_;rintro e w4 ⟨rfl,h4,k4⟩;refine⟨_,rfl,?_⟩;have Ft:=A0 h4.back;have D6:Hid (A3 (dx D X) w w4):=Ba.o.trans (k4.weak (fun g hg=>hg.imp (fun q=>hDD g q) .inl));clear h4 k4)
  | (refine F9 rfl 204 _ _ rfl #[.p C.mb,.n j] z4pa HBo ?_;rintro e w3 ⟨D',l',bb,oo,slots,steps,sa,sn,sc,hDD,h3,k3,hBd,hsl,rfl,heq⟩;refine⟨_,rfl,?_⟩;have HBg:=A0 (A7h h3 hBd (args:=f.params) z4ma z4ma (by show m.vals.length+slots<=90000000000;omega));have Ba:Hid (A3 (dx D X) w w3):=Ab.trans ((Eb _ w2 1).trans (Ae k3));have HEq:=A0 heq;have lb3:=h3.B3;have e13:=(D9 (k3.block hbk (.inl hDb))).trans e1;have p33:=(D9 (k3.block C.pb (.inl hDp))).trans p3;obtain⟨g03,_,_⟩:=h3.Rt;have lh3:=O3 e13;have lp3:=O3 p33;have hi3:=k3.block w.heap.size Ao.o;have n13:=(D9 hi3).trans n1;have ln3:=O3 n13;clear h3 k3 hBd heq hi3))
 all_goals go_wp2
 all_goals go_end0
 all_goals refine⟨rfl,⟨D',hDD,?_⟩,D6.o⟩
 all_goals rw[HEq.o]
 all_goals exact Ft.o
