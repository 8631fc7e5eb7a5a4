import Derived.Test.YtjdlndhfaaolaaaGreatDoorX38
set_option maxHeartbeats 20000000
namespace Go.Proofs.YtjdlndhfaaolaaaGreatDoor
section
open Go.RowKit
variable {D:Nat->Prop} {w w':World}
theorem Acu:∀{fs:List Fn} {cs:List Value},Lv D w fs cs->∀(j:Nat) (f:Fn),fs[j]?=some f->∃sa sn sc,cs[j*4+1]?=some (.int .i64 (f.params:Nat))/\cs[j*4+2]?=some (.int .i64 (f.slots:Nat))/\cs[j*4+3]?=some (.slice sa sn sc)/\Cr D w 251 8 (.slice sa sn sc) f.steps.length (Ez f.steps):=by
 intro fs;induction fs with
 | nil=>intro cs _ j f h;simp at h
 | cons g r ih=>
  intro cs h j f hj;obtain⟨sa,sn,sc,rest,e1,h1,h2⟩:=h;cases j with
  | zero=>
   simp only[List.getElem?_cons_zero,Option.some.injEq]at hj;subst hj;rw[e1];exact⟨sa,sn,sc,rfl,rfl,rfl,h1⟩
  | succ j=>
   simp only[List.getElem?_cons_succ]at hj;obtain⟨a,b,c,q1,q2,q3,q4⟩:=ih h2 j f hj;rw[e1];refine⟨a,b,c,?_,?_,?_,q4⟩
   ·rw[show(j+1)*4+1=(j*4+1)+4 by omega];simpa using q1
   ·rw[show(j+1)*4+2=(j*4+2)+4 by omega];simpa using q2
   ·rw[show(j+1)*4+3=(j*4+3)+4 by omega];simpa using q3
theorem Ki.A0v{pb:Nat}{P:D5}(h:Ki D w pb P){j:Nat}{f:Fn}(hj:P.fns[j]?=some f):∃hb hc sa sn sc,w.cell? ⟨pb,3,none⟩=some (.slice (some ⟨hb,0,none⟩) P.fns.length hc)/\P.fns.length<=hc/\D pb/\D hb/\pb<w.heap.size/\hb<w.heap.size/\j<P.fns.length/\
  w.cell? ⟨hb,j*4+1,none⟩=some (.int .i64 (f.params:Nat))/\w.cell? ⟨hb,j*4+2,none⟩=some (.int .i64 (f.slots:Nat))/\w.cell? ⟨hb,j*4+3,none⟩=some (.slice sa sn sc)/\Cr D w 251 8 (.slice sa sn sc) f.steps.length (Ez f.steps):=by
 obtain⟨_,_,_,ha,hn,hc,ms,hD,hpb,_,hfo,hfi⟩:=h;have hlt:j<P.fns.length:=(List.getElem?_eq_some_iff.1 hj).1;obtain⟨sa,sn,sc,q1,q2,q3,q4⟩:=Acu hfi j f hj;obtain⟨g,rfl,hvn,hcap,lg,hcell⟩:=Hg hfo.1 z4sa;have c3:=A7 hpb 3 _ rfl;refine⟨g,hc,sa,sn,sc,?_,hcap,hD,hfo.2 g rfl,A6 hpb,lg,hlt,hcell _ _ q1,hcell _ _ q2,hcell _ _ q3,q4⟩;rw[hvn]at c3;exact c3
end
section
open Go.RowKit
theorem Tw{P:Program}(t e:TypeId)(z:Value)(sz bytes:Nat)(ht:P.underlying t=some (.slice e))(hinfo:(P.info? e).map (fun i=>(i.zero,i.size,i.bytes))=some (some z,sz,bytes))
  (kl kc:IntKind) (n:Nat) (hn:n<=1000000) (hby:bytes<=1000) (w:World):(Instr.makeSlice t (.int kl (n:Int)) (.int kc (n:Int))).run P w=.ok (.slice (some ⟨w.heap.size,0,none⟩) n n) (w.alloc (.cells (madeCells z.cells (n*sz)) e)):=by
 obtain⟨i,hi,Gt,Bq,Bw⟩:=info_parts hinfo;have hb:=Nat.mul_le_mul hby hn;have hr:=run_make (P:=P) w t e i z ht hi Gt kl kc n n z4sa (Int.le_refl _) (by rw[Bw];have:((bytes*n:Nat):Int)<=281474976710656:=z4sa;rwa [Int.natCast_mul]at this) z4sa;simp only[Int.toNat_natCast,Bq]at hr;exact hr
structure Jv {α : Type} (T : TypeId) (sz : Nat) (f : α -> List Value) (sb : Nat) (w : World) (n : Nat) (xs : List α) : Prop where
 blk:∃cur,w.heap[sb]?=some (.cells cur T (0,0))/\cur.size=n*sz/\cur.toList.take (xs.length*sz)=C5 f xs
 le:xs.length<=n
variable {α:Type} {T:TypeId} {sz:Nat} {f:α->List Value} {sb:Nat} {w w':World} {n:Nat} {xs:List α}
theorem Jv.start(w:World)(z:Array Value)(n:Nat):Jv T sz f w.heap.size (w.alloc (.cells (madeCells z (n*sz)) T)) n ([]:List α):=
 ⟨⟨_,heap_alloc_new _ _,size_madeCells _ _,by simp[C5]⟩,Nat.zero_le _⟩
theorem Jv.keep(h:Jv T sz f sb w n xs)(hk:w'.heap[sb]?=w.heap[sb]?):Jv T sz f sb w' n xs:=by
 obtain⟨⟨cur,h1,h2,h3⟩,hl⟩:=h;exact⟨⟨cur,hk.trans h1,h2,h3⟩,hl⟩
theorem Jv.put(h:Jv T sz f sb w n xs)(hf:∀x,(f x).length=sz)(hn:xs.length<n)(u:α):Jv T sz f sb (w.setCells sb (xs.length*sz) (f u)) n (xs++[u]):=by
 obtain⟨⟨cur,h1,h2,h3⟩,hl⟩:=h;have hle:(xs.length+1)*sz<=n*sz:=Nat.mul_le_mul_right _ hn;have hadd:(xs.length+1)*sz=xs.length*sz+sz:=by rw[Nat.add_mul,Nat.one_mul]
 obtain⟨cur',k1,k2,k3⟩:=Xl sb T (0,0) (f u) (xs.length*sz) cur w h1 (by rw[hf];omega);refine⟨⟨cur',k1,by rw[k2];exact h2,?_⟩,by simp;omega⟩;have hcl:cur.toList.length=n*sz:=by simpa using h2
 rw[k3,List.length_append,List.length_singleton,Sa,Uc,←h3,hf];rw[List.take_append_of_le_length (by simp[hf];omega),List.take_of_length_le (by simp[hf];omega)]
theorem Jv.cells(h:Jv T sz f sb w n xs)(i j:Nat)(hi:i<n)(hj:j<sz):∃v,w.cell? ⟨sb,i*sz+j,none⟩=some v:=by
 obtain⟨⟨cur,h1,h2,h3⟩,hl⟩:=h;have:i*sz+j<cur.size:=by
  have:(i+1)*sz<=n*sz:=Nat.mul_le_mul_right _ hi;rw[Nat.add_mul]at this;omega
 exact⟨_,by rw[cell_of_row w sb (i*sz+j) cur _ _ h1,Array.getElem?_eq_getElem this]⟩
theorem Jv.frozen(h:Jv T sz f sb w n xs):∀o,w.frozen? ⟨sb,o,none⟩=false:=by
 obtain⟨⟨cur,h1,h2,h3⟩,hl⟩:=h;exact Ci h1
theorem Jv.done(h:Jv T sz f sb w n xs)(hf:∀x,(f x).length=sz)(he:xs.length=n)(hn:n<=1000000):w.ownsRow 0 T sz (.slice (some ⟨sb,0,none⟩) n n) xs.length (C5 f xs):=by
 obtain⟨⟨cur,h1,h2,h3⟩,hl⟩:=h;subst he;exact⟨N6 hf xs,.inr ⟨sb,xs.length,cur,rfl,Nat.zero_le _,h1,Nat.le_refl _,by unfold maxLen;omega,h2,h3⟩⟩
theorem A28{g c:Nat}(ho:w.ownsRow 0 T sz (.slice (some ⟨g,0,none⟩) xs.length c) xs.length (C5 f xs))(hf:∀x,(f x).length=sz)(i:Nat)(hi:i<xs.length)(u:α):(w.setCells g (i*sz) (f u)).ownsRow 0 T sz (.slice (some ⟨g,0,none⟩) (xs.set i u).length c) (xs.set i u).length (C5 f (xs.set i u)):=by
 obtain⟨hl,⟨h2,h3⟩|⟨g',cap,cur,hv,_,hgc,hcap,hmx,hsz,ht⟩⟩:=ho
 ·cases h2
 injection hv with e1 e2 e3;injection e1 with e1;injection e1 with e1;subst e1 e3;have hin:(i+1)*sz<=xs.length*sz:=Nat.mul_le_mul_right _ hi;have hin2:xs.length*sz<=c*sz:=Nat.mul_le_mul_right _ hcap;have hadd:(i+1)*sz=i*sz+sz:=by rw[Nat.add_mul,Nat.one_mul]
 obtain⟨cur',k1,k2,k3⟩:=Xl g T (0,0) (f u) (i*sz) cur w hgc (by rw[hf];omega);refine⟨by rw[N6 hf],.inr ⟨g,c,cur',rfl,Nat.zero_le _,k1,by rw[List.length_set];exact hcap,hmx,by rw[k2];exact hsz,?_⟩⟩;have hcl:cur.toList.length=c*sz:=by simpa using hsz
 exact z3ca
theorem Rz{g c:Nat}(ho:w.ownsRow 0 T sz (.slice (some ⟨g,0,none⟩) xs.length c) xs.length (C5 f xs))(i j:Nat)(hi:i<xs.length)(hj:j<sz):∃v,w.cell? ⟨g,i*sz+j,none⟩=some v:=by
 obtain⟨hl,⟨h2,h3⟩|⟨g',cap,cur,hv,_,hgc,hcap,hmx,hsz,ht⟩⟩:=ho
 ·cases h2
 injection hv with e1 e2 e3;injection e1 with e1;injection e1 with e1;subst e1 e3;have:i*sz+j<cur.size:=by
  have h1:(i+1)*sz<=xs.length*sz:=Nat.mul_le_mul_right _ hi;have h2:xs.length*sz<=c*sz:=Nat.mul_le_mul_right _ hcap;rw[Nat.add_mul]at h1;omega
 exact⟨_,by rw[cell_of_row w g (i*sz+j) cur _ _ hgc,Array.getElem?_eq_getElem this]⟩
end
section
open Go.RowKit
theorem Aey{α:Type}{f:α->List Value}{sz:Nat}(hf:∀x,(f x).length=sz)(hs:0<sz)(z:Array Value)(a:α)(hz:z.toList=f a)(n:Nat):(madeCells z (n*sz)).toList=C5 f (List.replicate n a):=by
 have hzs:z.size=sz:=by rw[←Array.length_toList,hz,hf]
 have hl:(C5 f (List.replicate n a)).length=n*sz:=by rw[N6 hf,List.length_replicate]
 apply List.ext_getElem?;intro k;rcases Nat.lt_or_ge k (n*sz) with hk|hk
 ·have hq:k / sz<n:=by rw[Nat.div_lt_iff_lt_mul hs];exact hk
  have hr:k % sz<sz:=Nat.mod_lt _ hs;have e:k=k / sz*sz+k % sz:=by rw[Nat.mul_comm];exact(Nat.div_add_mod k sz).symm
  have h1:(madeCells z (n*sz)).toList[k]?=z.toList[k % sz]?:=by
   rw[madeCells,Array.toList_map,List.getElem?_map,Array.getElem?_toList,Array.getElem?_range,if_pos hk];simp only[Option.map_some];rw[hzs,getElem!_pos z _ z4sa,Array.getElem?_toList,Array.getElem?_eq_getElem z4sa]
  rw[h1,hz];conv=>rhs;rw[e]
  rw[G5 hf _ (k / sz) (k % sz) (by rw[List.length_replicate];exact hq) hr,List.getElem_replicate]
 ·rw[List.getElem?_eq_none (by rw[Array.length_toList,size_madeCells];exact hk),List.getElem?_eq_none (by rw[hl];exact hk)]
theorem A1s{α:Type}{T:TypeId}{f:α->List Value}{sz:Nat}(hf:∀x,(f x).length=sz)(hs:0<sz)(z:Array Value)(a:α)(hz:z.toList=f a)(n:Nat)(hn:n<=1000000){w:World}{g:Nat}(hg:w.heap[g]?=some (.cells (madeCells z (n*sz)) T (0,0))):w.ownsRow 0 T sz (.slice (some ⟨g,0,none⟩) n n) n (C5 f (List.replicate n a)):=
 ⟨by rw[N6 hf,List.length_replicate],.inr ⟨g,n,_,rfl,Nat.zero_le _,hg,Nat.le_refl _,by unfold maxLen;omega,size_madeCells _ _,by rw[Aey hf hs z a hz n,List.take_of_length_le];rw[N6 hf,List.length_replicate];exact Nat.le_refl _⟩⟩
end
section
set_option maxRecDepth 100000
open Go.RowKit
open Go.Deep (BT)
variable {C:MC} {D X:Nat->Prop} {w w':World} {m:MS} {β:Nat->Nat}
def MBP(C:MC)(D X:Nat->Prop)(β:Nat->Nat)(w:World)(m:MS)(bets:List Da)(n:Nat)(f:Fn)(e:Ending)(w':World):Prop:=
 ∃D' l' bb oo slots steps sa sn sc,(∀g,D g->D' g)/\C.Ms D' X β w' { m with lots:=m.lots.set n l' }/\A2 (dx D X) w w'/\Mm D' w' bb oo slots steps sa sn sc/\slots<=5000/\e=.returned (.pointer (some ⟨bb,oo,none⟩))/\MS.body C.P bets n f m=({ m with lots:=m.lots.set n l' }:MS).begin slots steps f.params
theorem MC.Ms.Yq(h:C.Ms D X β w m):w.cell? ⟨C.mb,0,none⟩=some (.pointer (some ⟨C.pb,0,none⟩))/\Ki D w C.pb C.P/\(∀g,dx D X g->g<w.heap.size/\C.mb≠g):=by
 obtain⟨ρ,s,x,fv,ab,lp,h⟩:=h;exact⟨A7 h.cell 0 _ rfl,h.prog,fun g hg=>⟨(h.prot g hg).1,fun e=>h.lo.2 (by rw[e];exact hg)⟩⟩
theorem Mm.set{bb oo slots:Nat}{st:List Af}{sa:Option Addr}{sn sc:Nat}(h:Mm D w bb oo slots st sa sn sc){lb o:Nat}(hne:∀g,D g->lb≠g)(v:Value):Mm D (w.setCell ⟨lb,o,none⟩ v) bb oo slots st sa sn sc:=by
 have hk:∀g,D g->(w.setCell ⟨lb,o,none⟩ v).heap[g]?=w.heap[g]?:=fun g hg=>Below.heap_setCell _ _ _ _ (by show g≠lb;exact fun e=>hne g hg e.symm);exact⟨h.kept,(World.cell?_of_block (hk bb h.kept)).trans h.slots,(World.cell?_of_block (hk bb h.kept)).trans h.row,h.own.keep (fun g hg _=>⟨hk g hg,hg⟩)⟩
theorem Agq{pb:Nat}{P:D5}(hp:Ki D w pb P){n:Nat}{f:Fn}(hf:P.fns[n]?=some f):∃hb hc sa sn sc,w.cell? ⟨pb,3,none⟩=some (.slice (some ⟨hb,0,none⟩) P.fns.length hc)/\P.fns.length<=hc/\D pb/\D hb/\pb<w.heap.size/\hb<w.heap.size/\n<P.fns.length/\Mm D w hb (n*4+2) f.slots f.steps sa sn sc:=by
 obtain⟨hb,hc,sa,sn,sc,p3,hcc,hDp,hDb,lp,lh,hlt,e1,e2,e3,hown⟩:=hp.A0v hf;exact⟨hb,hc,sa,sn,sc,p3,hcc,hDp,hDb,lp,lh,hlt,hDb,e2,e3,hown⟩
def V3(C:MC)(D:Nat->Prop)(bets:List Da)(l:Fs)(n:Nat)(f:Fn):Prop:=∀(X:Nat->Prop) (β:Nat->Nat) (w:World) (m:MS),C.Ms D X β w m->m.lots[n]?=some l->J9 X w (.slice C.ba C.bn C.bc) bets->m.vals.length<=90000000000->
 Calls Tryz.prog 204 #[.pointer (some ⟨C.mb,0,none⟩),.int .i64 (n:Nat)] w (MBP C D X β w m bets n f)
def Zp(C:MC)(D:Nat->Prop)(bets:List Da)(m:MS):Prop:=∀n f l,C.P.fns[n]?=some f->m.lots[n]?=some l->V3 C D bets l n f
theorem Af0{n:Nat}{f:Fn}(hf:C.P.fns[n]?=some f){l:Fs}(hform:l.form=none)(hs:f.slots<=5000)(hcl:l.calls<=80000000000):V3 C D [] l n f:=by
 intro X β w m h hl hb _;obtain⟨lb,p,hL⟩:=A1r h hl;obtain⟨lc,c2,hcc⟩:=hL.cell;have lbm:=h.At;have lbl:=hL.lbl;have hn:=hL.lt;have a0:=hL.c0;have HT:=A0 (Am6 h hb z4wa n l.calls);have HL:=A0 hL;clear hL h hb;go_enter Tryz.func204,Tryz.ntmps204;go_wp2_with fail
 refine HT.o.mono ?_;rintro e w1 ⟨A1,⟨rfl,htk⟩|⟨j,hj,rfl,htk⟩⟩
 ·have HTk:=A0 htk;have hL1:=HL.o.same (HL.o.st.below A1).1 rfl A1.block;have G8:=A0 hL1;have A4:Hid (A2 (dx D X) w w1):=(HL.o.st.below A1).2;clear A1 htk HT hL1 a0;have hpn:p=none:=by have:=G8.o.form;rw[hform]at this;exact this
  subst hpn;have a0:=G8.o.c0;have a1:=G8.o.c1;have a2:=G8.o.c2;have a3:=G8.o.c3;have fz:=G8.o.fz;have lblx:=G8.o.lbl;have lbmx:=G8.o.st.At;obtain⟨g0,hprg,hdx⟩:=G8.o.st.Yq;obtain⟨A9,hc2,sa,sn,sc,p3,hcc2,hDp,hDb,lp,lh,hlt,hBd⟩:=Agq hprg hf;have ne1:=G8.o.ne.1;have ne2:=G8.o.ne.2 _ (.inl hDp);have ne3:=G8.o.ne.2 _ (.inl hDb);have HBd:=A0 hBd;clear hprg hdx hBd;have HS:=A0 (G8.o.set 0 (.int .i64 ((l.calls:Int)+1)) none ⟨l.calls+1,none,l.fast,l.drops⟩ z4sa (by simp[L5]) rfl);go_wp2;go_ret;obtain⟨s1,s2⟩:=HS.o;refine⟨D,⟨l.calls+1,none,l.fast,l.drops⟩,A9,n*4+2,f.slots,f.steps,sa,sn,sc,fun _ h=>h,s1.st,A4.o.trans s2,HBd.o.set (fun g hg=>G8.o.ne.2 g (.inl hg)) _,hs,rfl,?_⟩;unfold MS.body;rw[hl];dsimp only;rw[HTk.o];dsimp only;rw[hform];rfl
 ·cases htk
end
end Go.Proofs.YtjdlndhfaaolaaaGreatDoor
