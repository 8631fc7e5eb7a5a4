import Derived.Test.YtjdlndhfaaolaaaGreatDoorV38
set_option maxHeartbeats 20000000
namespace Go.Proofs.YtjdlndhfaaolaaaGreatDoor
section
set_option maxRecDepth 100000
open Go.RowKit
open Go.Deep (BT)
variable {C:MC} {D X:Nat->Prop} {w w':World} {m:MS} {β:Nat->Nat}
theorem MC.Ms.atB(h:C.Ms D X β w m)(i:Int):Calls Tryz.prog 195 #[.pointer (some ⟨C.mb,4,none⟩),.int .i64 i] w fun e w'=>e=.returned (Az β (m.at' i))/\Below w.heap.size w w':=by
 obtain⟨ρ,s,x,fv,ab,lp,h'⟩:=h;exact Yw h'.Ma i (by have:=h'.Br.1;omega) (m.at' i) rfl
theorem Ada(m:MS):∀(ks:List Kn) (f:Int) (i:Nat) (h:i<ks.length),Jc m (f+(i:Nat)) (ks.drop i)=(ks[i].is (m.at' (f+(i:Nat)))&&Jc m (f+((i+1:Nat):Nat)) (ks.drop (i+1))):=by
 intro ks f i h;rw[List.drop_eq_getElem_cons h,Jc];congr 2
 omega
theorem A1t(h:C.Ms D X β w m){fb:Nat}{fo:Form}(hf:M0 D w (some ⟨fb,0,none⟩) (some fo))(hk:∀x∈fo.bet,x.like.r=none)(hl:fo.bet.length<=1000)(hn:m.vals.length<=100000) :
  Calls Tryz.prog 247 #[.pointer (some ⟨C.mb,0,none⟩),.pointer (some ⟨fb,0,none⟩)] w fun e w'=>e=.returned (.bool (Jc m ((m.vals.length:Nat)-(fo.bet.length:Nat)) fo.bet))/\Below w.heap.size w w':=by
 obtain⟨fb',sa,sn,sc,ka,kn,kc,e1,hD,hb,hst,hbt⟩:=hf;injection e1 with e1;injection e1 with e1;subst e1;have hkn:kn=fo.bet.length:=(C9 hbt.1).1;subst hkn;have lb:=h.Au;have lf:=A5 hb;have HS:=A0 h;have HF:=A0 hb;have HK:=A0 hbt;have HL:=A0 h.len;have HPm:=A0 (Ah4 hb);clear h hb hst hbt;go_enter Tryz.func247,Tryz.ntmps247;go_wp2_with fail
 refine HL.o.mono ?_;rintro e w1 ⟨rfl,Fu⟩;rw[Fu];clear Fu w1;go_wp2_with fail
 refine HPm.o.mono ?_;rintro e w1 ⟨rfl,Fu⟩;rw[Fu];clear Fu w1;go_wp2_with fail
 refine HPm.o.mono ?_;rintro e w1 ⟨rfl,Fu⟩;rw[Fu];clear Fu w1;go_wp2;generalize hR:Jc m ((m.vals.length:Nat)-(fo.bet.length:Nat)) fo.bet=R at *;have HR:=A0 hR;clear hR;go_loopg [16] fo.bet.length (fun k v wr=>∃i:Nat,v=.int .i64 i/\i+k=fo.bet.length/\Jc m ((m.vals.length:Int)-(fo.bet.length:Nat)+(i:Nat)) (fo.bet.drop i)=R/\Below w.heap.size w wr)
 case atStart=>exact⟨0,rfl,by omega,by rw[List.drop_zero,show((0:Nat):Int)=0 from rfl,Int.add_zero];exact HR.o,Below.refl _ _⟩
 case round=>
  obtain⟨i,rfl,hik,hfr,hbr⟩:=hrel;have hsr:=(HS.o.below hbr).1;have HBr:=A0 hbr;have lbr:=hsr.Au;have hfbr:=(hbr.block fb lf).trans HF.o;have lfr:=A5 hfbr;by_cases hlt:i<fo.bet.length
  ·have hfr2:=hfr;rw[Ada m fo.bet _ i hlt]at hfr2;have HFr:=A0 hfr2;have HA:=A0 (hsr.atB ((m.vals.length:Int)-(fo.bet.length:Nat)+(i:Nat)));have HKr:=A0 (HK.o.keep (D':=D) (w':=wr) (fun g hg hl=>⟨hbr.block g hl,hg⟩));have HFb:=A0 hfbr;clear hfr hfr2 hsr hbr hfbr;generalize m.at' ((m.vals.length:Int)-(fo.bet.length:Nat)+(i:Nat))=u at *;unfold Az at HA;go_wp2_with fail
   refine HA.o.mono ?_;rintro e w2 ⟨rfl,k2⟩;have HFt:=A0 (Ad8 ((k2.block fb lfr).trans HFb.o) (HKr.o.keep (D':=D) (fun g hg hl=>⟨k2.block g hl,hg⟩)).1 hk i hlt z4va u β);have Aa:Hid (Below w.heap.size w w2):=HBr.o.trans (k2.mono HBr.o.size);have E2:=Nat.lt_of_lt_of_le lbr k2.size;clear k2 HA;unfold Az at HFt;generalize hz:fo.bet[i].is u=z at *;clear hz;go_wp2_with fail
   refine HFt.o.mono ?_;rintro e w3 ⟨rfl,Aj⟩;have Av:Hid (Below w.heap.size w w3):=Aa.o.trans (Aj.mono Aa.o.size);have lb3:=Nat.lt_of_lt_of_le E2 Aj.size;clear Aj HFt;cases z
   ·have HRf:Hid (R=false):=by have:=HFr.o;simp at this;exact this
    go_wp2;refine bodyPost_ret (v:=.bool false) (by simp[results,Tryz.results247,go_sem]) rfl ⟨by rw[HR.o,HRf.o],Av.o⟩
   ·go_wp2;go_roundg (gk-1)
    case measure=>omega
    case rel=>exact⟨i+1,by simp,by omega,by have:=HFr.o;simpa using this,Av.o⟩
  ·have HRt:Hid (R=true):=by
    have:=hfr;rw[List.drop_eq_nil_of_le z4va,Jc]at this;exact this.symm
   clear hfr hsr hbr;go_wp2;refine bodyPost_ret (v:=.bool true) (by simp[results,Tryz.results247,go_sem]) rfl ⟨by rw[HR.o,HRt.o],HBr.o⟩
end
section
open Go.RowKit
variable {D:Nat->Prop} {w w':World}
theorem Adj:∀{fs:List Fn} {cs:List Value},Lz D w fs cs->∀(j:Nat) (f:Fn),fs[j]?=some f->∃sa sn sc,cs[j*4+1]?=some (.int .i64 (f.params:Nat))/\cs[j*4+2]?=some (.int .i64 (f.slots:Nat))/\cs[j*4+3]?=some (.slice sa sn sc)/\Cw D w 251 8 (.slice sa sn sc) f.steps.length (Ek f.steps):=by
 intro fs;induction fs with
 | nil=>intro cs _ j f h;simp at h
 | cons g r ih=>
  intro cs h j f hj;obtain⟨sa,sn,sc,rest,e1,h1,h2⟩:=h;cases j with
  | zero=>
   simp only[List.getElem?_cons_zero,Option.some.injEq]at hj;subst hj;rw[e1];exact⟨sa,sn,sc,rfl,rfl,rfl,h1⟩
  | succ j=>
   simp only[List.getElem?_cons_succ]at hj;obtain⟨a,b,c,q1,q2,q3,q4⟩:=ih h2 j f hj;rw[e1];refine⟨a,b,c,?_,?_,?_,q4⟩
   ·rw[show(j+1)*4+1=(j*4+1)+4 by omega];simpa using q1
   ·rw[show(j+1)*4+2=(j*4+2)+4 by omega];simpa using q2
   ·rw[show(j+1)*4+3=(j*4+3)+4 by omega];simpa using q3
theorem K3.Ub{pb:Nat}{P:D7}(h:K3 D w pb P){j:Nat}{f:Fn}(hj:P.fns[j]?=some f):∃hb hc sa sn sc,w.cell? ⟨pb,3,none⟩=some (.slice (some ⟨hb,0,none⟩) P.fns.length hc)/\P.fns.length<=hc/\D pb/\D hb/\pb<w.heap.size/\hb<w.heap.size/\j<P.fns.length/\
  w.cell? ⟨hb,j*4+1,none⟩=some (.int .i64 (f.params:Nat))/\w.cell? ⟨hb,j*4+2,none⟩=some (.int .i64 (f.slots:Nat))/\w.cell? ⟨hb,j*4+3,none⟩=some (.slice sa sn sc)/\Cw D w 251 8 (.slice sa sn sc) f.steps.length (Ek f.steps):=by
 obtain⟨_,_,_,ha,hn,hc,ms,hD,hpb,_,hfo,hfi⟩:=h;have hlt:j<P.fns.length:=(List.getElem?_eq_some_iff.1 hj).1;obtain⟨sa,sn,sc,q1,q2,q3,q4⟩:=Adj hfi j f hj;obtain⟨g,rfl,hvn,hcap,lg,hcell⟩:=Fo hfo.1 z4va;have c3:=A2 hpb 3 _ rfl;refine⟨g,hc,sa,sn,sc,?_,hcap,hD,hfo.2 g rfl,A5 hpb,lg,hlt,hcell _ _ q1,hcell _ _ q2,hcell _ _ q3,q4⟩;rw[hvn]at c3;exact c3
end
section
open Go.RowKit
theorem Pu{P:Program}(t e:TypeId)(z:Value)(sz bytes:Nat)(ht:P.underlying t=some (.slice e))(hinfo:(P.info? e).map (fun i=>(i.zero,i.size,i.bytes))=some (some z,sz,bytes))
  (kl kc:IntKind) (n:Nat) (hn:n<=1000000) (hby:bytes<=1000) (w:World):(Instr.makeSlice t (.int kl (n:Int)) (.int kc (n:Int))).run P w=.ok (.slice (some ⟨w.heap.size,0,none⟩) n n) (w.alloc (.cells (madeCells z.cells (n*sz)) e)):=by
 obtain⟨i,hi,Hw,By,C5⟩:=info_parts hinfo;have hb:=Nat.mul_le_mul hby hn;have hr:=run_make (P:=P) w t e i z ht hi Hw kl kc n n z4va (Int.le_refl _) (by rw[C5];have:((bytes*n:Nat):Int)<=281474976710656:=z4va;rwa [Int.natCast_mul]at this) z4va;simp only[Int.toNat_natCast,By]at hr;exact hr
structure Gi {α : Type} (T : TypeId) (sz : Nat) (f : α -> List Value) (sb : Nat) (w : World) (n : Nat) (xs : List α) : Prop where
 blk:∃cur,w.heap[sb]?=some (.cells cur T (0,0))/\cur.size=n*sz/\cur.toList.take (xs.length*sz)=Bw f xs
 le:xs.length<=n
variable {α:Type} {T:TypeId} {sz:Nat} {f:α->List Value} {sb:Nat} {w w':World} {n:Nat} {xs:List α}
theorem Gi.lt(h:Gi T sz f sb w n xs):sb<w.heap.size:=by obtain⟨cur,h1,_⟩:=h.blk;exact A5 h1
theorem Gi.start(w:World)(z:Array Value)(n:Nat):Gi T sz f w.heap.size (w.alloc (.cells (madeCells z (n*sz)) T)) n ([]:List α):=
 ⟨⟨_,heap_alloc_new _ _,size_madeCells _ _,by simp[Bw]⟩,Nat.zero_le _⟩
theorem Gi.keep(h:Gi T sz f sb w n xs)(hk:w'.heap[sb]?=w.heap[sb]?):Gi T sz f sb w' n xs:=by
 obtain⟨⟨cur,h1,h2,h3⟩,hl⟩:=h;exact⟨⟨cur,hk.trans h1,h2,h3⟩,hl⟩
theorem Gi.put(h:Gi T sz f sb w n xs)(hf:∀x,(f x).length=sz)(hn:xs.length<n)(u:α):Gi T sz f sb (w.setCells sb (xs.length*sz) (f u)) n (xs++[u]):=by
 obtain⟨⟨cur,h1,h2,h3⟩,hl⟩:=h;have hle:(xs.length+1)*sz<=n*sz:=Nat.mul_le_mul_right _ hn;have hadd:(xs.length+1)*sz=xs.length*sz+sz:=by rw[Nat.add_mul,Nat.one_mul]
 obtain⟨cur',k1,k2,k3⟩:=Ud sb T (0,0) (f u) (xs.length*sz) cur w h1 (by rw[hf];omega);refine⟨⟨cur',k1,by rw[k2];exact h2,?_⟩,by simp;omega⟩;have hcl:cur.toList.length=n*sz:=by simpa using h2
 rw[k3,List.length_append,List.length_singleton,R7,Sz,←h3,hf];rw[List.take_append_of_le_length (by simp[hf];omega),List.take_of_length_le (by simp[hf];omega)]
theorem Gi.cells(h:Gi T sz f sb w n xs)(i j:Nat)(hi:i<n)(hj:j<sz):∃v,w.cell? ⟨sb,i*sz+j,none⟩=some v:=by
 obtain⟨⟨cur,h1,h2,h3⟩,hl⟩:=h;have:i*sz+j<cur.size:=by
  have:(i+1)*sz<=n*sz:=Nat.mul_le_mul_right _ hi;rw[Nat.add_mul]at this;omega
 exact⟨_,by rw[cell_of_row w sb (i*sz+j) cur _ _ h1,Array.getElem?_eq_getElem this]⟩
theorem Gi.frozen(h:Gi T sz f sb w n xs):∀o,w.frozen? ⟨sb,o,none⟩=false:=by
 obtain⟨⟨cur,h1,h2,h3⟩,hl⟩:=h;exact Bd h1
theorem Gi.done(h:Gi T sz f sb w n xs)(hf:∀x,(f x).length=sz)(he:xs.length=n)(hn:n<=1000000):w.ownsRow 0 T sz (.slice (some ⟨sb,0,none⟩) n n) xs.length (Bw f xs):=by
 obtain⟨⟨cur,h1,h2,h3⟩,hl⟩:=h;subst he;exact⟨Lr hf xs,.inr ⟨sb,xs.length,cur,rfl,Nat.zero_le _,h1,Nat.le_refl _,by unfold maxLen;omega,h2,h3⟩⟩
theorem Aaq{P:Program}(w:World)(dT sT ty elem:TypeId)(b o dCap:Nat)(a:Addr)(n sCap sz:Nat)(cs:List Value)
  (hu:P.underlying dT=some (.slice elem)) (hs:(P.info? elem).map (·.size)=some sz) (hn:cs.length=n*sz)
  (hsrc:∀j v,cs[j]?=some v->w.cell? (a.add j)=some v) (hc:∀j,j<cs.length->(w.cell? ⟨b,o+j,none⟩).isSome=true) (hf:∀j,j<cs.length->w.frozen? ⟨b,o+j,none⟩=false) (h1:∀v∈cs,v.oneCell'=true) :
  (Builtin.copy_ #[dT,sT] ty #[.slice (some ⟨b,o,none⟩) n dCap,.slice (some a) n sCap]).run P w=.ok (goInt n) (w.setCells b o cs):=by
 have hl:=run_loadCells_list (P:=P) w a cs hsrc;have hst:=run_storeCells_cells (P:=P) b o cs 0 w (by simpa using hc) (by simpa using hf) h1;cases hq:P.info? elem with
 | none=>simp[hq]at hs
 | some i=>
  have hi:i.size=sz:=by simpa [hq]using hs
  have hmn:Nat.min n n=n:=Nat.min_self n;simp[Builtin.copy_,run_underlying hu,Builtin.lenOf,Builtin.firstCells,sizeOf,typeInfo,hq,hi,hmn,←hn,hl,hst]
theorem Xt{g c:Nat}(ho:w.ownsRow 0 T sz (.slice (some ⟨g,0,none⟩) xs.length c) xs.length (Bw f xs))(hf:∀x,(f x).length=sz)(i:Nat)(hi:i<xs.length)(u:α):(w.setCells g (i*sz) (f u)).ownsRow 0 T sz (.slice (some ⟨g,0,none⟩) (xs.set i u).length c) (xs.set i u).length (Bw f (xs.set i u)):=by
 obtain⟨hl,⟨h2,h3⟩|⟨g',cap,cur,hv,_,hgc,hcap,hmx,hsz,ht⟩⟩:=ho
 ·cases h2
 injection hv with e1 e2 e3;injection e1 with e1;injection e1 with e1;subst e1 e3;have hin:(i+1)*sz<=xs.length*sz:=Nat.mul_le_mul_right _ hi;have hin2:xs.length*sz<=c*sz:=Nat.mul_le_mul_right _ hcap;have hadd:(i+1)*sz=i*sz+sz:=by rw[Nat.add_mul,Nat.one_mul]
 obtain⟨cur',k1,k2,k3⟩:=Ud g T (0,0) (f u) (i*sz) cur w hgc (by rw[hf];omega);refine⟨by rw[Lr hf],.inr ⟨g,c,cur',rfl,Nat.zero_le _,k1,by rw[List.length_set];exact hcap,hmx,by rw[k2];exact hsz,?_⟩⟩;have hcl:cur.toList.length=c*sz:=by simpa using hsz
 exact z3oa
theorem M9{g c:Nat}(ho:w.ownsRow 0 T sz (.slice (some ⟨g,0,none⟩) xs.length c) xs.length (Bw f xs))(i j:Nat)(hi:i<xs.length)(hj:j<sz):∃v,w.cell? ⟨g,i*sz+j,none⟩=some v:=by
 obtain⟨hl,⟨h2,h3⟩|⟨g',cap,cur,hv,_,hgc,hcap,hmx,hsz,ht⟩⟩:=ho
 ·cases h2
 injection hv with e1 e2 e3;injection e1 with e1;injection e1 with e1;subst e1 e3;have:i*sz+j<cur.size:=by
  have h1:(i+1)*sz<=xs.length*sz:=Nat.mul_le_mul_right _ hi;have h2:xs.length*sz<=c*sz:=Nat.mul_le_mul_right _ hcap;rw[Nat.add_mul]at h1;omega
 exact⟨_,by rw[cell_of_row w g (i*sz+j) cur _ _ hgc,Array.getElem?_eq_getElem this]⟩
theorem Gi.full(hn:Gi T sz f sb w n ([]:List α))(hf:∀x,(f x).length=sz)(hl:xs.length=n)(hb:n<=1000000):(w.setCells sb 0 (Bw f xs)).ownsRow 0 T sz (.slice (some ⟨sb,0,none⟩) xs.length xs.length) xs.length (Bw f xs):=by
 obtain⟨⟨cur,h1,h2,h3⟩,_⟩:=hn;have hcl:cur.toList.length=n*sz:=by simpa using h2
 have hrl:=Lr hf xs;obtain⟨cur',k1,k2,k3⟩:=Ud sb T (0,0) (Bw f xs) 0 cur w h1 (by rw[hrl,hl];omega);refine⟨hrl,.inr ⟨sb,xs.length,cur',rfl,Nat.zero_le _,k1,Nat.le_refl _,by unfold maxLen;omega,by rw[k2,h2,hl],?_⟩⟩;rw[k3,List.take_zero,List.nil_append,←hrl,List.take_left'];rfl
end
section
open Go.RowKit
theorem Ag8{α:Type}{f:α->List Value}{sz:Nat}(hf:∀x,(f x).length=sz)(hs:0<sz)(z:Array Value)(a:α)(hz:z.toList=f a)(n:Nat):(madeCells z (n*sz)).toList=Bw f (List.replicate n a):=by
 have hzs:z.size=sz:=by rw[←Array.length_toList,hz,hf]
 have hl:(Bw f (List.replicate n a)).length=n*sz:=by rw[Lr hf,List.length_replicate]
 apply List.ext_getElem?;intro k;rcases Nat.lt_or_ge k (n*sz) with hk|hk
 ·have hq:k / sz<n:=by rw[Nat.div_lt_iff_lt_mul hs];exact hk
  have hr:k % sz<sz:=Nat.mod_lt _ hs;have e:k=k / sz*sz+k % sz:=by rw[Nat.mul_comm];exact(Nat.div_add_mod k sz).symm
  have h1:(madeCells z (n*sz)).toList[k]?=z.toList[k % sz]?:=by
   rw[madeCells,Array.toList_map,List.getElem?_map,Array.getElem?_toList,Array.getElem?_range,if_pos hk];simp only[Option.map_some];rw[hzs,getElem!_pos z _ z4va,Array.getElem?_toList,Array.getElem?_eq_getElem z4va]
  rw[h1,hz];conv=>rhs;rw[e]
  rw[D1 hf _ (k / sz) (k % sz) (by rw[List.length_replicate];exact hq) hr,List.getElem_replicate]
 ·rw[List.getElem?_eq_none (by rw[Array.length_toList,size_madeCells];exact hk),List.getElem?_eq_none (by rw[hl];exact hk)]
theorem A1q{α:Type}{T:TypeId}{f:α->List Value}{sz:Nat}(hf:∀x,(f x).length=sz)(hs:0<sz)(z:Array Value)(a:α)(hz:z.toList=f a)(n:Nat)(hn:n<=1000000){w:World}{g:Nat}(hg:w.heap[g]?=some (.cells (madeCells z (n*sz)) T (0,0))):w.ownsRow 0 T sz (.slice (some ⟨g,0,none⟩) n n) n (Bw f (List.replicate n a)):=
 ⟨by rw[Lr hf,List.length_replicate],.inr ⟨g,n,_,rfl,Nat.zero_le _,hg,Nat.le_refl _,by unfold maxLen;omega,size_madeCells _ _,by rw[Ag8 hf hs z a hz n,List.take_of_length_le];rw[Lr hf,List.length_replicate];exact Nat.le_refl _⟩⟩
end
end Go.Proofs.YtjdlndhfaaolaaaGreatDoor
