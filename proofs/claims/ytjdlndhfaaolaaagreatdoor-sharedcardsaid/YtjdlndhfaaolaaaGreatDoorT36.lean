import Derived.Test.YtjdlndhfaaolaaaGreatDoorT16
import Derived.Test.YtjdlndhfaaolaaaGreatDoorT28
import Derived.Test.YtjdlndhfaaolaaaGreatDoorT35
set_option maxHeartbeats 20000000
namespace Go.Proofs.YtjdlndhfaaolaaaGreatDoor
section
open Go.RowKit
open Go.Deep (BT)
variable {C:MC} {D X:Nat->Prop} {w w':World} {m:MS} {ρ β:Nat->Nat} {s:O4} {x:Eu} {fv:List Eu} {ab:List AB} {lp:List (Option Addr×Ey)}
theorem MC.Mv.Us(h:C.Mv D X w m ρ β s x fv ab lp)(hc:Ga 5 ρ w w'){ca:Option Addr}{cn cc:Nat}{fv':List Eu}{calls:List Fr}{x':Eu}{now:Fr}{fuel cells code line:Nat}
  (hcell:w'.heap[C.mb]?=some (.cells (C.cells { s with ca:=ca,cn:=cn,cc:=cc } x' fuel cells code line) 167 (0,0)))
  (hrow:w'.ownsRow 0 165 3 (.slice ca cn cc) fv'.length (C0 I3 fv')) (hro:∀g,(Value.slice ca cn cc).ownBlock=some g->(Value.slice s.ca s.cn s.cc).ownBlock=some g\/w.heap.size<=g) (hx:Ji D w x' now) (hfr:Kc D w fv' calls) (hl:calls.length<=100) :
  C.Mv D X w' { m with calls:=calls,now:=now,fuel:=fuel,cells:=cells,code:=code,line:=line } (F3 ρ w.heap.size 5) β { s with ca:=ca,cn:=cn,cc:=cc } x' fv' ab lp:=by
 have hbd:=h.F9 hc z51a;have hk:∀g,D g->g<w.heap.size->w'.heap[g]?=w.heap[g]?/\D g:=fun g hg _=>⟨hbd.block g (.inl hg),hg⟩;have hown:∀g,(Value.slice ca cn cc).ownBlock=some g->F3 ρ w.heap.size 5 g=5:=by
  intro g hg;rcases hro g hg with e|e
  ·rw[Br (Bs h.calls g e)];exact h.callo g e
  ·exact Hi e
 refine⟨hcell,h.prog.keep hk,B8 h.lots (fun g hg hl=>hc.block g hl z5ea z5ea),fun g hg=>by rw[Br (Bs h.lots g hg)];exact h.loto g hg,h.lotm,fun q hq=>(h.forms q hq).keep hk,
  B8 h.gl (fun g hg hl=>hc.block g hl z5ga z5ga),fun g hg=>by rw[Br (Bs h.gl g hg)];exact h.glo g hg,B8 h.vals (fun g hg hl=>hc.block g hl z5ca z5ca),fun g hg=>by rw[Br (Bs h.vals g hg)];exact h.valo g hg,
  hrow,hown,hfr.keep hk,hx.keep hk,
  B8 h.out (fun g hg hl=>hc.block g hl z5da z5da),fun g hg=>by rw[Br (Bs h.out g hg)];exact h.outo g hg,h.arr.keep (fun g hl h7=>⟨hc.block g hl z51a z51a,Br hl⟩),
  fun g hg=>⟨Nat.lt_of_lt_of_le (h.prot g hg).1 hc.size,by rw[Br (h.prot g hg).1];exact(h.prot g hg).2⟩,⟨by rw[Br h.lo.1];exact h.one.1,fun g hg=>?_⟩,⟨h.Bw.1,hl,h.Bw.2.2⟩,h.vv⟩
 exact z17a
theorem MC.Mv.Akm(h:C.Mv D X w m ρ β s x fv ab lp)(hc:Ga 6 ρ w w'){oa:Option Addr}{on oc:Nat}{out:List (List UInt8)}{x':Eu}{now:Fr}{fuel cells code line:Nat}
  (hcell:w'.heap[C.mb]?=some (.cells (C.cells { s with oa:=oa,on:=on,oc:=oc } x' fuel cells code line) 167 (0,0)))
  (hrow:w'.ownsRow 0 9 1 (.slice oa on oc) out.length (C0 Si out)) (hro:∀g,(Value.slice oa on oc).ownBlock=some g->(Value.slice s.oa s.on s.oc).ownBlock=some g\/w.heap.size<=g) (hx:Ji D w x' now) (hl:out.length<=100) :
  C.Mv D X w' { m with out:=out,now:=now,fuel:=fuel,cells:=cells,code:=code,line:=line } (F3 ρ w.heap.size 6) β { s with oa:=oa,on:=on,oc:=oc } x' fv ab lp:=by
 have hbd:=h.F9 hc z51a;have hk:∀g,D g->g<w.heap.size->w'.heap[g]?=w.heap[g]?/\D g:=fun g hg _=>⟨hbd.block g (.inl hg),hg⟩;have hown:∀g,(Value.slice oa on oc).ownBlock=some g->F3 ρ w.heap.size 6 g=6:=by
  intro g hg;rcases hro g hg with e|e
  ·rw[Br (Bs h.out g e)];exact h.outo g e
  ·exact Hi e
 refine⟨hcell,h.prog.keep hk,B8 h.lots (fun g hg hl=>hc.block g hl z5ea z5ea),fun g hg=>by rw[Br (Bs h.lots g hg)];exact h.loto g hg,h.lotm,fun q hq=>(h.forms q hq).keep hk,
  B8 h.gl (fun g hg hl=>hc.block g hl z5ga z5ga),fun g hg=>by rw[Br (Bs h.gl g hg)];exact h.glo g hg,B8 h.vals (fun g hg hl=>hc.block g hl z5ca z5ca),fun g hg=>by rw[Br (Bs h.vals g hg)];exact h.valo g hg,
  B8 h.calls (fun g hg hl=>hc.block g hl z5ba z5ba),fun g hg=>by rw[Br (Bs h.calls g hg)];exact h.callo g hg,h.frs.keep hk,hx.keep hk,
  hrow,hown,h.arr.keep (fun g hl h7=>⟨hc.block g hl z51a z51a,Br hl⟩),
  fun g hg=>⟨Nat.lt_of_lt_of_le (h.prot g hg).1 hc.size,by rw[Br (h.prot g hg).1];exact(h.prot g hg).2⟩,⟨by rw[Br h.lo.1];exact h.one.1,fun g hg=>?_⟩,⟨h.Bw.1,h.Bw.2.1,hl⟩,h.vv⟩
 exact z17a
theorem MC.Mv.Y4(h:C.Mv D X w m ρ β s x fv ab lp)(hc:Ga 3 ρ w w'){ga:Option Addr}{gn gc:Nat}{gl:List PV}{x':Eu}{now:Fr}{fuel cells code line:Nat}
  (hcell:w'.heap[C.mb]?=some (.cells (C.cells { s with ga:=ga,gn:=gn,gc:=gc } x' fuel cells code line) 167 (0,0)))
  (hrow:w'.ownsRow 0 225 5 (.slice ga gn gc) gl.length (C0 (Cb β) gl)) (hro:∀g,(Value.slice ga gn gc).ownBlock=some g->(Value.slice s.ga s.gn s.gc).ownBlock=some g\/w.heap.size<=g) (hx:Ji D w x' now) (hvv:∀v∈gl,Cc m.arr.length v) :
  C.Mv D X w' { m with gl:=gl,now:=now,fuel:=fuel,cells:=cells,code:=code,line:=line } (F3 ρ w.heap.size 3) β { s with ga:=ga,gn:=gn,gc:=gc } x' fv ab lp:=by
 have hbd:=h.F9 hc z51a;have hk:∀g,D g->g<w.heap.size->w'.heap[g]?=w.heap[g]?/\D g:=fun g hg _=>⟨hbd.block g (.inl hg),hg⟩;have hown:∀g,(Value.slice ga gn gc).ownBlock=some g->F3 ρ w.heap.size 3 g=3:=by
  intro g hg;rcases hro g hg with e|e
  ·rw[Br (Bs h.gl g e)];exact h.glo g e
  ·exact Hi e
 refine⟨hcell,h.prog.keep hk,B8 h.lots (fun g hg hl=>hc.block g hl z5ea z5ea),fun g hg=>by rw[Br (Bs h.lots g hg)];exact h.loto g hg,h.lotm,fun q hq=>(h.forms q hq).keep hk,
  hrow,hown,B8 h.vals (fun g hg hl=>hc.block g hl z5ca z5ca),fun g hg=>by rw[Br (Bs h.vals g hg)];exact h.valo g hg,
  B8 h.calls (fun g hg hl=>hc.block g hl z5ba z5ba),fun g hg=>by rw[Br (Bs h.calls g hg)];exact h.callo g hg,h.frs.keep hk,hx.keep hk,
  B8 h.out (fun g hg hl=>hc.block g hl z5da z5da),fun g hg=>by rw[Br (Bs h.out g hg)];exact h.outo g hg,h.arr.keep (fun g hl h7=>⟨hc.block g hl z51a z51a,Br hl⟩),
  fun g hg=>⟨Nat.lt_of_lt_of_le (h.prot g hg).1 hc.size,by rw[Br (h.prot g hg).1];exact(h.prot g hg).2⟩,⟨by rw[Br h.lo.1];exact h.one.1,fun g hg=>?_⟩,h.Bw,⟨h.vv.1,hvv,h.vv.2.2⟩⟩
 exact z17a
theorem MC.Mv.Akl(h:C.Mv D X w m ρ β s x fv ab lp)(hc:Ga 2 ρ w w'){la:Option Addr}{ln lc:Nat}{lp':List (Option Addr×Ey)}{x':Eu}{now:Fr}{fuel cells code line:Nat}
  (hcell:w'.heap[C.mb]?=some (.cells (C.cells { s with la:=la,ln:=ln,lc:=lc } x' fuel cells code line) 167 (0,0)))
  (hrow:w'.ownsRow 0 172 4 (.slice la ln lc) lp'.length (C0 Im lp')) (hro:∀g,(Value.slice la ln lc).ownBlock=some g->(Value.slice s.la s.ln s.lc).ownBlock=some g\/w.heap.size<=g) (hx:Ji D w x' now) (hf:∀q∈lp',Lt D w q.1 q.2.form) :
  C.Mv D X w' { m with lots:=lp'.map Prod.snd,now:=now,fuel:=fuel,cells:=cells,code:=code,line:=line } (F3 ρ w.heap.size 2) β { s with la:=la,ln:=ln,lc:=lc } x' fv ab lp':=by
 have hbd:=h.F9 hc z51a;have hk:∀g,D g->g<w.heap.size->w'.heap[g]?=w.heap[g]?/\D g:=fun g hg _=>⟨hbd.block g (.inl hg),hg⟩;have hown:∀g,(Value.slice la ln lc).ownBlock=some g->F3 ρ w.heap.size 2 g=2:=by
  intro g hg;rcases hro g hg with e|e
  ·rw[Br (Bs h.lots g e)];exact h.loto g e
  ·exact Hi e
 refine⟨hcell,h.prog.keep hk,hrow,hown,rfl,fun q hq=>(hf q hq).keep hk,
  B8 h.gl (fun g hg hl=>hc.block g hl z5ga z5ga),fun g hg=>by rw[Br (Bs h.gl g hg)];exact h.glo g hg,B8 h.vals (fun g hg hl=>hc.block g hl z5ca z5ca),fun g hg=>by rw[Br (Bs h.vals g hg)];exact h.valo g hg,
  B8 h.calls (fun g hg hl=>hc.block g hl z5ba z5ba),fun g hg=>by rw[Br (Bs h.calls g hg)];exact h.callo g hg,h.frs.keep hk,hx.keep hk,
  B8 h.out (fun g hg hl=>hc.block g hl z5da z5da),fun g hg=>by rw[Br (Bs h.out g hg)];exact h.outo g hg,h.arr.keep (fun g hl h7=>⟨hc.block g hl z51a z51a,Br hl⟩),
  fun g hg=>⟨Nat.lt_of_lt_of_le (h.prot g hg).1 hc.size,by rw[Br (h.prot g hg).1];exact(h.prot g hg).2⟩,⟨by rw[Br h.lo.1];exact h.one.1,fun g hg=>?_⟩,h.Bw,h.vv⟩
 exact z17a
theorem MC.Ms.Afy(h:C.Ms D X β w m)(Y:Nat->Prop)(hY:∀g,Y g->X g):C.Ms (fun g=>D g\/Y g) X β w m:=by
 obtain⟨ρ,s,x,fv,ab,lp,h⟩:=h;have hk:∀g,D g->g<w.heap.size->w.heap[g]?=w.heap[g]?/\(D g\/Y g):=fun g hg _=>⟨rfl,.inl hg⟩;refine⟨ρ,s,x,fv,ab,lp,h.cell,h.prog.keep hk,h.lots,h.loto,h.lotm,fun q hq=>(h.forms q hq).keep hk,h.gl,h.glo,h.vals,h.valo,h.calls,h.callo,h.frs.keep hk,h.now.keep hk,h.out,h.outo,h.arr,?_,h.one,h.Bw,h.vv⟩;intro g hg;rcases hg with(hg|hg)|hg
 ·exact h.prot g (.inl hg)
 ·exact h.prot g (.inr (hY g hg))
 ·exact h.prot g (.inr hg)
theorem Ad8:∀{xs:List Eu} {fs:List Fr},Kc D w xs fs->Ji D w (xs.getLastD Ns) (fs.getLastD ⟨[],0,0⟩):=by
 intro xs;induction xs with
 | nil=>intro fs h;cases fs with
  | nil=>exact⟨Oq _ _ _ _,rfl,rfl⟩
  | cons=>exact h.elim
 | cons x xs ih=>intro fs h;cases fs with
  | nil=>exact h.elim
  | cons f fs=>
   cases xs with
   | nil=>cases fs with
    | nil=>exact h.1
    | cons=>exact h.2.elim
   | cons y ys=>cases fs with
    | nil=>exact h.2.elim
    | cons g gs=>
     have q:=ih (fs:=g::gs) h.2;simpa only[List.getLastD_cons]using q
theorem Kc.less:∀{xs:List Eu} {fs:List Fr},Kc D w xs fs->Kc D w xs.dropLast fs.dropLast:=by
 intro xs;induction xs with
 | nil=>intro fs h;cases fs with
  | nil=>trivial
  | cons=>exact h.elim
 | cons x xs ih=>intro fs h;cases fs with
  | nil=>exact h.elim
  | cons f fs=>
   cases xs with
   | nil=>cases fs with
    | nil=>trivial
    | cons=>exact h.2.elim
   | cons y ys=>cases fs with
    | nil=>exact h.2.elim
    | cons g gs=>exact⟨h.1,ih h.2⟩
def Ro(x:Eu):Value:=.agg #[.slice x.a x.n x.c,.int .i64 (x.pc:Nat),.int .i64 x.base]
theorem MC.Ms.A0k(h:C.Ms D X β w m):Calls Tryz.prog 202 #[.pointer (some ⟨C.mb,5,none⟩)] w fun e w'=>e=.returned (.int .i64 (m.calls.length:Nat))/\w'=w:=by
 obtain⟨ρ,s,x,fv,ab,lp,h⟩:=h;rw[<-h.frs.len];exact Wo h.Me
theorem MC.Ms.A0q(h:C.Ms D X β w m):Calls Tryz.prog 206 #[.pointer (some ⟨C.mb,5,none⟩)] w fun e w'=>∃x,e=.returned (Ro x)/\Ji D w' x (m.calls.getLastD ⟨[],0,0⟩)/\C.Ms D X β w' { m with calls:=m.calls.dropLast }/\A3 (dx D X) w w':=by
 obtain⟨ρ,s,x,fv,ab,lp,h⟩:=h;have hfl:=h.frs.len;refine(Adf h.Me (by have:=h.Bw.2.1;omega) z65a (fv.getLastD Ns) rfl).mono ?_;rintro e w1 ⟨rfl,hs,hf⟩;have hc:Ga 5 ρ w w1:=Rc hf h.one.1 h.callo;have hbd:=h.F9 hc z51a;refine⟨_,rfl,(Ad8 h.frs).keep (fun g hg _=>⟨hbd.block g (.inl hg),hg⟩),⟨_,{ s with ca:=s.ca,cn:=fv.length-1,cc:=s.cc },x,fv.take (fv.length-1),ab,lp,h.Us hc ?_ hs.own (fun g hg=>.inl ((Mb _ _ _ _).trans hg)) h.now ?_ ?_⟩,hbd⟩
 ·rw[hs.blk];simp[MC.cells]
 ·rw[Yd];exact h.frs.less
 ·have:=h.Bw.2.1;simp;omega
theorem MC.Ms.Ad7(h:C.Ms D X β w m)(u:Eu)(f:Fr)(hu:Ji D w u f)(hn:m.calls.length+1<=100):Calls Tryz.prog 203 #[.pointer (some ⟨C.mb,5,none⟩),Ro u] w (MP C D X β w { m with calls:=m.calls++[f] } (.tuple #[])):=by
 obtain⟨ρ,s,x,fv,ab,lp,h⟩:=h;have hfl:=h.frs.len;refine(Adg h.Me z51a u z65a).mono ?_;rintro e w1 ⟨rfl,g,cap,hs,hat,hf⟩;have hc:Ga 5 ρ w w1:=Rc hf h.one.1 h.callo;refine⟨rfl,⟨_,{ s with ca:=some ⟨g,0,none⟩,cn:=fv.length+1,cc:=cap },x,fv++[u],ab,lp,h.Us hc ?_ hs.own ?_ h.now (h.frs.app hu) z54a⟩,h.F9 hc z51a⟩
 ·rw[hs.blk];simp[MC.cells]
 ·intro k hk;exact z3ga
theorem MC.Ms.U6(h:C.Ms D X β w m):∃x,Ji D w x m.now/\w.cell? ⟨C.mb,6,none⟩=some (.slice x.a x.n x.c)/\w.cell? ⟨C.mb,7,none⟩=some (.int .i64 (x.pc:Nat))/\w.cell? ⟨C.mb,8,none⟩=some (.int .i64 x.base)/\(∀o,w.frozen? ⟨C.mb,o,none⟩=false):=by
 obtain⟨ρ,s,x,fv,ab,lp,h⟩:=h;exact⟨x,h.now,A2 h.cell 6 _ rfl,A2 h.cell 7 _ rfl,A2 h.cell 8 _ rfl,Bh h.cell⟩
theorem MC.Ms.Se(h:C.Ms D X β w m)(u:Eu)(f:Fr)(hu:Ji D w u f):C.Ms D X β (((w.setCell ⟨C.mb,6,none⟩ (.slice u.a u.n u.c)).setCell ⟨C.mb,7,none⟩ (.int .i64 (u.pc:Nat))).setCell ⟨C.mb,8,none⟩ (.int .i64 u.base)) { m with now:=f }/\A3 (dx D X) w (((w.setCell ⟨C.mb,6,none⟩ (.slice u.a u.n u.c)).setCell ⟨C.mb,7,none⟩ (.int .i64 (u.pc:Nat))).setCell ⟨C.mb,8,none⟩ (.int .i64 u.base)):=by
 obtain⟨ρ,s,x,fv,ab,lp,hv⟩:=h;refine hv.plain (now:=f) (x':=u) hu ?_ (fun g _ hne=>?_) z5fa (by simp only[Qs]) (by simp only[Qu]) (by simp only[Qt])
 ·rw[heap_set (j:=8) (heap_set (j:=7) (heap_set (j:=6) hv.cell _) _) _];simp[MC.cells]
 ·rw[Below.heap_setCell _ _ _ _ z5sa,Below.heap_setCell _ _ _ _ z5sa,Below.heap_setCell _ _ _ _ z5sa]
end
section
set_option maxRecDepth 100000
open Go.RowKit
open Go.Deep (BT)
variable {C:MC} {D X:Nat->Prop} {w w':World} {m:MS} {β:Nat->Nat}
theorem MC.Ms.Qo(h:C.Ms D X β w m){a b:PV}(ha:Cc m.arr.length a)(hb:Cc m.arr.length b)(d:Nat):(Op.equalIn (d+1) 223 (.pointer (Bq β a)) (.pointer (Bq β b))).run Tryz.prog w=.ok (a.r==b.r) w:=by
 obtain⟨ρ,s,x,fv,ab,lp,h⟩:=h;have hp:Tryz.prog.underlying 223=some (.pointer 356):=by kernel_rfl
 have hs:(Tryz.prog.info? 356).map (fun j=>j.size !=0)=some true:=by kernel_rfl
 cases hj:Tryz.prog.info? 356 with
 | none=>rw[hj]at hs;cases hs
 | some j=>
 have hz:j.size≠0:=by rw[hj]at hs;simpa using hs
 unfold Bq;unfold Cc at ha hb;cases hr:a.r with
 | none=>
  cases hr':b.r with
  | none=>simp[Op.equalIn,run_underlying hp]
  | some y=>simp[Op.equalIn,run_underlying hp]
 | some x=>
  cases hr':b.r with
  | none=>simp[Op.equalIn,run_underlying hp]
  | some y=>
   rw[hr]at ha;rw[hr']at hb;have hl:=h.arr.len;obtain⟨k1,_,k3,_⟩:=h.arr.at' x z51a ha.2;obtain⟨l1,_,l3,_⟩:=h.arr.at' y z51a hb.2;by_cases he:x=y
   ·rw[he];simp[Op.equalIn,run_underlying hp,sizeOf,typeInfo,hj,run_sameAddr_same]
   ·have hne:(⟨β x,0,none⟩:Addr)≠⟨β y,0,none⟩:=by
     intro e;have e1:β x=β y:=by injection e
     rw[e1]at k3;omega
    have hs:=run_sameAddr_other (P:=Tryz.prog) w hne k1 l1;have hq:((some x:Option Nat)==some y)=false:=by simp[he]
    rw[hq];simp[Op.equalIn,run_underlying hp,sizeOf,typeInfo,hj,hz,hs]
theorem Vw(a b:List UInt8):((⟨a.toArray⟩:ByteArray).toList==(⟨b.toArray⟩:ByteArray).toList)=(a==b):=by
 have h1:∀l:List UInt8,(⟨l.toArray⟩:ByteArray).toList=l:=fun l=>by simp[ByteArray.toList_mk]
 rw[h1,h1]
theorem z2na {P:Prop} (h:P:=by
  have hn':=hn;clear hn;go_enter Tryz.func254,Tryz.ntmps254;go_wp2;go_ret;exact⟨rfl,Below.alloc (Below.alloc (Below.refl _ _) (Nat.le_refl _) _) z56a _⟩):P:=h
theorem O7(a b:PV)(β:Nat->Nat)(w:World):Calls Tryz.prog 254 #[B0 β a,B0 β b] w fun e w'=>e=.returned (.bool (before a b))/\Below w.heap.size w w':=by
 unfold B0 before;cases hn:decide (a.n<b.n)
 ·exact z2na
 ·exact z2na
theorem z01a {P:Prop} (h:P:=by
  go_wp2_with fail
  refine((B4.o _ z50a).1).mono ?_;rintro e w2 ⟨rfl,h2,k2⟩;have Aj:=A0 h2.back;have Aa:Hid (A3 (dx D X) w w2):=(B4.o _ z50a).2.trans (Ag k2);clear h2 k2;go_wp2;go_end0;exact⟨rfl,Aj.o,Aa.o⟩):P:=h
theorem A70(h:C.Ms D X β w m)(i:Af)(hva:Cc m.arr.length m.pop.top)(hvb:Cc m.arr.length m.top)(hn:m.vals.length+1<=100000)(he:m.pop.top=m.top):Calls Tryz.prog 219 #[.pointer (some ⟨C.mb,0,none⟩),Ac i] w (MP C D X β w (m.pop.pop.push (ofBool true)) (.tuple #[])):=by
 obtain⟨w0,An,Aq,Ah,Am,Ar,n0,n1,n2,n3,n4,n5,n6,n7,ln,lb,C2⟩:=h.C6 i;clear h;have HT:=A0 (Ei Aq.o);rw[he]at hva HT;clear he;generalize m.top=v at *;unfold Ac;go_enter Tryz.func219,Tryz.ntmps219;go_wp2_with fail
 rw[<-An.o];refine HT.o.mono ?_;rintro e w1 ⟨rfl,h1,k1⟩;unfold B0;have Bp:=h1.Aw;have A7:=A0 h1;have A4:Hid (A3 (dx D X) w w1):=Ah.o.trans (Ag k1);have Ad:=(k1.block _ Am.o).trans Ar.o;have Bt:=A0 Ad;clear n0 n1 n2 n3 n4 n5 n6 n7 ln;obtain⟨n0,n1,n2,n3,n4,n5,n6,n7,ln⟩:=B3 Ad;clear h1 k1 Ad;have B4:=A0 (fun(W:World) (hb:Below w1.heap.size w1 W)=>And.intro (Jf (A7.o.below hb).1 true z58a) (A4.o.trans (Ag (A7.o.below hb).2)));have hqe:=fun(o o':Obj)=>(A7.o.below (Below.alloc (Below.alloc (Below.refl _ _) (Nat.le_refl _) o) z56a o')).1.Qo hva hvb 9998;exact z01a
theorem z1ka {P:Prop} (h:P:=by
  cases h:(u.k==v.k)
  ·rw[beq_eq_false_iff_ne]at h ⊢;omega
  ·rw[beq_iff_eq]at h ⊢;omega):P:=h
theorem z0ua {P:Prop} (h:P:=by
  unfold Ac;go_enter Tryz.func219,Tryz.ntmps219;go_wp2_with fail
  rw[<-An.o];refine HT.o.mono ?_;rintro e w1 ⟨rfl,h1,k1⟩;unfold B0;have Bp:=h1.Aw;have A7:=A0 h1;have A4:Hid (A3 (dx D X) w w1):=Ah.o.trans (Ag k1);have Ad:=(k1.block _ Am.o).trans Ar.o;have Bt:=A0 Ad;clear n0 n1 n2 n3 n4 n5 n6 n7 ln;obtain⟨n0,n1,n2,n3,n4,n5,n6,n7,ln⟩:=B3 Ad;clear h1 k1 Ad;have B4:=A0 (fun(W:World) (hb:Below w1.heap.size w1 W)=>And.intro (Jf (A7.o.below hb).1 false z58a) (A4.o.trans (Ag (A7.o.below hb).2)));have hqe:=fun(o o':Obj)=>(A7.o.below (Below.alloc (Below.alloc (Below.refl _ _) (Nat.le_refl _) o) z56a o')).1.Qo hva hvb 9998;exact z01a):P:=h
theorem z34a {P:Prop} (h:P:=by
  obtain⟨w0,An,Aq,Ah,Am,Ar,n0,n1,n2,n3,n4,n5,n6,n7,ln,lb,C2⟩:=h.C6 i;clear h;have HT:=A0 (Ei Aq.o);generalize m.pop.top=u at *;generalize m.top=v at *;have tk:((u.k:Int)==(v.k:Int))=(u.k==v.k):=by
   exact z1ka
  rw[hk]at tk;clear hk;exact z0ua):P:=h
theorem A6x(h:C.Ms D X β w m)(i:Af)(hva:Cc m.arr.length m.pop.top)(hvb:Cc m.arr.length m.top)(hn:m.vals.length+1<=100000)(hk:(m.pop.top.k==m.top.k)=false):Calls Tryz.prog 219 #[.pointer (some ⟨C.mb,0,none⟩),Ac i] w (MP C D X β w (m.pop.pop.push (ofBool false)) (.tuple #[])):=by
 exact z34a
theorem A72(h:C.Ms D X β w m)(i:Af)(hva:Cc m.arr.length m.pop.top)(hvb:Cc m.arr.length m.top)(hn:m.vals.length+1<=100000)(hk:(m.pop.top.k==m.top.k)=true)(hy:(m.pop.top.y==m.top.y)=false):Calls Tryz.prog 219 #[.pointer (some ⟨C.mb,0,none⟩),Ac i] w (MP C D X β w (m.pop.pop.push (ofBool false)) (.tuple #[])):=by
 exact z34a
theorem A6y(h:C.Ms D X β w m)(i:Af)(hva:Cc m.arr.length m.pop.top)(hvb:Cc m.arr.length m.top)(hn:m.vals.length+1<=100000)(hk:(m.pop.top.k==m.top.k)=true)(hy:(m.pop.top.y==m.top.y)=true)(hnn:(m.pop.top.n==m.top.n)=false):Calls Tryz.prog 219 #[.pointer (some ⟨C.mb,0,none⟩),Ac i] w (MP C D X β w (m.pop.pop.push (ofBool false)) (.tuple #[])):=by
 exact z34a
theorem A71(h:C.Ms D X β w m)(i:Af)(hva:Cc m.arr.length m.pop.top)(hvb:Cc m.arr.length m.top)(hn:m.vals.length+1<=100000)(hk:(m.pop.top.k==m.top.k)=true)(hy:(m.pop.top.y==m.top.y)=true)(hnn:(m.pop.top.n==m.top.n)=true)(ht:(m.pop.top.t==m.top.t)=false):Calls Tryz.prog 219 #[.pointer (some ⟨C.mb,0,none⟩),Ac i] w (MP C D X β w (m.pop.pop.push (ofBool false)) (.tuple #[])):=by
 obtain⟨w0,An,Aq,Ah,Am,Ar,n0,n1,n2,n3,n4,n5,n6,n7,ln,lb,C2⟩:=h.C6 i;clear h;have HT:=A0 (Ei Aq.o);generalize m.pop.top=u at *;generalize m.top=v at *;have tk:((u.k:Int)==(v.k:Int))=(u.k==v.k):=by
  exact z1ka
 rw[hk]at tk;clear hk;have ht2:=ht;exact z0ua
theorem A6z(h:C.Ms D X β w m)(i:Af)(hva:Cc m.arr.length m.pop.top)(hvb:Cc m.arr.length m.top)(hn:m.vals.length+1<=100000)(hk:(m.pop.top.k==m.top.k)=true)(hy:(m.pop.top.y==m.top.y)=true)(hnn:(m.pop.top.n==m.top.n)=true)(ht:(m.pop.top.t==m.top.t)=true)(hr:(m.pop.top.r==m.top.r)=false):Calls Tryz.prog 219 #[.pointer (some ⟨C.mb,0,none⟩),Ac i] w (MP C D X β w (m.pop.pop.push (ofBool false)) (.tuple #[])):=by
 obtain⟨w0,An,Aq,Ah,Am,Ar,n0,n1,n2,n3,n4,n5,n6,n7,ln,lb,C2⟩:=h.C6 i;clear h;have HT:=A0 (Ei Aq.o);generalize m.pop.top=u at *;generalize m.top=v at *;have tk:((u.k:Int)==(v.k:Int))=(u.k==v.k):=by
  exact z1ka
 rw[hk]at tk;clear hk;have ht2:=ht;unfold Ac;go_enter Tryz.func219,Tryz.ntmps219;go_wp2_with fail
 rw[<-An.o];refine HT.o.mono ?_;rintro e w1 ⟨rfl,h1,k1⟩;unfold B0;have Bp:=h1.Aw;have A7:=A0 h1;have A4:Hid (A3 (dx D X) w w1):=Ah.o.trans (Ag k1);have Ad:=(k1.block _ Am.o).trans Ar.o;have Bt:=A0 Ad;clear n0 n1 n2 n3 n4 n5 n6 n7 ln;obtain⟨n0,n1,n2,n3,n4,n5,n6,n7,ln⟩:=B3 Ad;clear h1 k1 Ad;have B4:=A0 (fun(W:World) (hb:Below w1.heap.size w1 W)=>And.intro (Jf (A7.o.below hb).1 false z58a) (A4.o.trans (Ag (A7.o.below hb).2)));have hqe:=fun(o o':Obj)=>(A7.o.below (Below.alloc (Below.alloc (Below.refl _ _) (Nat.le_refl _) o) z56a o')).1.Qo hva hvb 9998;rw[hr]at hqe;exact z01a
theorem MC.Ms.Ze(h:C.Ms D X β w m):w.cell? ⟨C.mb,1,none⟩=some (.slice C.ba C.bn C.bc):=by
 obtain⟨ρ,s,x,fv,ab,lp,h⟩:=h;exact A2 h.cell 1 _ rfl
def A5p(n c:Nat)(bets:List Dc)(w:World)(e:Ending)(w':World):Prop:=Below w.heap.size w w'/\((e=.returned (.int .i64 (-1))/\taken n c bets=none)\/∃j,∃h:j<bets.length,e=.returned (.int .i64 (j:Nat))/\taken n c bets=some bets[j])
theorem z1xa {P:Prop} (h:P:=by
  go_wp2;go_roundg j
  case measure=>omega
  case rel=>
   refine⟨by omega,?_,HM.o,⟨HB.o.os,HB.o.tape,HB.o.output,HB.o.size,HB.o.block⟩⟩;cases j with
   | zero=>exact .inl ⟨rfl,by simp⟩
   | succ j=>exact .inr ⟨j,rfl,by simp⟩):P:=h
theorem Ao9(h:C.Ms D X β w m){K:Nat->Prop}{bets:List Dc}(hb:Iy K w (.slice C.ba C.bn C.bc) bets)(hl:bets.length<=1000)(n c:Nat) :
  Calls Tryz.prog 245 #[.pointer (some ⟨C.mb,0,none⟩),.int .i64 (n:Nat),.int .i64 (c:Nat)] w (A5p n c bets w):=by
 have c1:=h.Ze;have lb:=h.Aw;obtain⟨a,cc,ev,hcc,hbt⟩:=hb;injection ev with e1 e2 e3;have HBt:=A0 hbt;rw[e1,e2,e3]at c1;clear h hbt e1 e2 e3;go_enter Tryz.func245,Tryz.ntmps245;have hst:IntKind.i64.wrap ((bets.length:Int)-1)=(bets.length:Int)-1:=by rw[IntKind.wrap_i64];omega
 go_wp2;go_loopg [7] bets.length (fun k v wr=>k<=bets.length/\((k=0/\v=.int .i64 (-1))\/(∃j:Nat,k=j+1/\v=.int .i64 (j:Nat)))/\taken n c (bets.drop k)=none/\Below w.heap.size w wr)
 case atStart=>
  refine⟨Nat.le_refl _,?_,by rw[List.drop_length];rfl,Below.refl _ _⟩;cases hl9:bets.length with
  | zero=>exact .inl ⟨rfl,by simp⟩
  | succ j=>exact .inr ⟨j,rfl,by simp⟩
 case round=>
  obtain⟨hk,hv,htk,hbel⟩:=hrel;have c1r:=(World.cell?_of_block (hbel.block C.mb lb)).trans c1;have ls:=hbel.size;have lbr:C.mb<wr.heap.size:=by omega
  have HB:=A0 hbel;have HTk:=A0 htk;clear htk c1;rcases hv with⟨h0,rfl⟩|⟨j,hj,rfl⟩
  ·clear hbel;rw[h0,List.drop_zero]at HTk;go_wp2;exact bodyPost_ret (v:=.int .i64 (-1)) (by simp[results,Tryz.results245,go_sem]) rfl ⟨HB.o,.inl ⟨rfl,HTk.o⟩⟩
  ·have hjl:j<bets.length:=by omega
   obtain⟨g,o,rfl,_,hgl,hcell⟩:=HBt.o z51a;obtain⟨q0,q1,kv,iv,_⟩:=hcell j hjl;have d0:=(World.cell?_of_block (hbel.block g hgl)).trans q0;have d1:=(World.cell?_of_block (hbel.block g hgl)).trans q1;have d1':=d1;rw[<-Nat.add_assoc]at d1';have lg:g<wr.heap.size:=by omega
   rw[hj]at HTk;have hcl:=hcc;clear hbel q0 q1 hcell;generalize hbj:bets[j]=bj at *;have HBj:=A0 hbj;clear hbj;cases t1:(bj.fn==((n:Nat):Int))
   ·have HM:=A0 (A4a hjl HTk.o (fun q=>by rw[HBj.o]at q;rw[q.1]at t1;simp at t1));exact z1xa
   ·cases t2:(bj.after==((c:Nat):Int))
    ·have HM:=A0 (A4a hjl HTk.o (fun q=>by rw[HBj.o]at q;rw[q.2]at t2;simp at t2));exact z1xa
    ·have HM:=A0 (Aoc hjl HTk.o (by rw[HBj.o];exact eq_of_beq t1) (by rw[HBj.o];exact eq_of_beq t2));go_wp2;refine bodyPost_ret (v:=.int .i64 (j:Nat)) (by simp[results,Tryz.results245,go_sem]) rfl ⟨⟨HB.o.os,HB.o.tape,HB.o.output,HB.o.size,HB.o.block⟩,.inr ⟨j,hjl,rfl,HM.o⟩⟩
structure Kp (D : Nat -> Prop) (w : World) (bb oo slots : Nat) (steps : List Af) (sa : Option Addr) (sn sc : Nat) : Prop where
 kept:D bb
 slots:w.cell? ⟨bb,oo,none⟩=some (.int .i64 (slots:Nat))
 row:w.cell? ⟨bb,oo+1,none⟩=some (.slice sa sn sc)
 own:Cz D w 251 8 (.slice sa sn sc) steps.length (El steps)
theorem Kp.keep{bb oo slots:Nat}{steps:List Af}{sa:Option Addr}{sn sc:Nat}(h:Kp D w bb oo slots steps sa sn sc)(hb:A3 (dx D X) w w'):Kp D w' bb oo slots steps sa sn sc:=
 ⟨h.kept,(World.cell?_of_block (hb.block bb (.inl h.kept))).trans h.slots,(World.cell?_of_block (hb.block bb (.inl h.kept))).trans h.row,h.own.keep (fun g hg _=>⟨hb.block g (.inl hg),hg⟩)⟩
theorem A1h(h:C.Ms D X β w m){bb oo slots args:Nat}{steps:List Af}{sa:Option Addr}{sn sc:Nat}(hB:Kp D w bb oo slots steps sa sn sc)(hs:slots<=10000)(ha:args<=10000)(hn:m.vals.length+slots<=90000) :
  Calls Tryz.prog 57 #[.pointer (some ⟨C.mb,0,none⟩),.pointer (some ⟨bb,oo,none⟩),.int .i64 (args:Nat)] w (MP C D X β w (m.begin slots steps args) (.tuple #[])):=by
 have c0:=hB.slots;have c1:=hB.row;have lb:=h.Aw;have lc:=block_lt_of_cell c0;have HL:=A0 h.Hq.len;obtain⟨x0,_,g6,g7,g8,gz⟩:=h.U6;have HS:=A0 h;have HBd:=A0 hB;clear h hB;go_enter Tryz.func57,Tryz.ntmps57;go_wp2;go_region_law (refine F2 rfl 98 _ _ rfl #[.pointer (some ⟨C.mb,4,none⟩)] z53a HL.o ?_;rintro e w1 ⟨rfl,Fx⟩;subst Fx;refine⟨_,rfl,?_⟩)
 all_goals
  have Dr:IntKind.i64.wrap ((m.vals.length:Int)-(args:Nat))=(m.vals.length:Int)-(args:Nat):=by rw[IntKind.wrap_i64];omega
  rw[Dr];obtain⟨W1,hW1⟩:∃W1,W1=(((w.setCell ⟨C.mb,6,none⟩ (.slice sa sn sc)).setCell ⟨C.mb,7,none⟩ (.int .i64 0)).setCell ⟨C.mb,8,none⟩ (.int .i64 ((m.vals.length:Int)-(args:Nat)))).drew:=⟨_,rfl⟩;rw[<-hW1];have hq:=HS.o.Se ⟨sa,sn,sc,0,(m.vals.length:Int)-(args:Nat)⟩ ⟨steps,0,(m.vals.length:Int)-(args:Nat)⟩ ⟨HBd.o.own,rfl,rfl⟩;have s1:C.Ms D X β W1 { m with now:=⟨steps,0,(m.vals.length:Int)-(args:Nat)⟩ }:=by rw[hW1];exact hq.1.Hq
  have s2:A3 (dx D X) w W1:=by rw[hW1];exact hq.2.trans (Dv _ _ 1)
  clear hq Dr c0 c1 lc g6 g7 g8 gz;have c0:=(HBd.o.keep s2).slots;have Bp:=s1.Aw;have lc:=block_lt_of_cell c0;have A7:=A0 s1;have A4:=A0 s2;clear s1 s2 hW1 HL HS;go_wp2;go_loopg [26] (slots-args) (fun k v wr=>∃i:Nat,v=.int .i64 i/\i+k=slots-args/\C.Ms D X β wr { m with now:=⟨steps,0,(m.vals.length:Int)-(args:Nat)⟩,vals:=m.vals++Jz i }/\A3 (dx D X) w wr)
  case atStart=>exact⟨0,rfl,by omega,by simpa [Jz]using A7.o,A4.o⟩
  case round=>
   obtain⟨i,rfl,hik,hsr,hbr⟩:=hrel;have HBr:=A0 hbr;have HSr:=A0 hsr;have lbr:=hsr.Aw;clear hbr;by_cases hlt:i<slots-args
   ·have t0:((i:Nat):Int)<((slots:Nat):Int)-((args:Nat):Int):=by omega
    have HP:Hid (Calls Tryz.prog 99 #[.pointer (some ⟨C.mb,4,none⟩),.agg #[.int .i64 0,.bool false,.int .i64 0,.string ⟨#[]⟩,.pointer none]] wr (MP C D X β wr ({ m with now:=⟨steps,0,(m.vals.length:Int)-(args:Nat)⟩,vals:=m.vals++Jz i }.push Ab) (.tuple #[]))):=hsr.push Ab (by simp[Cc,Ab]) (by simp[Jz];omega);clear hsr;go_wp2_with fail
    refine HP.o.mono ?_;rintro e w2 ⟨rfl,h2,k2⟩;have Aj:=A0 h2;have Aa:Hid (A3 (dx D X) w w2):=HBr.o.trans k2;have E2:=h2.Aw;clear h2 k2 HP;go_wp2;go_roundg (gk-1)
    case measure=>omega
    case rel=>
     refine⟨i+1,by simp,by omega,?_,Aa.o⟩;have:=Aj.o;rw[MS.push]at this;simpa [Jz,List.replicate_succ',List.append_assoc]using this
   ·have t0:¬((i:Nat):Int)<((slots:Nat):Int)-((args:Nat):Int):=by omega
    clear hsr;go_wp2;go_end0;have e:i=slots-args:=by omega
    refine⟨rfl,?_,HBr.o⟩;have:=HSr.o;rw[e]at this;exact this
def Wu(X:Nat->Prop)(w w1:World):Nat->Prop:=fun g=>Cs X w g\/(w1.heap.size<=g/\g<w1.heap.size+1)
theorem MC.Ms.Zb{w1:World}(h:C.Ms D (Wu X w w1) β w' m):C.Ms D X β w' m:=h.less (fun _ h=>.inl (.inl h)) (fun _ _ _=>rfl) rfl
theorem Oh{w1 w2 w3:World}(h:A3 (dx D (Wu X w w1)) w2 w3):A3 (dx D X) w2 w3:=h.weak (fun _ hg=>hg.imp id (fun q=>.inl (.inl q)))
theorem MC.Ms.A13(h:C.Ms D (Cs X w) β w' m)(o:Obj):C.Ms D (Wu X w w') β (w'.alloc o) m/\A3 (dx D (Cs X w)) w' (w'.alloc o):=by
 have hb:Below w'.heap.size w' (w'.alloc o):=Below.alloc (Below.refl _ _) (Nat.le_refl _) _;have:=h.more hb;rw[World.size_alloc]at this;exact⟨this,(h.below hb).2⟩
theorem z0ra {P:Prop} (h:P:=by
  unfold B0 at HP;clear h2 k2 F1;go_wp2;refine Ic 4 z53a z53a ?_;simp only[List.take_succ_cons,List.take_zero,List.drop_succ_cons,List.drop_zero];iterate 4 (refine Ez (fun K' hK'=>?_);go_simp;refine hK' _ ?_;clear hK' K')
  refine Ib ?_;go_wp2_with fail
  refine HP.o.mono ?_;rintro e w3 ⟨rfl,h3,k3⟩;have lb3:=h3.Aw;have Ay:Hid (A3 (dx D X) w w3):=Aa.o.trans ((Dv _ w2 1).trans (Oh k3));have HF:=A0 h3.A0q;clear h3 k3;go_wp2_with fail
  refine HF.o.mono ?_;rintro e w4 ⟨y,rfl,hy,h4,k4⟩;obtain⟨x4,_,g6,g7,g8,gz⟩:=h4.U6;have lb4:=h4.Aw;obtain⟨s1,s2⟩:=h4.Se y _ hy;have Gp:=A0 s1.Zb;have E7:Hid (A3 (dx D X) w _):=Ay.o.trans ((Oh k4).trans (Oh s2));clear h4 k4 s1 s2 hy;unfold Ro;go_wp2;go_end0;exact⟨rfl,Gp.o,E7.o⟩):P:=h
theorem A80(h:C.Ms D X β w m)(i:Af)(ho:i.op=44)(hv:Cc m.arr.length m.top)(hn:m.vals.length+1<=100000):Calls Tryz.prog 160 #[.pointer (some ⟨C.mb,0,none⟩),Ac i] w (MP C D X β w ({ (m.pop.cut m.now.base).push m.top with now:=m.calls.getLastD ⟨[],0,0⟩,calls:=m.calls.dropLast }) (.tuple #[])):=by
 obtain⟨w0,An,Aq,Ah,Am,Ar,n0,n1,n2,n3,n4,n5,n6,n7,ln,lb,C2⟩:=h.C6 i;clear h;have t43:((i.op:Int)==43)=false:=by rw[ho];rfl
 have t44:((i.op:Int)==44)=true:=by rw[ho];rfl
 have HT:=A0 Aq.o.pop;have cb:=Aq.o.base;generalize hu:m.top=u at *;have HV:=A0 hv;unfold B0 at HT;clear ho hv hu;unfold Ac;go_enter Tryz.func160,Tryz.ntmps160;go_wp2_with fail
 rw[<-An.o];refine HT.o.mono ?_;rintro e w1 ⟨rfl,h1,k1⟩;have Bp:=h1.Aw;have A7:=A0 h1;have A4:Hid (A3 (dx D X) w w1):=Ah.o.trans (Ag k1);have Ad:=(k1.block _ Am.o).trans Ar.o;have Bt:=A0 Ad;clear n0 n1 n2 n3 n4 n5 n6 n7 ln;obtain⟨n0,n1,n2,n3,n4,n5,n6,n7,ln⟩:=B3 Ad;clear h1 k1 Ad;have cb1:=A7.o.base;obtain⟨wa,hwa⟩:∃wa,wa=w1.alloc (.cells #[.int .i64 (u.k:Nat),.bool u.y,.int .i64 u.n,.string ⟨u.t.toArray⟩,.pointer (Bq β u)] 225):=⟨_,rfl⟩;have hka:=A7.o.A13 (.cells #[.int .i64 (u.k:Nat),.bool u.y,.int .i64 u.n,.string ⟨u.t.toArray⟩,.pointer (Bq β u)] 225);have hqa:=heap_alloc_new w1 (.cells #[.int .i64 (u.k:Nat),.bool u.y,.int .i64 u.n,.string ⟨u.t.toArray⟩,.pointer (Bq β u)] 225);rw[<-hwa]at hka hqa;have HBa:Hid (A3 (dx D X) w wa):=A4.o.trans (Ag hka.2);have cba:=hka.1.base;have lba:=hka.1.Aw;have HC:=A0 (hka.1.Hq.cut m.now.base);have HQa:=A0 hqa;have HWa:=A0 hwa;clear hka hqa hwa;go_wp2;rw[<-HWa.o];refine Ic 8 z53a z53a ?_;simp only[List.take_succ_cons,List.take_zero,List.drop_succ_cons,List.drop_zero];iterate 8 (refine Ez (fun K' hK'=>?_);go_simp;refine hK' _ ?_;clear hK' K')
 refine Ib ?_;go_wp2_with fail
 refine HC.o.mono ?_;rintro e w2 ⟨rfl,h2,k2⟩;have F1:=(k2.block _ (.inr (.inr ⟨Nat.le_refl _,by omega⟩))).trans HQa.o;obtain⟨p0,p1,p2,p3,p4,fp,lp⟩:=Mr F1;have E2:=h2.Aw;have Aa:Hid (A3 (dx D X) w w2):=HBa.o.trans ((Dv _ wa 1).trans (Oh k2));have HP:=A0 (h2.Hq.push u HV.o (by have:=hn;simp[MS.cut,MS.pop];split <;> simp <;> omega));exact z0ra
theorem A7q(h:C.Ms D X β w m)(i:Af)(ho:i.op=43)(hn:m.vals.length+1<=100000):Calls Tryz.prog 160 #[.pointer (some ⟨C.mb,0,none⟩),Ac i] w (MP C D X β w ({ (m.cut m.now.base).push Ab with now:=m.calls.getLastD ⟨[],0,0⟩,calls:=m.calls.dropLast }) (.tuple #[])):=by
 obtain⟨w0,An,Aq,Ah,Am,Ar,n0,n1,n2,n3,n4,n5,n6,n7,ln,lb,C2⟩:=h.C6 i;clear h;have t43:((i.op:Int)==43)=true:=by rw[ho];rfl
 have HP0:=A0 (Aq.o.push Ab (by simp[Cc,Ab]) hn);unfold B0 at HP0;clear ho;unfold Ac;go_enter Tryz.func160,Tryz.ntmps160;go_wp2_with fail
 rw[<-An.o];refine HP0.o.mono ?_;rintro e w1 ⟨rfl,h1,k1⟩;have Bp:=h1.Aw;have A7:=A0 h1;have A4:Hid (A3 (dx D X) w w1):=Ah.o.trans (Ag k1);have Ad:=(k1.block _ Am.o).trans Ar.o;have Bt:=A0 Ad;clear n0 n1 n2 n3 n4 n5 n6 n7 ln;obtain⟨n0,n1,n2,n3,n4,n5,n6,n7,ln⟩:=B3 Ad;clear h1 k1 Ad;have hpp:=A7.o.pop;have e1:(m.push Ab).pop=m:=by simp[MS.push,MS.pop]
 have e2:(m.push Ab).top=Ab:=by simp[MS.push,MS.top]
 rw[e1,e2]at hpp;have HT:=A0 hpp;unfold B0 at HT;clear hpp e1 e2;go_wp2_with fail
 refine HT.o.mono ?_;rintro e w1 ⟨rfl,h1,k1⟩;have Bp:=h1.Aw;have A7:=A0 h1;have A4:Hid (A3 (dx D X) w w1):=A4.o.trans (Ag k1);have Ad:=(k1.block _ Am.o).trans Bt.o;have Bt:=A0 Ad;clear n0 n1 n2 n3 n4 n5 n6 n7 ln;obtain⟨n0,n1,n2,n3,n4,n5,n6,n7,ln⟩:=B3 Ad;clear h1 k1 Ad;have cb1:=A7.o.base;obtain⟨wa,hwa⟩:∃wa,wa=w1.alloc (.cells #[.int .i64 (Ab.k:Nat),.bool Ab.y,.int .i64 Ab.n,.string ⟨Ab.t.toArray⟩,.pointer (Bq β Ab)] 225):=⟨_,rfl⟩;have hka:=A7.o.A13 (.cells #[.int .i64 (Ab.k:Nat),.bool Ab.y,.int .i64 Ab.n,.string ⟨Ab.t.toArray⟩,.pointer (Bq β Ab)] 225);have hqa:=heap_alloc_new w1 (.cells #[.int .i64 (Ab.k:Nat),.bool Ab.y,.int .i64 Ab.n,.string ⟨Ab.t.toArray⟩,.pointer (Bq β Ab)] 225);rw[<-hwa]at hka hqa;have HBa:Hid (A3 (dx D X) w wa):=A4.o.trans (Ag hka.2);have cba:=hka.1.base;have lba:=hka.1.Aw;have HC:=A0 (hka.1.Hq.cut m.now.base);have HQa:=A0 hqa;have HWa:=A0 hwa;clear hka hqa hwa;go_wp2;rw[<-HWa.o];refine Ic 8 z53a z53a ?_;simp only[List.take_succ_cons,List.take_zero,List.drop_succ_cons,List.drop_zero];iterate 8 (refine Ez (fun K' hK'=>?_);go_simp;refine hK' _ ?_;clear hK' K')
 refine Ib ?_;go_wp2_with fail
 refine HC.o.mono ?_;rintro e w2 ⟨rfl,h2,k2⟩;have F1:=(k2.block _ (.inr (.inr ⟨Nat.le_refl _,by omega⟩))).trans HQa.o;obtain⟨p0,p1,p2,p3,p4,fp,lp⟩:=Mr F1;have E2:=h2.Aw;have Aa:Hid (A3 (dx D X) w w2):=HBa.o.trans ((Dv _ wa 1).trans (Oh k2));have HP:=A0 (h2.Hq.push Ab (by simp[Cc,Ab]) (by simp only[MS.cut];split;exact hn;simp only[List.length_take];omega));exact z0ra
def Ju:Nat:=4
theorem Yc:Tryz.prog.globalNamed "internal/strconv.uint64pow10"=some Ju:=by kernel_rfl
theorem Gb.of{w w':World}(h:Gb w)(hb:w'.heap[Ju]?=w.heap[Ju]?):Gb w':=by
 unfold Gb Lib.TabIs World.var? at *;rw[Yc]at h ⊢;simp only[Option.bind_some]at h ⊢;rw[hb];exact h
theorem Gb.Bv{w w':World}(h:Gb w)(hD:D Ju)(hb:A3 (dx D X) w w'):Gb w':=h.of (hb.block _ (.inl hD))
theorem MC.Ms.Qi(h:C.Ms D X β w m):∃oa oc,w.cell? ⟨C.mb,11,none⟩=some (.slice oa m.out.length oc)/\(∀o,w.frozen? ⟨C.mb,o,none⟩=false):=by
 obtain⟨ρ,s,x,fv,ab,lp,h⟩:=h;have hv:s.on=m.out.length:=(Cg h.out).1;have:=A2 h.cell 11 (.slice s.oa s.on s.oc) rfl;rw[hv]at this;exact⟨_,_,this,Bh h.cell⟩
def Sw(v:PV):Prop:=v.k≠4/\Cf v.n/\v.t.length<=100000
theorem z0ta {P:Prop} (h:P:=by
  have Bn:=A0 (fun(W:World) (hb:Below w2.heap.size w2 W)=>And.intro ((fun hs=>Gw hs 10 i) (Aj.o.below hb).1) (Aa.o.trans (Ag (Aj.o.below hb).2)));unfold Ac at Bn;go_wp2_with fail
  refine((Bn.o _ z50a).1).mono ?_;rintro e w3 ⟨rfl,h3,k3⟩;have Bg:=A0 h3.back;have Ay:Hid (A3 (dx D X) w w3):=(Bn.o _ z50a).2.trans (Ag k3);clear h3 k3;go_wp2;refine bodyPost_ret (v:=.tuple #[]) (by simp[results,Tryz.results158,go_sem]) rfl ?_;exact⟨rfl,Bg.o,Ay.o⟩):P:=h
theorem A8c(h:C.Ms D X β w m)(i:Af)(hf:Sw m.top)(ht:Gb w)(hD:D Ju)(hz:500<(Fs m.arr 4 [] m.top).length):Calls Tryz.prog 158 #[.pointer (some ⟨C.mb,0,none⟩),Ac i] w (MP C D X β w (m.pop.fail 10 i) (.tuple #[])):=by
 obtain⟨w0,An,Aq,Ah,Am,Ar,n0,n1,n2,n3,n4,n5,n6,n7,ln,lb,C2⟩:=h.C6 i;clear h;have HTp:=A0 Aq.o.pop;have HT0:=A0 ht;have hq:N1 (Fs m.arr 4 [] m.top)=.tuple #[.string ⟨#[]⟩,.bool false]:=by unfold N1;rw[if_pos hz]
 unfold B0 at HTp;clear ht;generalize hl:Fs m.arr 4 [] m.top=l at *;unfold Ac;go_enter Tryz.func158,Tryz.ntmps158;go_wp2_with fail
 rw[<-An.o];refine HTp.o.mono ?_;rintro e w1 ⟨rfl,h1,k1⟩;have Bp:=h1.Aw;have A7:=A0 h1;have A4:Hid (A3 (dx D X) w w1):=Ah.o.trans (Ag k1);have Ad:=(k1.block _ Am.o).trans Ar.o;have Bt:=A0 Ad;clear n0 n1 n2 n3 n4 n5 n6 n7 ln;obtain⟨n0,n1,n2,n3,n4,n5,n6,n7,ln⟩:=B3 Ad;clear h1 k1 Ad;have HL:=A0 (Xc m.top (Bq β m.top) hf.1 hf.2.1 hf.2.2 m.arr w1 (HT0.o.Bv hD A4.o));rw[hl,hq]at HL;have HF:=A0 hf;clear hf hq hl HT0;obtain⟨oa,oc,o11,oz⟩:=A7.o.Qi;go_wp2_with fail
 refine HL.o.mono ?_;rintro e w2 ⟨rfl,A8⟩;have B5:=A7.o.below A8;have Ax:=(A8.block _ (A5 Bt.o)).trans Bt.o;have Aj:=A0 B5.1;have Aa:Hid (A3 (dx D X) w w2):=A4.o.trans (Ag B5.2);have Ef:=A0 Ax;clear n0 n1 n2 n3 n4 n5 n6 n7 ln o11 oz;obtain⟨n0,n1,n2,n3,n4,n5,n6,n7,ln⟩:=B3 Ax;have E2:=Aj.o.Aw;obtain⟨oa2,oc2,o11,oz⟩:=Aj.o.Qi;clear A8 B5 Ax HL;exact z0ta
theorem A8d(h:C.Ms D X β w m)(i:Af)(hf:Sw m.top)(ht:Gb w)(hD:D Ju)(hz:(Fs m.arr 4 [] m.top).length<=500)(ho:m.out.length=100):Calls Tryz.prog 158 #[.pointer (some ⟨C.mb,0,none⟩),Ac i] w (MP C D X β w (m.pop.fail 10 i) (.tuple #[])):=by
 obtain⟨w0,An,Aq,Ah,Am,Ar,n0,n1,n2,n3,n4,n5,n6,n7,ln,lb,C2⟩:=h.C6 i;clear h;have HTp:=A0 Aq.o.pop;have HT0:=A0 ht;have hq:N1 (Fs m.arr 4 [] m.top)=.tuple #[.string ⟨(Fs m.arr 4 [] m.top).toArray⟩,.bool true]:=by unfold N1;rw[if_neg z51a]
 unfold B0 at HTp;clear ht;generalize hl:Fs m.arr 4 [] m.top=l at *;unfold Ac;go_enter Tryz.func158,Tryz.ntmps158;go_wp2_with fail
 rw[<-An.o];refine HTp.o.mono ?_;rintro e w1 ⟨rfl,h1,k1⟩;have Bp:=h1.Aw;have A7:=A0 h1;have A4:Hid (A3 (dx D X) w w1):=Ah.o.trans (Ag k1);have Ad:=(k1.block _ Am.o).trans Ar.o;have Bt:=A0 Ad;clear n0 n1 n2 n3 n4 n5 n6 n7 ln;obtain⟨n0,n1,n2,n3,n4,n5,n6,n7,ln⟩:=B3 Ad;clear h1 k1 Ad;have HL:=A0 (Xc m.top (Bq β m.top) hf.1 hf.2.1 hf.2.2 m.arr w1 (HT0.o.Bv hD A4.o));rw[hl,hq]at HL;have HF:=A0 hf;clear hf hq hl HT0;obtain⟨oa,oc,o11,oz⟩:=A7.o.Qi;go_wp2_with fail
 refine HL.o.mono ?_;rintro e w2 ⟨rfl,A8⟩;have B5:=A7.o.below A8;have Ax:=(A8.block _ (A5 Bt.o)).trans Bt.o;have Aj:=A0 B5.1;have Aa:Hid (A3 (dx D X) w w2):=A4.o.trans (Ag B5.2);have Ef:=A0 Ax;clear n0 n1 n2 n3 n4 n5 n6 n7 ln o11 oz;obtain⟨n0,n1,n2,n3,n4,n5,n6,n7,ln⟩:=B3 Ax;have E2:=Aj.o.Aw;obtain⟨oa2,oc2,o11,oz⟩:=Aj.o.Qi;clear A8 B5 Ax HL;have t0:(((m.pop.out.length:Nat):Int)==100)=true:=by show(((m.out.length:Nat):Int)==100)=true;rw[ho];rfl
 exact z0ta
theorem A8e(h:C.Ms D X β w m)(i:Af)(hf:Sw m.top)(ht:Gb w)(hD:D Ju)(hz:(Fs m.arr 4 [] m.top).length<=500)(ho:m.out.length<100):Calls Tryz.prog 158 #[.pointer (some ⟨C.mb,0,none⟩),Ac i] w (MP C D X β w ({ m.pop with out:=m.out++[Fs m.arr 4 [] m.top] }) (.tuple #[])):=by
 obtain⟨w0,An,Aq,Ah,Am,Ar,n0,n1,n2,n3,n4,n5,n6,n7,ln,lb,C2⟩:=h.C6 i;clear h;have HTp:=A0 Aq.o.pop;have HT0:=A0 ht;have hq:N1 (Fs m.arr 4 [] m.top)=.tuple #[.string ⟨(Fs m.arr 4 [] m.top).toArray⟩,.bool true]:=by unfold N1;rw[if_neg z51a]
 unfold B0 at HTp;clear ht;generalize hl:Fs m.arr 4 [] m.top=l at *;unfold Ac;go_enter Tryz.func158,Tryz.ntmps158;go_wp2_with fail
 rw[<-An.o];refine HTp.o.mono ?_;rintro e w1 ⟨rfl,h1,k1⟩;have Bp:=h1.Aw;have A7:=A0 h1;have A4:Hid (A3 (dx D X) w w1):=Ah.o.trans (Ag k1);have Ad:=(k1.block _ Am.o).trans Ar.o;have Bt:=A0 Ad;clear n0 n1 n2 n3 n4 n5 n6 n7 ln;obtain⟨n0,n1,n2,n3,n4,n5,n6,n7,ln⟩:=B3 Ad;clear h1 k1 Ad;have HL:=A0 (Xc m.top (Bq β m.top) hf.1 hf.2.1 hf.2.2 m.arr w1 (HT0.o.Bv hD A4.o));rw[hl,hq]at HL;have HF:=A0 hf;clear hf hq hl HT0;obtain⟨oa,oc,o11,oz⟩:=A7.o.Qi;go_wp2_with fail
 refine HL.o.mono ?_;rintro e w2 ⟨rfl,A8⟩;have B5:=A7.o.below A8;have Ax:=(A8.block _ (A5 Bt.o)).trans Bt.o;have Aj:=A0 B5.1;have Aa:Hid (A3 (dx D X) w w2):=A4.o.trans (Ag B5.2);have Ef:=A0 Ax;clear n0 n1 n2 n3 n4 n5 n6 n7 ln o11 oz;obtain⟨n0,n1,n2,n3,n4,n5,n6,n7,ln⟩:=B3 Ax;have E2:=Aj.o.Aw;obtain⟨oa2,oc2,o11,oz⟩:=Aj.o.Qi;clear A8 B5 Ax HL;have t0:(((m.pop.out.length:Nat):Int)==100)=false:=by show(((m.out.length:Nat):Int)==100)=false;rw[beq_eq_false_iff_ne];omega
 clear oa2 oc2 o11 oz;obtain⟨ρ,s,x,fv,ab,lp,hv⟩:=Aj.o;have hvn:s.on=m.pop.out.length:=(Cg hv.out).1;have o11:=A2 hv.cell 11 (.slice s.oa s.on s.oc) rfl;have hown:=hv.out;rw[hvn]at o11 hown;have HV:=A0 hv;have HNe:Hid (∀g,(Value.slice s.oa m.pop.out.length s.oc).ownBlock=some g->g≠C.mb):=fun g hg e=>by
  have:=hv.outo g (by rw[hvn];exact hg);rw[e,hv.one.1]at this;cases this
 have HVn:=A0 hvn;have hlen:m.pop.out.length<=1000000:=by show m.out.length<=1000000;omega
 clear hv hvn;go_wp2_with (at_builtin;refine Kb w2 #[.string ⟨l.toArray⟩] 9 rfl (.tmp 31) (.tmp 33) 37 rfl 0 1 16 (.string ⟨#[]⟩) Tryz.underlying37 Wz rfl z51a _ _ _ rfl rfl hown rfl z6ka hlen z51a (Nat.zero_le _) ?_;intro g cap w3 F0 hgrow hat hg;have Ak:=(hgrow.block C.mb E2 (fun e=>HNe.o _ e.symm rfl)).trans HV.o.cell;have c11:=A2 Ak 11 (.slice s.oa s.on s.oc) rfl;have fz:=Bh Ak;have lb3:=A5 Ak;have Ay:=A0 Ak;have HO:=A0 F0;have HG:=A0 hgrow;have HA:=A0 hat;clear hown F0 hgrow hat Ak o11)
 go_wp2;go_end0;have hgb:g≠C.mb:=by
  rcases HA.o with e|e
  ·exact HNe.o g e
  ·omega
 have hset:∀k,k≠C.mb->(w3.setCell ⟨C.mb,11,none⟩ (.slice (some ⟨g,0,none⟩) (m.pop.out.length+1) cap)).heap[k]?=w3.heap[k]?:=fun k hk=>Below.heap_setCell _ _ _ _ z5za;have hc:Ga 6 ρ w2 (w3.setCell ⟨C.mb,11,none⟩ (.slice (some ⟨g,0,none⟩) (m.pop.out.length+1) cap)):=⟨by rw[Qs];exact HG.o.os,by rw[Qu];exact HG.o.tape,by rw[Qt];exact HG.o.output,by simp[World.setCell];exact HG.o.size,fun k hk h1 h2=>(hset k (fun e=>h1 (by rw[e];exact HV.o.one.1))).trans (HG.o.block k hk (fun e=>h2 (HV.o.outo k (by rw[HVn.o];exact e.symm))))⟩;have hfin:=HV.o.Akm hc (oa:=some ⟨g,0,none⟩) (on:=m.pop.out.length+1) (oc:=cap) (out:=m.pop.out++[l]) (x':=x) (now:=m.pop.now) (fuel:=m.pop.fuel) (cells:=m.pop.cells) (code:=m.pop.code) (line:=m.pop.line) (by rw[heap_set (j:=11) Ay.o];simp[MC.cells])
  (by rw[List.length_append,Qr,Sb];exact B8 HO.o (fun k hk _=>hset k (by simp only[Value.ownBlock,Option.some.injEq]at hk;rw[<-hk];exact hgb)))
  (fun k hk=>by
   simp only[Value.ownBlock,Option.some.injEq]at hk;rw[<-hk,HVn.o];rcases HA.o with e|e
   ·exact .inl e
   ·exact .inr z51a) HV.o.now (by show(m.out++[l]).length<=100;simp;omega)
 exact⟨rfl,MC.Ms.back ⟨_,_,_,_,_,_,hfin⟩,Aa.o.trans (Ag (HV.o.F9 hc z51a))⟩
end
end Go.Proofs.YtjdlndhfaaolaaaGreatDoor
