import Derived.Test.YtjdlndhfaaolaaaGreatDoorY21
set_option maxHeartbeats 20000000
set_option linter.all false
namespace Go.Proofs.YtjdlndhfaaolaaaGreatDoor
section
open Go.RowKit
structure Gm (b : Nat) (row : Option Nat) (w w' : World) : Prop where
 os:w'.os=w.os
 tape:w'.tape=w.tape
 output:w'.output=w.output
 size:w.heap.size<=w'.heap.size
 block:∀k,k<w.heap.size->k≠b->row≠some k->w'.heap[k]?=w.heap[k]?
def Gm.refl(b:Nat)(row:Option Nat)(w:World):Gm b row w w:=⟨rfl,rfl,rfl,Af _,fun _ _ _ _=>rfl⟩
structure H9 (T : TypeId) (b o : Nat) (w : World) (cs : Array Value) (t : TypeId) (va : Option Addr) (vn vc : Nat) (xs : List Value) : Prop where
 blk:w.heap[b]?=some (.cells cs t (0,0))
 cell:cs[o]?=some (.slice va vn vc)
 own:w.ownsRow 0 T 1 (.slice va vn vc) xs.length xs
 ne:(Value.slice va vn vc).ownBlock≠some b
def Q6(T:TypeId)(b o:Nat)(w:World)(cs:Array Value)(t:TypeId)(va:Option Addr)(vn vc:Nat)(xs:List Value)(u:Value)(w':World):Prop:=
 ∃g cap,H9 T b o w' (cs.setIfInBounds o (.slice (some ⟨g,0,none⟩) (xs.length+1) cap)) t (some ⟨g,0,none⟩) (xs.length+1) cap (xs++[u])/\((Value.slice va vn vc).ownBlock=some g\/w.heap.size<=g)/\Gm b (Value.slice va vn vc).ownBlock w w'
def O9(T:TypeId)(b o:Nat)(w:World)(cs:Array Value)(t:TypeId)(va:Option Addr)(vn vc:Nat)(xs:List Value)(m:Nat)(w':World):Prop:=
 H9 T b o w' (cs.setIfInBounds o (.slice va m vc)) t va m vc (xs.take m)/\Gm b (Value.slice va vn vc).ownBlock w w'
def Qo{cs:Array Value}{o:Nat}{v:Value}(h:cs[o]?=some v):cs.setIfInBounds o v=cs:=by
 apply Array.ext_getElem?;intro i;rw[N5];split
 ·rename_i e;subst e;rw[h];split
  ·rfl
  ·rename_i hn;rw[Aar z4ma]at h;cases h
 ·rfl
def Su(g:Nat)(t:TypeId)(fr:Nat×Nat):∀(vs:List Value) (o:Nat) (cur:Array Value) (w:World),w.heap[g]?=some (.cells cur t fr)->
  ∃cur',(w.setCells g o vs).heap[g]?=some (.cells cur' t fr)/\cur'.size=cur.size/\∀m,m<=o->cur'.toList.take m=cur.toList.take m:=by
 intro vs;induction vs with
 | nil=>intro o cur w h;exact⟨cur,h,rfl,fun _ _=>rfl⟩
 | cons v r ih=>
  intro o cur w h;obtain⟨cur',h1,h2,h3⟩:=ih (o+1) _ _ (heap_set (j:=o) h v);refine⟨cur',h1,by rw[h2];simp,fun m hm=>?_⟩;rw[h3 m z4ma];simp only[V4];rw[A39 z4ma]
def z4za {P:Prop} (h:P:=by simp[World.setCell]):P:=h
def N0(g:Nat):∀(vs:List Value) (o:Nat) (w:World),(w.setCells g o vs).os=w.os/\(w.setCells g o vs).tape=w.tape/\(w.setCells g o vs).output=w.output/\(w.setCells g o vs).heap.size=w.heap.size/\∀k,k≠g->(w.setCells g o vs).heap[k]?=w.heap[k]?:=by
 intro vs;induction vs with
 | nil=>intro o w;exact⟨rfl,rfl,rfl,rfl,fun _ _=>rfl⟩
 | cons v r ih=>
  intro o w;obtain⟨h1,h2,h3,h4,h5⟩:=ih (o+1) (w.setCell ⟨g,o,none⟩ v);exact⟨h1,h2,h3,h4.trans z4za,fun k hk=>(h5 k hk).trans (Bh _ _ _ _ z5ja)⟩
def E6{w:World}{b o:Nat}{cs:Array Value}{t:TypeId}{v:Value}(h:w.heap[b]?=some (.cells cs t (0,0)))(hc:cs[o]?=some v):w.cell? ⟨b,o,none⟩=some v:=A4 h o v hc
end
section
set_option maxRecDepth 100000
open Go.RowKit
variable {b o:Nat}{w:World}{cs:Array Value}{t:TypeId}{va:Option Addr}{vn vc:Nat}{xs:List Value}
def Akn:(Tryz.prog.info? 255).map (fun i=>(i.zero,i.size,i.bytes))=some (some (.pointer none),1,8):=by kernel_rfl
def z4da {P:Prop} (h:P:=by
  have c:=E6 h.blk h.cell;have lb:=A6 h.blk;have hv:vn=xs.length:=(Cm h.own).1;subst hv;go_in;exact z12a):P:=h
def Un(h:H9 9 b o w cs t va vn vc xs):Calls Tryz.prog 136 #[.pointer (some ⟨b,o,none⟩)] w fun e w'=>e=.returned (.n xs.length)/\w'=w:=by
 exact z4da
def z0ta {P:Prop} (h:P:=by
  have c:=E6 h.blk h.cell;have lb:=A6 h.blk;have hv:vn=xs.length:=(Cm h.own).1;subst hv;obtain⟨g,rfl,_,hcap,lg,fz,hx,cg⟩:=Rq h.own i hi;generalize xs[i]=x at *;go_in;go_wp2;go_ret;exact⟨rfl,rfl⟩):P:=h
def A8v(h:H9 9 b o w cs t va vn vc xs)(i:Nat)(hi:i<xs.length):Calls Tryz.prog 138 #[.pointer (some ⟨b,o,none⟩),.n i] w fun e w'=>e=.returned xs[i]/\w'=w:=by
 exact z0ta
def z3fa {P:Prop} (h:P:=by
  exact Bc HOwn1.o (fun k hk _=>Bh _ _ _ _ (by simp only[Value.ownBlock,Cg]at hk;show k≠b;omega))):P:=h
def z0ba {P:Prop} (h:P:=by
  go_end0;have hgb:g≠b:=by
   rcases HAt.o with e|e
   ·intro e2;rw[e2]at e;exact HNe.o e
   ·omega
  refine⟨rfl,g,cap,⟨heap_set A9.o _,?_,?_,by simp only[Value.ownBlock,La,Cg];exact hgb⟩,HAt.o.imp id (fun e=>by omega),⟨HGrow.o.os,HGrow.o.tape,HGrow.o.output,by simp[World.setCell];exact HGrow.o.size,fun k hk hkb hkr=>?_⟩⟩
  ·rw[N5,A7 rfl,A7 ho]
  ·rw[Ds];exact z3fa
  ·exact(Bh _ _ _ _ (by exact hkb)).trans (HGrow.o.block k hk (fun e=>hkr e.symm))):P:=h
def Yw(h:H9 9 b o w cs t va vn vc xs)(hn:xs.length<=900000)(u:ByteArray)(ho:o<cs.size):Calls Tryz.prog 137 #[.pointer (some ⟨b,o,none⟩),.string u] w fun e w'=>e=.returned (.tuple #[])/\Q6 9 b o w cs t va vn vc xs (.string u) w':=by
 have c:=E6 h.blk h.cell;have lb:=A6 h.blk;have fz:=By h.blk;have hv:vn=xs.length:=(Cm h.own).1;subst hv;have hown:=h.own;have HNe:=A0 h.ne;go_in;go_wp2_with (at_builtin;refine Lh w #[.string u] 9 rfl (.tmp 8) (.tmp 10) 37 rfl 0 1 16 (.string ⟨#[]⟩) Tryz.underlying37 Y9 rfl z4ma (.slice va xs.length vc) xs.length xs rfl rfl hown rfl (fun v hv=>by simp at hv;rw[hv];rfl) z4ma z4ma (De _) ?_;intro g cap w1 Ev hgrow hat hg;have A2:=(hgrow.block b lb (fun e=>HNe.o e.symm)).trans h.blk;have c1:=E6 A2 h.cell;have f1:=By A2;have Bn:=A6 A2;have A9:=A0 A2;have HOwn1:=A0 Ev;have HGrow:=A0 hgrow;have HAt:=A0 hat;clear A2 Ev hgrow hat)
 exact z0ba
def A9b(h:H9 3 b o w cs t va vn vc xs):Calls Tryz.prog 243 #[.pointer (some ⟨b,o,none⟩)] w fun e w'=>e=.returned (.n xs.length)/\w'=w:=by
 exact z4da
def Aqu(h:H9 3 b o w cs t va vn vc xs)(i:Nat)(hi:i<xs.length):Calls Tryz.prog 271 #[.pointer (some ⟨b,o,none⟩),.n i] w fun e w'=>e=.returned xs[i]/\w'=w:=by
 exact z0ta
def z4ea {P:Prop} (h:P:=by
  rw[h0]at HL;have Eu:n<=1000000:=by omega
  generalize hx:xs[n]'hi=x at HA ⊢;go_in;go_wp2_with fail
  refine HL.mono ?_;rintro e w' ⟨rfl,rfl⟩;go_wp2_with fail
  refine HA.mono ?_;rintro e w' ⟨rfl,rfl⟩;exact z12a):P:=h
def A9g(h:H9 3 b o w cs t va vn vc xs)(hn:xs.length<=1000000)(n:Nat)(hi:n<xs.length)(h0:xs.length=n+1):Calls Tryz.prog 241 #[.pointer (some ⟨b,o,none⟩)] w fun e w'=>e=.returned (xs[n]'hi)/\w'=w:=by
 have HL:=A9b h;have HA:=Aqu h n hi;exact z4ea
def Asx(h:H9 3 b o w cs t va vn vc xs)(hn:xs.length<=900000)(u:Int)(ho:o<cs.size):Calls Tryz.prog 191 #[.pointer (some ⟨b,o,none⟩),.i u] w fun e w'=>e=.returned (.tuple #[])/\Q6 3 b o w cs t va vn vc xs (.i u) w':=by
 have c:=E6 h.blk h.cell;have lb:=A6 h.blk;have fz:=By h.blk;have hv:vn=xs.length:=(Cm h.own).1;subst hv;have hown:=h.own;have HNe:=A0 h.ne;go_in;go_wp2_with (at_builtin;refine Lh w #[.i u] 3 rfl (.tmp 8) (.tmp 10) 34 rfl 0 1 8 (.i 0) Tryz.underlying34 A1f rfl z4ma (.slice va xs.length vc) xs.length xs rfl rfl hown rfl (fun v hv=>by simp at hv;rw[hv];rfl) z4ma z4ma (De _) ?_;intro g cap w1 Ev hgrow hat hg;have A2:=(hgrow.block b lb (fun e=>HNe.o e.symm)).trans h.blk;have c1:=E6 A2 h.cell;have f1:=By A2;have Bn:=A6 A2;have A9:=A0 A2;have HOwn1:=A0 Ev;have HGrow:=A0 hgrow;have HAt:=A0 hat;clear A2 Ev hgrow hat)
 exact z0ba
def A2c(h:H9 255 b o w cs t va vn vc xs):Calls Tryz.prog 270 #[.pointer (some ⟨b,o,none⟩)] w fun e w'=>e=.returned (.n xs.length)/\w'=w:=by
 exact z4da
def Aqw(h:H9 255 b o w cs t va vn vc xs)(i:Nat)(hi:i<xs.length):Calls Tryz.prog 286 #[.pointer (some ⟨b,o,none⟩),.n i] w fun e w'=>e=.returned xs[i]/\w'=w:=by
 exact z0ta
def At6(h:H9 255 b o w cs t va vn vc xs)(hn:xs.length<=1000000)(n:Nat)(hi:n<xs.length)(h0:xs.length=n+1):Calls Tryz.prog 268 #[.pointer (some ⟨b,o,none⟩)] w fun e w'=>e=.returned (xs[n]'hi)/\w'=w:=by
 have HL:=A2c h;have HA:=Aqw h n hi;exact z4ea
def Asz(h:H9 255 b o w cs t va vn vc xs)(hn:xs.length<=900000)(u:Option Addr)(ho:o<cs.size):Calls Tryz.prog 237 #[.pointer (some ⟨b,o,none⟩),.pointer u] w fun e w'=>e=.returned (.tuple #[])/\Q6 255 b o w cs t va vn vc xs (.pointer u) w':=by
 have c:=E6 h.blk h.cell;have lb:=A6 h.blk;have fz:=By h.blk;have hv:vn=xs.length:=(Cm h.own).1;subst hv;have hown:=h.own;have HNe:=A0 h.ne;go_in;go_wp2_with (at_builtin;refine Lh w #[.pointer u] 255 rfl (.tmp 8) (.tmp 10) 209 rfl 0 1 8 (.pointer none) Tryz.underlying209 Akn rfl z4ma (.slice va xs.length vc) xs.length xs rfl rfl hown rfl (fun v hv=>by simp at hv;rw[hv];rfl) z4ma z4ma (De _) ?_;intro g cap w1 Ev hgrow hat hg;have A2:=(hgrow.block b lb (fun e=>HNe.o e.symm)).trans h.blk;have c1:=E6 A2 h.cell;have f1:=By A2;have Bn:=A6 A2;have A9:=A0 A2;have HOwn1:=A0 Ev;have HGrow:=A0 hgrow;have HAt:=A0 hat;clear A2 Ev hgrow hat)
 exact z0ba
def z3ca {P:Prop} (h:P:=by
  simp only[Value.ownBlock,La,Cg];exact hgb):P:=h
def z08a {P:Prop} (h:P:=by
  go_wp2;go_end0;obtain⟨p1,p2,p3,p4,p5⟩:=HF;have hset:∀k,k≠b->(w1.setCell ⟨b,o,none⟩ (.slice (some ⟨g,0,none⟩) m vc)).heap[k]?=w1.heap[k]?:=fun k hk=>Bh _ _ _ _ z5ja;refine⟨rfl,⟨heap_set A9.o _,?_,⟨by simp,.inr ⟨g,vc,cur',?_,De _,(hset g hgb).trans HK1.o,?_,hmx,HSz,?_⟩⟩,?_⟩,⟨p1,p2,p3,by simp[World.setCell];omega,fun k hk hkb hkr=>?_⟩⟩
  ·rw[N5,A7 rfl,A7 ho]
  ·rw[G3,Hp hm]
  ·rw[G3,Hp hm];omega
  ·rw[G3,Hp hm,O4,HK3,←HT.o,Sd,O4,Hp hm]
  ·exact z3ca
  ·exact(hset k hkb).trans (p5 k (fun e=>hkr (by rw[e];rfl)))):P:=h
def z2da {P:Prop} (h:P:=by
  intro j hj;rw[K2 w g (m+j) cur _ _ hg,Li z4ma];rfl):P:=h
def z5ia {P:Prop} (h:P:=by rw[←e];rfl):P:=h
def A27(h:H9 9 b o w cs t va vn vc xs)(m:Nat)(hm:m<=xs.length)(ho:o<cs.size):Calls Tryz.prog 83 #[.pointer (some ⟨b,o,none⟩),.n m] w fun e w'=>e=.returned (.tuple #[])/\O9 9 b o w cs t va vn vc xs m w':=by
 have c:=E6 h.blk h.cell;have lb:=A6 h.blk;have fz:=By h.blk;have hv:vn=xs.length:=(Cm h.own).1;subst hv;have HH:=A0 h;have HNe:=A0 h.ne;by_cases he:m=xs.length
 ·subst he;clear h;go_in;go_wp2;refine B9 (v:=.tuple #[]) (by simp[results,Tryz.results83,go_sem]) rfl ⟨rfl,?_,Gm.refl _ _ _⟩;rw[Qo HH.o.cell,Q1];exact HH.o
 ·obtain⟨g,rfl,I4,hcap,lg,fg,hx,cg⟩:=Rq h.own m z4ma;obtain⟨hl,⟨h2,h3⟩|⟨g',cap,cur,hv,_,hg,hcap',hmx,hsz,ht⟩⟩:=h.own
  ·cases h2
  ·injection hv with e1 e2 e3;injection e1 with e1;injection e1 with e1;subst e1 e3;have hgb:g≠b:=fun e=>h.ne z5ia;have hcs:∀j,j<xs.length-m->(w.cell? ⟨g,m+j,none⟩).isSome=true:=by
    exact z2da
   have hcl:∀ty,(Builtin.clear_ #[37] ty #[.slice (some ⟨g,m,none⟩) (xs.length-m) (vc-m)]).run Tryz.prog w=.ok (.tuple #[]) (w.setCells g m (List.replicate (xs.length-m) (.string ⟨#[]⟩))):=
    fun ty=>Zg w 37 9 ty (.string ⟨#[]⟩) Tryz.underlying37 Tryz.zeroValue9 rfl rfl g m (xs.length-m) (vc-m) z4ma hcs (fun j hj=>fg _)
   obtain⟨cur',k1,k2,k3⟩:=Su g 9 (0,0) (List.replicate (xs.length-m) (.string ⟨#[]⟩)) m cur w hg;obtain⟨f1,f2,f3,f4,f5⟩:=N0 g (List.replicate (xs.length-m) (.string ⟨#[]⟩)) m w;have A2:=(f5 b (fun e=>hgb e.symm)).trans h.blk;have HK1:=A0 k1;have HK3:=k3 m (Af _);have HF:=C3 f1 (C3 f2 (C3 f3 (C3 f4 f5)));have HT:=A0 ht;have HSz:=k2.trans hsz;clear h hcs hg ht k1 k2 k3 f1 f2 f3 f5 hl hsz;have c1:=E6 A2 HH.o.cell;have g1:=By A2;have Bn:=A6 A2;have A9:=A0 A2;clear A2 f4;generalize w.setCells g m (List.replicate (xs.length-m) (.string ⟨#[]⟩))=w1 at *;go_in;exact z08a
def Ar1(h:H9 3 b o w cs t va vn vc xs)(m:Nat)(hm:m<=xs.length)(ho:o<cs.size):Calls Tryz.prog 242 #[.pointer (some ⟨b,o,none⟩),.n m] w fun e w'=>e=.returned (.tuple #[])/\O9 3 b o w cs t va vn vc xs m w':=by
 have c:=E6 h.blk h.cell;have lb:=A6 h.blk;have fz:=By h.blk;have hv:vn=xs.length:=(Cm h.own).1;subst hv;have HH:=A0 h;have HNe:=A0 h.ne;by_cases he:m=xs.length
 ·subst he;clear h;go_in;go_wp2;refine B9 (v:=.tuple #[]) (by simp[results,Tryz.results242,go_sem]) rfl ⟨rfl,?_,Gm.refl _ _ _⟩;rw[Qo HH.o.cell,Q1];exact HH.o
 ·obtain⟨g,rfl,I4,hcap,lg,fg,hx,cg⟩:=Rq h.own m z4ma;obtain⟨hl,⟨h2,h3⟩|⟨g',cap,cur,hv,_,hg,hcap',hmx,hsz,ht⟩⟩:=h.own
  ·cases h2
  ·injection hv with e1 e2 e3;injection e1 with e1;injection e1 with e1;subst e1 e3;have hgb:g≠b:=fun e=>h.ne z5ia;have hcs:∀j,j<xs.length-m->(w.cell? ⟨g,m+j,none⟩).isSome=true:=by
    exact z2da
   have hcl:∀ty,(Builtin.clear_ #[34] ty #[.slice (some ⟨g,m,none⟩) (xs.length-m) (vc-m)]).run Tryz.prog w=.ok (.tuple #[]) (w.setCells g m (List.replicate (xs.length-m) (.i 0))):=
    fun ty=>Zg w 34 3 ty (.i 0) Tryz.underlying34 Tryz.zeroValue3 rfl rfl g m (xs.length-m) (vc-m) z4ma hcs (fun j hj=>fg _)
   obtain⟨cur',k1,k2,k3⟩:=Su g 3 (0,0) (List.replicate (xs.length-m) (.i 0)) m cur w hg;obtain⟨f1,f2,f3,f4,f5⟩:=N0 g (List.replicate (xs.length-m) (.i 0)) m w;have A2:=(f5 b (fun e=>hgb e.symm)).trans h.blk;have HK1:=A0 k1;have HK3:=k3 m (Af _);have HF:=C3 f1 (C3 f2 (C3 f3 (C3 f4 f5)));have HT:=A0 ht;have HSz:=k2.trans hsz;clear h hcs hg ht k1 k2 k3 f1 f2 f3 f5 hl hsz;have c1:=E6 A2 HH.o.cell;have g1:=By A2;have Bn:=A6 A2;have A9:=A0 A2;clear A2 f4;generalize w.setCells g m (List.replicate (xs.length-m) (.i 0))=w1 at *;go_in;exact z08a
def z0ua {P:Prop} (h:P:=by
  rw[h0]at HL;have Eu:n<=1000000:=by omega
  generalize hx:xs[n]'hi=x at HT ⊢;go_in;go_wp2_with fail
  refine HT.mono ?_;rintro e w' ⟨rfl,rfl⟩;go_wp2_with fail
  refine HL.mono ?_;rintro e w' ⟨rfl,rfl⟩;go_wp2_with fail
  refine HC.mono ?_;rintro e w1 ⟨rfl,hc⟩;go_wp2;go_ret;exact⟨rfl,hc⟩):P:=h
def Ass(h:H9 3 b o w cs t va vn vc xs)(hn:xs.length<=1000000)(n:Nat)(hi:n<xs.length)(h0:xs.length=n+1)(ho:o<cs.size):Calls Tryz.prog 193 #[.pointer (some ⟨b,o,none⟩)] w fun e w'=>e=.returned (xs[n]'hi)/\O9 3 b o w cs t va vn vc xs n w':=by
 have HT:=A9g h hn n hi h0;have HL:=A9b h;have HC:=Ar1 h n z4ma ho;exact z0ua
def z14a {P:Prop} (h:P:=by
  obtain⟨f1,f2,f3,f4,f5⟩:=N0 g (List.replicate (xs.length-m) (.pointer none)) m w;have A2:=(f5 b (fun e=>hgb e.symm)).trans h.blk;have HK1:=A0 k1;have HK3:=k3 m (Af _);have HF:=C3 f1 (C3 f2 (C3 f3 (C3 f4 f5)));have HT:=A0 ht;have HSz:=k2.trans hsz;clear h hcs hg ht k1 k2 k3 f1 f2 f3 f5 hl hsz;have c1:=E6 A2 HH.o.cell;have g1:=By A2;have Bn:=A6 A2;have A9:=A0 A2;clear A2 f4;generalize w.setCells g m (List.replicate (xs.length-m) (.pointer none))=w1 at *;go_in;exact z08a):P:=h
def Ar3(h:H9 255 b o w cs t va vn vc xs)(m:Nat)(hm:m<=xs.length)(ho:o<cs.size):Calls Tryz.prog 269 #[.pointer (some ⟨b,o,none⟩),.n m] w fun e w'=>e=.returned (.tuple #[])/\O9 255 b o w cs t va vn vc xs m w':=by
 have c:=E6 h.blk h.cell;have lb:=A6 h.blk;have fz:=By h.blk;have hv:vn=xs.length:=(Cm h.own).1;subst hv;have HH:=A0 h;have HNe:=A0 h.ne;by_cases he:m=xs.length
 ·subst he;clear h;go_in;go_wp2;refine B9 (v:=.tuple #[]) (by simp[results,Tryz.results269,go_sem]) rfl ⟨rfl,?_,Gm.refl _ _ _⟩;rw[Qo HH.o.cell,Q1];exact HH.o
 ·obtain⟨g,rfl,I4,hcap,lg,fg,hx,cg⟩:=Rq h.own m z4ma;obtain⟨hl,⟨h2,h3⟩|⟨g',cap,cur,hv,_,hg,hcap',hmx,hsz,ht⟩⟩:=h.own
  ·cases h2
  ·injection hv with e1 e2 e3;injection e1 with e1;injection e1 with e1;subst e1 e3;have hgb:g≠b:=fun e=>h.ne z5ia;have hcs:∀j,j<xs.length-m->(w.cell? ⟨g,m+j,none⟩).isSome=true:=by
    exact z2da
   have hcl:∀ty,(Builtin.clear_ #[209] ty #[.slice (some ⟨g,m,none⟩) (xs.length-m) (vc-m)]).run Tryz.prog w=.ok (.tuple #[]) (w.setCells g m (List.replicate (xs.length-m) (.pointer none))):=
    fun ty=>Zg w 209 255 ty (.pointer none) Tryz.underlying209 Tryz.zeroValue255 rfl rfl g m (xs.length-m) (vc-m) z4ma hcs (fun j hj=>fg _)
   obtain⟨cur',k1,k2,k3⟩:=Su g 255 (0,0) (List.replicate (xs.length-m) (.pointer none)) m cur w hg;exact z14a
def Asv(h:H9 255 b o w cs t va vn vc xs)(hn:xs.length<=1000000)(n:Nat)(hi:n<xs.length)(h0:xs.length=n+1)(ho:o<cs.size):Calls Tryz.prog 238 #[.pointer (some ⟨b,o,none⟩)] w fun e w'=>e=.returned (xs[n]'hi)/\O9 255 b o w cs t va vn vc xs n w':=by
 have HT:=At6 h hn n hi h0;have HL:=A2c h;have HC:=Ar3 h n z4ma ho;exact z0ua
end
section
open Go.RowKit
open Go.Deep (BT)
def Dx(ns:List Nm):List Value:=ns.map Ql
def Dr(bk:List Nat):List Value:=bk.map Sm
structure J2 (D : Nat -> Prop) (cb te : Nat) (w : World) (ns : List Nm) (bk : List Nat) (wh : Nat) (inn : Bool) (f : Da) (rc : Nat) (fa : Option Addr) (fn fc : Nat) (na : Option Addr) (nn nc : Nat) (ba : Option Addr) (bn bc : Nat) (la : Option Addr) (ln lc : Nat) (ls : List Value) : Prop where
 cell:w.heap[cb]?=some (.cells #[.slice fa fn fc,.n rc,.slice na nn nc,.slice ba bn bc,.slice la ln lc,.bool inn,.n f.1,.n f.2] te (0,0))
 names:w.ownsRow 0 9 1 (.slice na nn nc) (Dx ns).length (Dx ns)
 blocks:w.ownsRow 0 3 1 (.slice ba bn bc) (Dr bk).length (Dr bk)
 loops:w.ownsRow 0 255 1 (.slice la ln lc) ls.length ls
 lsl:ls.length=wh
 Ig:¬D cb
 Dn:∀g,(Value.slice na nn nc).ownBlock=some g->¬D g/\g≠cb/\(Value.slice ba bn bc).ownBlock≠some g/\(Value.slice la ln lc).ownBlock≠some g
 Hh:∀g,(Value.slice ba bn bc).ownBlock=some g->¬D g/\g≠cb/\(Value.slice la ln lc).ownBlock≠some g
 Ko:∀g,(Value.slice la ln lc).ownBlock=some g->¬D g/\g≠cb
 C1:ns.length<=800000/\bk.length<=800000/\wh<=800000/\rc<=800000
 lo:∀g,D g->g<w.heap.size
def Fw(D:Nat->Prop)(cb te:Nat)(w:World)(ns:List Nm)(bk:List Nat)(wh:Nat)(inn:Bool)(f:Da)(rc:Nat)(fa:Option Addr)(fn fc:Nat):Prop:=
 ∃na nn nc ba bn bc la ln lc ls,J2 D cb te w ns bk wh inn f rc fa fn fc na nn nc ba bn bc la ln lc ls
variable {D:Nat->Prop} {cb te:Nat} {w w':World} {ns:List Nm} {bk:List Nat} {wh:Nat} {inn:Bool} {f:Da} {rc:Nat} {fa:Option Addr} {fn fc:Nat} {na:Option Addr} {nn nc:Nat} {ba:Option Addr} {bn bc:Nat} {la:Option Addr} {ln lc:Nat} {ls:List Value}
def J2.keep(h:J2 D cb te w ns bk wh inn f rc fa fn fc na nn nc ba bn bc la ln lc ls)(hk:∀g,g<w.heap.size->w'.heap[g]?=w.heap[g]?)(hs:w.heap.size<=w'.heap.size):J2 D cb te w' ns bk wh inn f rc fa fn fc na nn nc ba bn bc la ln lc ls:=
 ⟨(hk cb (A6 h.cell)).trans h.cell,Bc h.names (fun g _ hl=>hk g hl),Bc h.blocks (fun g _ hl=>hk g hl),Bc h.loops (fun g _ hl=>hk g hl),h.lsl,h.Ig,h.Dn,h.Hh,h.Ko,h.C1,fun g hg=>Cb (h.lo g hg) hs⟩
def Fw.keep(h:Fw D cb te w ns bk wh inn f rc fa fn fc)(hk:∀g,g<w.heap.size->w'.heap[g]?=w.heap[g]?)(hs:w.heap.size<=w'.heap.size):Fw D cb te w' ns bk wh inn f rc fa fn fc:=by
 obtain⟨na,nn,nc,ba,bn,bc,la,ln,lc,ls,h⟩:=h;exact⟨na,nn,nc,ba,bn,bc,la,ln,lc,ls,h.keep hk hs⟩
def J2.put(h:J2 D cb te w ns bk wh inn f rc fa fn fc na nn nc ba bn bc la ln lc ls)(inn':Bool)(f':Da)(rc':Nat)(hrc:rc'<=800000)
  (hc:w'.heap[cb]?=some (.cells #[.slice fa fn fc,.n rc',.slice na nn nc,.slice ba bn bc,.slice la ln lc,.bool inn',.n f'.1,.n f'.2] te (0,0))) (hk:∀g,g<w.heap.size->g≠cb->w'.heap[g]?=w.heap[g]?) (hs:w.heap.size<=w'.heap.size):J2 D cb te w' ns bk wh inn' f' rc' fa fn fc na nn nc ba bn bc la ln lc ls:=
 ⟨hc,Bc h.names (fun g hg hl=>hk g hl (h.Dn g hg).2.1),Bc h.blocks (fun g hg hl=>hk g hl (h.Hh g hg).2.1),Bc h.loops (fun g hg hl=>hk g hl (h.Ko g hg).2),h.lsl,h.Ig,h.Dn,h.Hh,h.Ko,⟨h.C1.1,h.C1.2.1,h.C1.2.2.1,hrc⟩,fun g hg=>Cb (h.lo g hg) hs⟩
def J2.Nx(h:J2 D cb te w ns bk wh inn f rc fa fn fc na nn nc ba bn bc la ln lc ls):H9 9 cb 2 w #[.slice fa fn fc,.n rc,.slice na nn nc,.slice ba bn bc,.slice la ln lc,.bool inn,.n f.1,.n f.2] te na nn nc (Dx ns):=
 ⟨h.cell,rfl,h.names,fun e=>(h.Dn _ e).2.1 rfl⟩
def J2.Ta(h:J2 D cb te w ns bk wh inn f rc fa fn fc na nn nc ba bn bc la ln lc ls):H9 3 cb 3 w #[.slice fa fn fc,.n rc,.slice na nn nc,.slice ba bn bc,.slice la ln lc,.bool inn,.n f.1,.n f.2] te ba bn bc (Dr bk):=
 ⟨h.cell,rfl,h.blocks,fun e=>(h.Hh _ e).2.1 rfl⟩
def J2.A2i(h:J2 D cb te w ns bk wh inn f rc fa fn fc na nn nc ba bn bc la ln lc ls):H9 255 cb 4 w #[.slice fa fn fc,.n rc,.slice na nn nc,.slice ba bn bc,.slice la ln lc,.bool inn,.n f.1,.n f.2] te la ln lc ls:=
 ⟨h.cell,rfl,h.loops,fun e=>(h.Ko _ e).2 rfl⟩
def Gm.Bv{row:Option Nat}(h:Gm cb row w w')(h1:¬D cb)(h2:∀g,row=some g->¬D g)(hlo:∀g,D g->g<w.heap.size):A3 D w w':=
 ⟨h.os,h.tape,h.output,h.size,fun k hk=>h.block k (hlo k hk) (fun e=>h1 z59a) (fun e=>h2 k e hk)⟩
def J2.A1z(h:J2 D cb te w ns bk wh inn f rc fa fn fc na nn nc ba bn bc la ln lc ls)(s:Nm)(hn:ns.length+1<=800000)
  (hp:Q6 9 cb 2 w #[.slice fa fn fc,.n rc,.slice na nn nc,.slice ba bn bc,.slice la ln lc,.bool inn,.n f.1,.n f.2] te na nn nc (Dx ns) (Ql s) w'):Fw D cb te w' (ns++[s]) bk wh inn f rc fa fn fc/\A3 D w w':=by
 obtain⟨g,cap,hs,hat,hf⟩:=hp;have hD:¬D g/\g≠cb/\(Value.slice ba bn bc).ownBlock≠some g/\(Value.slice la ln lc).ownBlock≠some g:=by
  rcases hat with e|e
  ·exact h.Dn g e
  ·refine⟨fun hd=>by have:=h.lo g hd;omega,fun e2=>by have:=A6 h.cell;omega,fun e2=>?_,fun e2=>?_⟩
   ·have:=Bs h.blocks g e2;omega
   ·have:=Bs h.loops g e2;omega
 refine⟨⟨some ⟨g,0,none⟩,(Dx ns).length+1,cap,ba,bn,bc,la,ln,lc,ls,?_⟩,hf.Bv h.Ig (fun g hg=>(h.Dn g hg).1) h.lo⟩;have hnm:Dx (ns++[s])=Dx ns++[Ql s]:=by simp[Dx]
 refine⟨by simpa using hs.blk,by rw[hnm];exact hs.own,Bc h.blocks (fun k hk hl=>hf.block k hl (h.Hh k hk).2.1 (fun e=>(h.Dn k e).2.2.1 hk)),Bc h.loops (fun k hk hl=>hf.block k hl (h.Ko k hk).2 (fun e=>(h.Dn k e).2.2.2 hk)),h.lsl,h.Ig,?_,h.Hh,h.Ko,⟨by simpa using hn,h.C1.2⟩,fun g hg=>Cb (h.lo g hg) hf.size⟩;intro k hk;simp only[Value.ownBlock,Cg]at hk;subst hk;exact hD
def J2.Apb(h:J2 D cb te w ns bk wh inn f rc fa fn fc na nn nc ba bn bc la ln lc ls)(p:Nat)(hn:bk.length+1<=800000)
  (hp:Q6 3 cb 3 w #[.slice fa fn fc,.n rc,.slice na nn nc,.slice ba bn bc,.slice la ln lc,.bool inn,.n f.1,.n f.2] te ba bn bc (Dr bk) (Sm p) w'):Fw D cb te w' ns (bk++[p]) wh inn f rc fa fn fc/\A3 D w w':=by
 obtain⟨g,cap,hs,hat,hf⟩:=hp;have hD:¬D g/\g≠cb/\(Value.slice na nn nc).ownBlock≠some g/\(Value.slice la ln lc).ownBlock≠some g:=by
  rcases hat with e|e
  ·exact⟨(h.Hh g e).1,(h.Hh g e).2.1,fun e2=>(h.Dn g e2).2.2.1 e,(h.Hh g e).2.2⟩
  ·refine⟨fun hd=>by have:=h.lo g hd;omega,fun e2=>by have:=A6 h.cell;omega,fun e2=>?_,fun e2=>?_⟩
   ·have:=Bs h.names g e2;omega
   ·have:=Bs h.loops g e2;omega
 refine⟨⟨na,nn,nc,some ⟨g,0,none⟩,(Dr bk).length+1,cap,la,ln,lc,ls,?_⟩,hf.Bv h.Ig (fun g hg=>(h.Hh g hg).1) h.lo⟩;have hnm:Dr (bk++[p])=Dr bk++[Sm p]:=by simp[Dr]
 refine⟨by simpa using hs.blk,Bc h.names (fun k hk hl=>hf.block k hl (h.Dn k hk).2.1 (fun e=>(h.Dn k hk).2.2.1 e)),by rw[hnm];exact hs.own,Bc h.loops (fun k hk hl=>hf.block k hl (h.Ko k hk).2 (fun e=>(h.Hh k e).2.2 hk)),h.lsl,h.Ig,?_,?_,h.Ko,⟨h.C1.1,by simpa using hn,h.C1.2.2⟩,fun g hg=>Cb (h.lo g hg) hf.size⟩
 ·intro k hk;refine⟨(h.Dn k hk).1,(h.Dn k hk).2.1,fun e=>?_,(h.Dn k hk).2.2.2⟩;simp only[Value.ownBlock,Cg]at e;subst e;exact hD.2.2.1 hk
 ·intro k hk;simp only[Value.ownBlock,Cg]at hk;subst hk;exact⟨hD.1,hD.2.1,hD.2.2.2⟩
def J2.A1y(h:J2 D cb te w ns bk wh inn f rc fa fn fc na nn nc ba bn bc la ln lc ls)(u:Value)(hn:wh+1<=800000)
  (hp:Q6 255 cb 4 w #[.slice fa fn fc,.n rc,.slice na nn nc,.slice ba bn bc,.slice la ln lc,.bool inn,.n f.1,.n f.2] te la ln lc ls u w'):Fw D cb te w' ns bk (wh+1) inn f rc fa fn fc/\A3 D w w':=by
 obtain⟨g,cap,hs,hat,hf⟩:=hp;have hD:¬D g/\g≠cb/\(Value.slice na nn nc).ownBlock≠some g/\(Value.slice ba bn bc).ownBlock≠some g:=by
  rcases hat with e|e
  ·exact⟨(h.Ko g e).1,(h.Ko g e).2,fun e2=>(h.Dn g e2).2.2.2 e,fun e2=>(h.Hh g e2).2.2 e⟩
  ·refine⟨fun hd=>by have:=h.lo g hd;omega,fun e2=>by have:=A6 h.cell;omega,fun e2=>?_,fun e2=>?_⟩
   ·have:=Bs h.names g e2;omega
   ·have:=Bs h.blocks g e2;omega
 refine⟨⟨na,nn,nc,ba,bn,bc,some ⟨g,0,none⟩,ls.length+1,cap,ls++[u],?_⟩,hf.Bv h.Ig (fun g hg=>(h.Ko g hg).1) h.lo⟩;refine⟨by simpa using hs.blk,Bc h.names (fun k hk hl=>hf.block k hl (h.Dn k hk).2.1 (fun e=>(h.Dn k hk).2.2.2 e)),Bc h.blocks (fun k hk hl=>hf.block k hl (h.Hh k hk).2.1 (fun e=>(h.Hh k hk).2.2 e)),hs.own,by simp[h.lsl],h.Ig,?_,?_,?_,⟨h.C1.1,h.C1.2.1,hn,h.C1.2.2.2⟩,fun g hg=>Cb (h.lo g hg) hf.size⟩
 ·intro k hk;refine⟨(h.Dn k hk).1,(h.Dn k hk).2.1,(h.Dn k hk).2.2.1,fun e=>?_⟩;simp only[Value.ownBlock,Cg]at e;subst e;exact hD.2.2.1 hk
 ·intro k hk;refine⟨(h.Hh k hk).1,(h.Hh k hk).2.1,fun e=>?_⟩;simp only[Value.ownBlock,Cg]at e;subst e;exact hD.2.2.2 hk
 ·intro k hk;simp only[Value.ownBlock,Cg]at hk;subst hk;exact⟨hD.1,hD.2.1⟩
def J2.Ahg(h:J2 D cb te w ns bk wh inn f rc fa fn fc na nn nc ba bn bc la ln lc ls)(m:Nat)
  (hp:O9 9 cb 2 w #[.slice fa fn fc,.n rc,.slice na nn nc,.slice ba bn bc,.slice la ln lc,.bool inn,.n f.1,.n f.2] te na nn nc (Dx ns) m w'):Fw D cb te w' (ns.take m) bk wh inn f rc fa fn fc/\A3 D w w':=by
 obtain⟨hs,hf⟩:=hp;refine⟨⟨na,m,nc,ba,bn,bc,la,ln,lc,ls,?_⟩,hf.Bv h.Ig (fun g hg=>(h.Dn g hg).1) h.lo⟩;have hnm:Dx (ns.take m)=(Dx ns).take m:=by simp[Dx,A3a]
 have ho:∀g,(Value.slice na m nc).ownBlock=some g->(Value.slice na nn nc).ownBlock=some g:=fun g e=>(P2 _ _ _ _).trans e;refine⟨by simpa using hs.blk,by rw[hnm];exact hs.own,Bc h.blocks (fun k hk hl=>hf.block k hl (h.Hh k hk).2.1 (fun e=>(h.Dn k e).2.2.1 hk)),Bc h.loops (fun k hk hl=>hf.block k hl (h.Ko k hk).2 (fun e=>(h.Dn k e).2.2.2 hk)),h.lsl,h.Ig,fun k hk=>h.Dn k (ho k hk),h.Hh,h.Ko,⟨by have:=h.C1.1;simp;omega,h.C1.2⟩,fun g hg=>Cb (h.lo g hg) hf.size⟩
def J2.Ahd(h:J2 D cb te w ns bk wh inn f rc fa fn fc na nn nc ba bn bc la ln lc ls)(m:Nat)
  (hp:O9 3 cb 3 w #[.slice fa fn fc,.n rc,.slice na nn nc,.slice ba bn bc,.slice la ln lc,.bool inn,.n f.1,.n f.2] te ba bn bc (Dr bk) m w'):Fw D cb te w' ns (bk.take m) wh inn f rc fa fn fc/\A3 D w w':=by
 obtain⟨hs,hf⟩:=hp;refine⟨⟨na,nn,nc,ba,m,bc,la,ln,lc,ls,?_⟩,hf.Bv h.Ig (fun g hg=>(h.Hh g hg).1) h.lo⟩;have hnm:Dr (bk.take m)=(Dr bk).take m:=by simp[Dr,A3a]
 have ho:∀g,(Value.slice ba m bc).ownBlock=some g->(Value.slice ba bn bc).ownBlock=some g:=fun g e=>(P2 _ _ _ _).trans e;refine⟨by simpa using hs.blk,Bc h.names (fun k hk hl=>hf.block k hl (h.Dn k hk).2.1 (fun e=>(h.Dn k hk).2.2.1 e)),by rw[hnm];exact hs.own,Bc h.loops (fun k hk hl=>hf.block k hl (h.Ko k hk).2 (fun e=>(h.Hh k e).2.2 hk)),h.lsl,h.Ig,fun k hk=>⟨(h.Dn k hk).1,(h.Dn k hk).2.1,fun e=>(h.Dn k hk).2.2.1 (ho k e),(h.Dn k hk).2.2.2⟩,fun k hk=>h.Hh k (ho k hk),h.Ko,⟨h.C1.1,by have:=h.C1.2.1;simp;omega,h.C1.2.2⟩,fun g hg=>Cb (h.lo g hg) hf.size⟩
def J2.Ahf(h:J2 D cb te w ns bk wh inn f rc fa fn fc na nn nc ba bn bc la ln lc ls)(m:Nat)(hm:m<=wh)
  (hp:O9 255 cb 4 w #[.slice fa fn fc,.n rc,.slice na nn nc,.slice ba bn bc,.slice la ln lc,.bool inn,.n f.1,.n f.2] te la ln lc ls m w'):Fw D cb te w' ns bk m inn f rc fa fn fc/\A3 D w w':=by
 obtain⟨hs,hf⟩:=hp;refine⟨⟨na,nn,nc,ba,bn,bc,la,m,lc,ls.take m,?_⟩,hf.Bv h.Ig (fun g hg=>(h.Ko g hg).1) h.lo⟩;have ho:∀g,(Value.slice la m lc).ownBlock=some g->(Value.slice la ln lc).ownBlock=some g:=fun g e=>(P2 _ _ _ _).trans e;refine⟨by simpa using hs.blk,Bc h.names (fun k hk hl=>hf.block k hl (h.Dn k hk).2.1 (fun e=>(h.Dn k hk).2.2.2 e)),Bc h.blocks (fun k hk hl=>hf.block k hl (h.Hh k hk).2.1 (fun e=>(h.Hh k hk).2.2 e)),hs.own,by rw[G3,h.lsl,Hp hm],h.Ig,fun k hk=>⟨(h.Dn k hk).1,(h.Dn k hk).2.1,(h.Dn k hk).2.2.1,fun e=>(h.Dn k hk).2.2.2 (ho k e)⟩,fun k hk=>⟨(h.Hh k hk).1,(h.Hh k hk).2.1,fun e=>(h.Hh k hk).2.2 (ho k e)⟩,fun k hk=>h.Ko k (ho k hk),⟨h.C1.1,h.C1.2.1,by have:=h.C1.2.2.1;omega,h.C1.2.2.2⟩,fun g hg=>Cb (h.lo g hg) hf.size⟩
end
section
set_option maxRecDepth 100000
open Go.RowKit
open Go.Deep (BT)
variable {D:Nat->Prop}{cb te:Nat}{w:World}{ns:List Nm}{bk:List Nat}{wh:Nat}{inn:Bool}{f:Da}{rc:Nat}{fa:Option Addr}{fn fc:Nat}
def Awi{code line:Nat}{f:Da}(h:f.1=0):F0 true code line f=(code,line):=by unfold F0;rw[A7 (by simp[h])]
def z5ca {P:Prop} (h:P:=by exact hne):P:=h
def R9(h:Fw D cb te w ns bk wh inn f rc fa fn fc)(code line:Nat) :
  Calls Tryz.prog 264 #[.p cb,.n code,.n line] w fun e w'=>e=.returned (.tuple #[])/\Fw D cb te w' ns bk wh inn (F0 true code line f) rc fa fn fc/\A3 D w w':=by
 obtain⟨na,nn,nc,ba,bn,bc,la,ln,lc,ls,h⟩:=h;obtain⟨c0,c1,c2,c3,c4,c5,c6,c7,fz,lb⟩:=Qc h.cell;by_cases h0:f.1=0
 ·have HW:=A0 (Awi (code:=code) (line:=line) h0);rw[h0]at c6;go_in;go_wp2;go_end0;rw[HW.o];refine⟨rfl,⟨na,nn,nc,ba,bn,bc,la,ln,lc,ls,h.put inn (code,line) rc h.C1.2.2.2 ?_ (fun g _ hne=>by rw[Bh _ _ _ _ z5ca,Bh _ _ _ _ z5ca]) z4za⟩,A3.set (p:=⟨cb,7,none⟩) (A3.set (p:=⟨cb,6,none⟩) (A3.refl _ _) h.Ig _) h.Ig _⟩;have:=heap_set (j:=7) (heap_set (j:=6) h.cell (.n code)) (.n line);simpa using this
 ·have HW:=A0 (Awh true code line f h0);have t0:((f.1:Int)==0)=false:=by rw[Am];omega
  go_in;go_wp2;go_end0;rw[HW.o];exact⟨rfl,⟨na,nn,nc,ba,bn,bc,la,ln,lc,ls,h⟩,A3.refl _ _⟩
def Rm(ns:List Nm):(Dx ns).length=ns.length:=by simp[Dx]
def r8(bk:List Nat):(Dr bk).length=bk.length:=by simp[Dr]
def Xv(h:Fw D cb te w ns bk wh inn f rc fa fn fc)(hb:bk.length+1<=800000) :
  Calls Tryz.prog 133 #[.p cb] w fun e w'=>e=.returned (.tuple #[])/\Fw D cb te w' ns (bk++[ns.length]) wh inn f rc fa fn fc/\A3 D w w':=by
 obtain⟨na,nn,nc,ba,bn,bc,la,ln,lc,ls,h⟩:=h;have lb:=A6 h.cell;have HH:=h.keep (w':=w.drew) (fun _ _=>rfl) (Af _);have HL:=Un HH.Nx;rw[Rm]at HL;have HP:=Asx HH.Ta (by rw[r8];omega) (ns.length:Nat) z4ra;go_in;go_wp2;go_region_law (first
  | (refine F9 rfl 136 _ _ rfl #[.pointer (some ⟨cb,2,none⟩)] (by kernel_rfl) HL ?_;rintro e w1 ⟨rfl,rfl⟩;refine⟨_,rfl,?_⟩)
  | (refine F9 rfl 191 _ _ rfl #[.pointer (some ⟨cb,3,none⟩),.n ns.length] (by kernel_rfl) HP ?_;rintro e w1 ⟨rfl,hp1⟩;refine⟨_,rfl,?_⟩))
 all_goals go_wp2
 all_goals go_end0
 all_goals obtain⟨k1,k2⟩:=HH.Apb ns.length hb hp1
 all_goals exact⟨rfl,k1,⟨k2.os,k2.tape,k2.output,k2.size,k2.block⟩⟩
def Xt{D:Nat->Prop}{cb te:Nat}{w:World}{ns:List Nm}{bk:List Nat}{p:Nat}{wh:Nat}{inn:Bool}{f:Da}{rc:Nat}{fa:Option Addr}{fn fc:Nat}(h:Fw D cb te w ns (bk++[p]) wh inn f rc fa fn fc)(hp:p<=ns.length) :
  Calls Tryz.prog 135 #[.p cb] w fun e w'=>e=.returned (.tuple #[])/\Fw D cb te w' (ns.take p) bk wh inn f rc fa fn fc/\A3 D w w':=by
 obtain⟨na,nn,nc,ba,bn,bc,la,ln,lc,ls,h⟩:=h;have lb:=A6 h.cell;have HH:=h.keep (w':=w.drew) (fun _ _=>rfl) (Af _);have hl:(Dr (bk++[p])).length=bk.length+1:=by rw[r8];simp
 have hf:=HH.C1;simp only[Ds,Lw]at hf;have HP:=Ass HH.Ta z4ma bk.length z4ma hl z4ra;have hx:(Dr (bk++[p]))[bk.length]'z4ma=.n p:=by simp[Dr,Sm]
 rw[hx]at HP;go_in;go_wp2;go_region_law (first
  | (refine F9 rfl 193 _ _ rfl #[.pointer (some ⟨cb,3,none⟩)] (by kernel_rfl) HP ?_;rintro e w1 ⟨rfl,hc1⟩;refine⟨_,rfl,?_⟩;obtain⟨k1,k2⟩:=HH.Ahd bk.length hc1;rw[Tj]at k1;obtain⟨na1,nn1,nc1,ba1,bn1,bc1,la1,Jy,lc1,ls1,Hg⟩:=k1;have HV1:=A0 Hg;have HK2:=A0 k2;have Bn:=A6 Hg.cell;have HC1:=A0 (A27 Hg.Nx p (by rw[Rm];exact hp) z4ra);clear Hg k2 hc1)
  | (refine F9 rfl 83 _ _ rfl #[.pointer (some ⟨cb,2,none⟩),.n p] (by kernel_rfl) HC1.o ?_;rintro e w2 ⟨rfl,hc2⟩;refine⟨_,rfl,?_⟩))
 all_goals go_wp2
 all_goals go_end0
 all_goals obtain⟨k3,k4⟩:=HV1.o.Ahg p hc2
 all_goals exact⟨rfl,k3,A3.trans ⟨HK2.o.os,HK2.o.tape,HK2.o.output,HK2.o.size,HK2.o.block⟩ k4⟩
def Aht{ns:List Nm}{i:Nat}(h:i<ns.length)(s:Nm):decide (s∈ns.drop i)=(decide (ns[i]=s)||decide (s∈ns.drop (i+1))):=by
 rw[Gk h,Bool.eq_iff_iff];simp only[L9,Jg,Gz];exact⟨fun h=>h.imp Eq.symm id,fun h=>h.imp Eq.symm id⟩
def A58(h:Fw D cb te w ns bk wh inn f rc fa fn fc)(s:Nm)(p:Nat)(hp:p<=ns.length) :
  Calls Tryz.prog 265 #[.p cb,.s s,.n p] w fun e w'=>e=.returned (.bool (decide (s∈ns.drop p)))/\w'=w:=by
 obtain⟨na,nn,nc,ba,bn,bc,la,ln,lc,ls,h⟩:=h;have lb:=A6 h.cell;have HL:=Un h.Nx;rw[Rm]at HL;have HA:=fun i hi=>A8v h.Nx i hi;have hfew:=h.C1.1;go_in;go_wp2;go_loopg [7] (ns.length-p) (fun k v wr=>∃i:Nat,v=.i i/\i+k=ns.length/\decide (s∈ns.drop p)=decide (s∈ns.drop i)/\wr=w)
 case atStart=>exact⟨p,rfl,by omega,rfl,rfl⟩
 case round=>
  obtain⟨i,rfl,hik,hm,rfl⟩:=hrel;by_cases hlt:i<ns.length
  ·have HS:=A0 (Aht hlt s);have HA1:=HA i (by rw[Rm];exact hlt);have hx:(Dx ns)[i]'(by rw[Rm];exact hlt)=.string ⟨ns[i].toArray⟩:=by simp[Dx,Ql]
   rw[hx]at HA1;generalize ns[i]=x at *;have hlt':(i:Int)<(ns.length:Int):=by omega
   cases hq:(x==s)
   ·have HE:Hid (decide (s∈ns.drop p)=decide (s∈ns.drop (i+1))):=by
     show _=_;have:decide (x=s)=false:=by simpa using hq
     rw[hm,HS.o,this];rfl
    go_wp2_with fail
    refine HL.mono ?_;rintro e w' ⟨rfl,rfl⟩;go_wp2_with fail
    refine HA1.mono ?_;rintro e w' ⟨rfl,rfl⟩;go_wp2;go_roundg (gk-1)
    case measure=>omega
    case rel=>exact⟨i+1,rfl,by omega,HE.o,rfl⟩
   ·have HE:Hid (decide (s∈ns.drop p)=true):=by
     show _=_;have:decide (x=s)=true:=by simpa using hq
     rw[hm,HS.o,this];rfl
    go_wp2_with fail
    refine HL.mono ?_;rintro e w' ⟨rfl,rfl⟩;go_wp2_with fail
    refine HA1.mono ?_;rintro e w' ⟨rfl,rfl⟩;go_wp2;go_ret;exact⟨Wg HE.o.symm,rfl⟩
  ·have HE:Hid (decide (s∈ns.drop p)=false):=by
    show _=_;rw[hm,Pz z4ma];rfl
   go_wp2_with fail
   refine HL.mono ?_;rintro e w' ⟨rfl,rfl⟩;go_wp2;go_ret;exact⟨Wg HE.o.symm,rfl⟩
end
section
set_option maxRecDepth 100000
open Go.RowKit
open Go.Deep (BT)
variable {D:Nat->Prop}{w:World}{fns:List (Nm×Nat)}{fa:Option Addr}{fn fc:Nat}
def Td(code line:Nat)(f:Da):F0 false code line f=f:=by unfold F0;rw[A1 z4ra]
def z4la {P:Prop} (h:P:=by
  go_wp2;go_end0;exact⟨rfl,Bu.o,Ba⟩):P:=h
def z8{D:Nat->Prop}{cb te:Nat}{w:World}{outer cur:List Nm}{bl:List Nat}{wh:Nat}{inn:Bool}{f:Da}{rc:Nat}{fa:Option Addr}{fn fc:Nat}(h:Fw D cb te w (outer++cur) (bl++[outer.length]) wh inn f rc fa fn fc)(line:Nat)(s:Nm) :
  Calls Tryz.prog 235 #[.p cb,.agg #[.n line,.s s]] w fun e w'=>e=.returned (.tuple #[])/\Fw D cb te w' (outer++cur) (bl++[outer.length]) wh inn (F0 (decide (s∈cur)) 3 line f) rc fa fn fc/\A3 D w w':=by
 have hlo:∀g,D g->g<w.heap.size:=by obtain⟨_,_,_,_,_,_,_,_,_,_,h⟩:=h;exact h.lo
 have lb:cb<w.heap.size:=by obtain⟨_,_,_,_,_,_,_,_,_,_,h⟩:=h;exact A6 h.cell
 have h1:Fw D cb te (w.alloc (.cells #[.n line,.s s] 148)) (outer++cur) (bl++[outer.length]) wh inn f rc fa fn fc:=h.keep (fun g hg=>Ck _ _ _ hg) z4ra;have A2:A3 D w (w.alloc (.cells #[.n line,.s s] 148)):=(A3.refl D w).alloc hlo _;have Er:=Bp w (.cells #[.n line,.s s] 148);clear h;generalize hW:w.alloc (.cells #[.n line,.s s] 148)=w1 at *;have HW:=A0 hW;generalize hxb:w.heap.size=xb at *;have HXb:=A0 hxb;clear hW hxb;have B5:=A0 h1;have A9:=A0 A2;have Ks:=A0 Er;have hdr:∀W:World,Fw D cb te W (outer++cur) (bl++[outer.length]) wh inn f rc fa fn fc->Calls Tryz.prog 241 #[.pointer (some ⟨cb,3,none⟩)] W fun e w'=>e=.returned (.n outer.length)/\w'=W:=by
  intro W h;obtain⟨na,nn,nc,ba,bn,bc,la,ln,lc,ls,h⟩:=h;have hl:(Dr (bl++[outer.length])).length=bl.length+1:=by rw[r8];simp
  have hf:=h.C1;simp only[Ds,Lw]at hf;have hp:=A9g h.Ta z4ma bl.length z4ma hl;have hx:(Dr (bl++[outer.length]))[bl.length]'z4ma=.n outer.length:=by simp[Dr,Sm]
  rw[hx]at hp;exact hp
 have HTop:=A0 hdr;have HSeen:=fun(W:World) (h:Fw D cb te W (outer++cur) (bl++[outer.length]) wh inn f rc fa fn fc)=>A58 h s outer.length z4ra;rw[List.drop_left]at HSeen;obtain⟨y0,y1,fy,ly⟩:=K9 Er;have Bn:cb<w1.heap.size:=by obtain⟨_,_,_,_,_,_,_,_,_,_,h⟩:=h1;exact A6 h.cell
 clear hdr h1 A2 Er;cases hq:decide (s∈cur)
 ·rw[hq]at HSeen;have HF:=Td 3 line f;go_in;go_wp2;rw[HW.o,HXb.o];go_quiet ((first|(go_at_call 241;exact Calls.quiet_of_same (HTop.o _ (B5.o.keep (fun _ _=>rfl) (Af _))))|(go_at_call 265;exact Calls.quiet_of_same (HSeen _ (B5.o.keep (fun _ _=>rfl) (Af _))))))
  have Au:Hid (Fw D cb te (w1.drewN nq) (outer++cur) (bl++[outer.length]) wh inn f rc fa fn fc):=B5.o.keep (fun _ _=>rfl) (Af _);have Ab:Hid (A3 D w (w1.drewN nq)):=⟨A9.o.os,A9.o.tape,A9.o.output,A9.o.size,A9.o.block⟩;have HX2:Hid ((w1.drewN nq).heap[xb]?=_):=Ks.o;go_wp2;go_end0;rw[HF];exact⟨rfl,Au.o,Ab.o⟩
 ·rw[hq]at HSeen;go_in;go_wp2;rw[HW.o,HXb.o];go_quiet ((first|(go_at_call 241;exact Calls.quiet_of_same (HTop.o _ (B5.o.keep (fun _ _=>rfl) (Af _))))|(go_at_call 265;exact Calls.quiet_of_same (HSeen _ (B5.o.keep (fun _ _=>rfl) (Af _))))))
  have Au:Hid (Fw D cb te (w1.drewN nq) (outer++cur) (bl++[outer.length]) wh inn f rc fa fn fc):=B5.o.keep (fun _ _=>rfl) (Af _);have Ab:Hid (A3 D w (w1.drewN nq)):=⟨A9.o.os,A9.o.tape,A9.o.output,A9.o.size,A9.o.block⟩;have HX2:Hid ((w1.drewN nq).heap[xb]?=_):=Ks.o;clear y0 y1 fy ly;generalize w1.drewN nq=w2 at *;obtain⟨y0,y1,fy,ly⟩:=K9 HX2.o;go_wp2_with fail
  refine(R9 Au.o 3 line).mono ?_;rintro e w3 ⟨rfl,Dc,Ay⟩;have Bu:=A0 Dc;have Ba:A3 D w w3:=Ab.o.trans Ay;clear Dc Ay;exact z4la
def A52{D:Nat->Prop}{cb te:Nat}{w:World}{ns:List Nm}{bk:List Nat}{wh:Nat}{inn:Bool}{f:Da}{rc:Nat}{fa:Option Addr}{fn fc:Nat}(h:Fw D cb te w ns bk wh inn f rc fa fn fc)(line:Nat) :
  Calls Tryz.prog 240 #[.p cb,.n line] w fun e w'=>e=.returned (.tuple #[])/\Fw D cb te w' ns bk wh inn (F0 (wh==0) 4 line f) rc fa fn fc/\A3 D w w':=by
 have HS:=A0 h;obtain⟨na,nn,nc,ba,bn,bc,la,ln,lc,ls,h⟩:=h;have lb:=A6 h.cell;have HL:=A2c h.A2i;rw[h.lsl]at HL;by_cases h0:wh=0
 ·subst h0;go_in;go_wp2_with fail
  refine HL.mono ?_;rintro e w' ⟨rfl,rfl⟩;go_wp2_with fail
  refine(R9 HS.o 4 line).mono ?_;rintro e w3 ⟨rfl,Dc,Ay⟩;go_wp2;go_end0;exact⟨rfl,Dc,Ay⟩
 ·have t0:((wh:Int)==0)=false:=by rw[Am];omega
  have HF:F0 (wh==0) 4 line f=f:=by
   show _=_;rw[show(wh==0)=false by simpa using h0];exact Td 4 line f
  go_in;go_wp2_with fail
  refine HL.mono ?_;rintro e w' ⟨rfl,rfl⟩;go_wp2;go_end0;rw[HF];exact⟨rfl,HS.o,A3.refl _ _⟩
structure Jq (D : Nat -> Prop) (w : World) (fns : List (Nm × Nat)) (fa : Option Addr) (fn fc : Nat) : Prop where
 len:fn=fns.length
 C1:fns.length<=100000
 cap:fn<=fc
 at':∀i (h:i<fns.length),∃g pb pa pc,fa=some ⟨g,0,none⟩/\D g/\g<w.heap.size/\w.cell? ⟨g,i,none⟩=some (.p pb)/\D pb/\pb<w.heap.size/\w.cell? ⟨pb,1,none⟩=some (.string ⟨fns[i].1.toArray⟩)/\w.cell? ⟨pb,2,none⟩=some (.slice pa fns[i].2 pc)
def Jq.keep{D:Nat->Prop}{w w':World}{fns:List (Nm×Nat)}{fa:Option Addr}{fn fc:Nat}(h:Jq D w fns fa fn fc)(hb:A3 D w w'):Jq D w' fns fa fn fc:=by
 refine⟨h.len,h.C1,h.cap,fun i hi=>?_⟩;obtain⟨g,pb,pa,pc,e1,e2,e3,e4,e5,e6,e7,e8⟩:=h.at' i hi;exact⟨g,pb,pa,pc,e1,e2,Cb e3 hb.size,(D9 (hb.block g e2)).trans e4,e5,Cb e6 hb.size,(D9 (hb.block pb e5)).trans e7,(D9 (hb.block pb e5)).trans e8⟩
def Pa(w:World)(fns:List (Nm×Nat))(fa:Option Addr)(k:Nat)(s:Nm)(p:Option Addr):Prop:=
 (p=none/\∀j,j<k->∀h:j<fns.length,fns[j].1≠s)\/(∃i,∃h:i<fns.length,∃pb pa pc,i<k/\p=some ⟨pb,0,none⟩/\(∃g,fa=some ⟨g,0,none⟩/\w.cell? ⟨g,i,none⟩=some (.p pb))/\fns[i].1=s/\(∀j,j<i->∀h':j<fns.length,fns[j].1≠s)/\pb<w.heap.size/\w.cell? ⟨pb,2,none⟩=some (.slice pa fns[i].2 pc))
def z3ua {P:Prop} (h:P:=by
  intro hn j hj h' e;by_cases hjn:j=i
  ·subst hjn;exact hn e
  ·exact hno j z4ma h' e):P:=h
def z2ja {P:Prop} (h:P:=by
  have HQ:Hid (x.1≠s):=by rw[Am]at hq;exact hq
  go_wp2;go_roundg (gk-1)
  case measure=>omega
  case rel=>exact⟨i+1,rfl,by omega,HS HQ.o,rfl⟩):P:=h
def Agq(h:Jq D w fns fa fn fc)(k:Nat)(hk:k<=fns.length)(s:Nm) :
  Calls Tryz.prog 263 #[.slice fa k fc,.s s] w fun e w'=>∃p,e=.returned (.pointer p)/\Pa w fns fa k s p/\w'=w:=by
 have hfew:=h.C1;have hcap:=h.cap;have hlen:=h.len;have HH:=A0 h;go_in;go_wp2;go_loopg [9] k (fun q v wr=>∃i:Nat,v=.i i/\i+q=k/\(∀j,j<i->∀h':j<fns.length,fns[j].1≠s)/\wr=w)
 case atStart=>exact⟨0,rfl,by omega,fun i hi=>by omega,rfl⟩
 case round=>
  obtain⟨i,rfl,hik,hno,rfl⟩:=hrel;by_cases hlt:i<k
  ·have hlt2:i<fns.length:=by omega
   obtain⟨g,pb,pa,pc,rfl,_,lg,cg,_,lp,c1,c2⟩:=HH.o.at' i hlt2;have HI:fns[i].1=s->Pa wr fns (some ⟨g,0,none⟩) k s (some ⟨pb,0,none⟩):=fun e=>.inr ⟨i,hlt2,pb,pa,pc,hlt,rfl,⟨g,rfl,cg⟩,e,hno,lp,c2⟩;have HS:fns[i].1≠s->∀j,j<i+1->∀h':j<fns.length,fns[j].1≠s:=by
    exact z3ua
   have hcap2:k<=fc:=by omega
   generalize fns[i]=x at *;cases hq:(x.1==s)
   ·exact z2ja
   ·have HQ:Hid (x.1=s):=A0 (by simpa using hq);go_wp2;go_ret;exact⟨_,rfl,HI HQ.o,rfl⟩
  ·have HT:Hid (Pa wr fns fa k s none):=.inl ⟨rfl,fun j hj h=>hno j z4ma h⟩;go_wp2;go_ret;exact⟨_,rfl,HT.o,rfl⟩
def Pa.unique{w:World}{fns:List (Nm×Nat)}{fa:Option Addr}{k:Nat}{s:Nm}{p q:Option Addr}(h1:Pa w fns fa k s p)(h2:Pa w fns fa k s q):p=q:=by
 rcases h1 with⟨e1,n1⟩|⟨i,hi,pb,pa,pc,hik,e1,⟨g,eg,c1⟩,es,n1,_,_⟩
 ·rcases h2 with⟨e2,_⟩|⟨j,hj,pb2,pa2,pc2,hjk,e2,_,es2,_⟩
  ·rw[e1,e2]
  ·exact absurd es2 (n1 j hjk hj)
 ·rcases h2 with⟨e2,n2⟩|⟨j,hj,pb2,pa2,pc2,hjk,e2,⟨g2,eg2,c2⟩,es2,n2,_,_⟩
  ·exact absurd es (n2 i hik hi)
  ·have hij:i=j:=by
    rcases Nat.lt_trichotomy i j with h|h|h
    ·exact absurd es (n2 i h hi)
    ·exact h
    ·exact absurd es2 (n1 j h hj)
   subst hij;rw[eg]at eg2;injection eg2 with eg2;injection eg2 with eg2;subst eg2;rw[c1]at c2;injection c2 with c2;injection c2 with c2;rw[e1,e2,c2]
def Jq.find(h:Jq D w fns fa fn fc)(s:Nm):∀k,k<=fns.length->∃p,Pa w fns fa k s p:=by
 intro k;induction k with
 | zero=>intro _;exact⟨none,.inl ⟨rfl,fun j hj=>by omega⟩⟩
 | succ k ih=>
  intro hk;obtain⟨p,hp⟩:=ih z4ma;rcases hp with⟨rfl,hn⟩|⟨i,hi,pb,pa,pc,hik,r⟩
  ·by_cases e:(fns[k]'z4ma).1=s
   ·obtain⟨g,pb,pa,pc,e1,_,_,e4,_,e6,_,e8⟩:=h.at' k z4ma;exact⟨some ⟨pb,0,none⟩,.inr ⟨k,by omega,pb,pa,pc,by omega,rfl,⟨g,e1,e4⟩,e,fun j hj h'=>hn j hj h',e6,e8⟩⟩
   ·refine⟨none,.inl ⟨rfl,fun j hj h' e2=>?_⟩⟩;by_cases hjk:j=k
    ·subst hjk;exact e e2
    ·exact hn j z4ma h' e2
  ·exact⟨p,.inr ⟨i,hi,pb,pa,pc,by omega,r⟩⟩
def A53(h:Jq D w fns fa fn fc)(k:Nat)(hk:k<=fns.length)(s:Nm)(p:Option Addr)(hp:Pa w fns fa k s p) :
  Calls Tryz.prog 263 #[.slice fa k fc,.s s] w fun e w'=>e=.returned (.pointer p)/\w'=w:=
 (Agq h k hk s).mono fun e w' ⟨q,e1,e2,e3⟩=>⟨by rw[e1,hp.unique e2],e3⟩
end
section
set_option maxRecDepth 100000
open Go.RowKit
open Go.Deep (BT)
structure CC where
 cb:Nat
 te:Nat
 fns:List (Nm×Nat)
 fa:Option Addr
 fn:Nat
 fc:Nat
structure CC.St (K : CC) (D : Nat -> Prop) (w : World) (ns : List Nm) (bk : List Nat) (wh : Nat) (inn : Bool) (f : Da) (rc : Nat) : Prop where
 st:Fw D K.cb K.te w ns bk wh inn f rc K.fa K.fn K.fc
 fr:Jq D w K.fns K.fa K.fn K.fc
variable {K:CC}{D:Nat->Prop}{w:World}{ns:List Nm}{bk:List Nat}{wh:Nat}{inn:Bool}{f:Da}{rc:Nat}
def CC.St.lo(h:K.St D w ns bk wh inn f rc):(∀g,D g->g<w.heap.size)/\K.cb<w.heap.size/\¬D K.cb:=by
 obtain⟨_,_,_,_,_,_,_,_,_,_,h⟩:=h.st;exact⟨h.lo,A6 h.cell,h.Ig⟩
def CC.St.next{K:CC}{D:Nat->Prop}{w w':World}{ns ns':List Nm}{bk bk':List Nat}{wh wh':Nat}{inn inn':Bool}{f f':Da}{rc rc':Nat}(h:K.St D w ns bk wh inn f rc)(hs:Fw D K.cb K.te w' ns' bk' wh' inn' f' rc' K.fa K.fn K.fc)(hb:A3 D w w'):K.St D w' ns' bk' wh' inn' f' rc':=⟨hs,h.fr.keep hb⟩
def CC.St.drewN(h:K.St D w ns bk wh inn f rc)(n:Nat):K.St D (w.drewN n) ns bk wh inn f rc:=
 h.next (h.st.keep (fun _ _=>rfl) (Af _)) ⟨rfl,rfl,rfl,Af _,fun _ _=>rfl⟩
def Eb(D:Nat->Prop)(w:World)(n:Nat):A3 D w (w.drewN n):=⟨rfl,rfl,rfl,Af _,fun _ _=>rfl⟩
def Ar.Bv{D:Nat->Prop}{w w':World}(hb:A3 D w w'){f:BT A5}{vs:List Value}(h:Ar D w f vs):Ar D w' f vs:=Ar.keep (fun g hg _=>⟨hb.block g hg,hg⟩) _ _ h
def Bx.Bv{D:Nat->Prop}{w w':World}(hb:A3 D w w'){l:A5}{v:Value}{ks:List Value}(h:Bx D w l v ks):Bx D w' l v ks:=Bx.keep (fun g hg _=>⟨hb.block g hg,hg⟩) h
def Dj.Bv{D:Nat->Prop}{w w':World}(hb:A3 D w w'){e:TypeId}{size:Nat}{v:Value}{n:Nat}{cs:List Value}(h:Dj D w e size v n cs):Dj D w' e size v n cs:=h.keep (fun g hg _=>⟨hb.block g hg,hg⟩)
def Ar.at'{D:Nat->Prop}{w:World}:∀(i:Nat) (f:BT A5) (vs:List Value),Ar D w f vs->i<Aj f->
  ∃x y l c r,Cp i f=.node x y l c r/\∃v ks,vs[i]?=some v/\Bx D w l v ks/\Ar D w c ks:=by
 intro i;induction i with
 | zero=>
  intro f vs h hi;cases f with
  | nil=>simp[Aj]at hi
  | node x y l c r=>
   obtain⟨v,ks,rest,rfl,h1,h2,h3⟩:=h;exact⟨x,y,l,c,r,rfl,v,ks,rfl,h1,h2⟩
 | succ i ih=>
  intro f vs h hi;cases f with
  | nil=>simp[Aj]at hi
  | node x y l c r=>
   obtain⟨v,ks,rest,rfl,h1,h2,h3⟩:=h;obtain⟨x',y',l',c',r',e,v',ks',k1,k2,k3⟩:=ih r rest h3 (by simp only[Aj]at hi;omega);exact⟨x',y',l',c',r',e,v',ks',k1,k2,k3⟩
def Gw(K:CC)(l:A5)(c:BT A5):Prop:=∀(D:Nat->Prop) (w:World) (outer cur:List Nm) (bk:List Nat) (wh:Nat) (inn:Bool) (f:Da) (rc:Nat) (v:Value) (ks:List Value),
 K.St D w (outer++cur) bk wh inn f rc->Bx D w l v ks->Ar D w c ks->
 Calls Tryz.prog 236 #[.p K.cb,v] w fun e w'=>e=.returned (.tuple #[])/\K.St D w' (outer++cur) bk wh inn (Bt K.fns (nd l c) outer cur wh inn f).2 rc/\A3 D w w'
def Dp(P:A5->BT A5->Prop):BT A5->Prop
 | .nil=>True
 | .node _ _ l c r=>P l c/\Dp P r
def Dp.at'{P:A5->BT A5->Prop}:∀(i:Nat) (f:BT A5),Dp P f->∀x y l c r,Cp i f=.node x y l c r->P l c:=by
 intro i;induction i with
 | zero=>intro f h x y l c r e;rw[show Cp 0 f=f from by cases f <;> rfl]at e;subst e;exact h.1
 | succ i ih=>
  intro f h x y l c r e;cases f with
  | nil=>rw[Cp]at e;cases e
  | node x' y' l' c' r'=>rw[Cp]at e;exact ih r' h.2 x y l c r e
def Wf.drop:∀(m i:Nat) (f:BT A5),Wf m f->Wf m (Cp i f):=by
 intro m i;induction i with
 | zero=>intro f h;exact h
 | succ i ih=>
  intro f h;cases f with
  | nil=>exact h
  | node x y l c r=>exact ih r h.1
def sens_xy'(fns:List (Nm×Nat))(x y:Nat)(l:A5)(c r:BT A5)(outer cur:List Nm)(wh:Nat)(inn:Bool)(f:Da):Bt fns (.node x y l c r) outer cur wh inn f=Bt fns r outer (Bt fns (nd l c) outer cur wh inn f).1 wh inn (Bt fns (nd l c) outer cur wh inn f).2:=by
 rw[Ar9];rfl
def Wf.Uc{x y:Nat}{l:A5}{c r:BT A5}(h:Wf 0 (.node x y l c r)):Wf 0 (nd l c):=⟨trivial,h.2⟩
def z1na {P:Prop} (h:P:=by
  have:Aj (Cp i c)=0:=by rw[Sq,←HLen.o];omega
  cases hd:Cp i c with
  | nil=>rfl
  | node x y l c r=>rw[hd]at this;simp[Aj]at this):P:=h
def z0pa {P:Prop} (h:P:=by
  have h0:Cp i c=.nil:=by
   exact z1na
  have:=HSe.o;rw[h0]at this;exact this):P:=h
def z2ha {P:Prop} (h:P:=by
  go_wp2;go_end0;rw[←HE.o];exact⟨rfl,HSt.o,HBel.o⟩):P:=h
def z58a {P:Prop} (h:P:=by rw[←HLen.o];exact hlt):P:=h
def A50(K:CC)(c:BT A5)(hok:Dp (Gw K) c)(hwf:Wf 0 c)(D:Nat->Prop)(w:World)(outer cur:List Nm)(bk:List Nat)(wh:Nat)(inn:Bool)(f:Da)(rc:Nat)(va:Option Addr)(vn vc:Nat)(ks:List Value)
  (hst:K.St D w (outer++cur) bk wh inn f rc) (hown:Dj D w 150 1 (.slice va vn vc) ks.length ks) (hrep:Ar D w c ks) (hb:ks.length<=500000) :
  Calls Tryz.prog 267 #[.p K.cb,.slice va vn vc] w fun e w'=>e=.returned (.tuple #[])/\K.St D w' (outer++cur) bk wh inn (Bt K.fns c outer cur wh inn f).2 rc/\A3 D w w':=by
 have hvn:vn=ks.length:=(Cm hown.1).1;subst hvn;have HSt0:=A0 hst;have HOwn:=A0 hown;have HRep:=A0 hrep;have hlen:=hrep.len;have HLen:=A0 hlen;clear hst hown hrep hlen;go_in;go_wp2;go_loopg [8] ks.length (fun k v wr=>∃(i:Nat) (fl:Da),v=.i i/\i+k=ks.length/\K.St D wr (outer++cur) bk wh inn fl rc/\(Bt K.fns (Cp i c) outer cur wh inn fl).2=(Bt K.fns c outer cur wh inn f).2/\A3 D w wr)
 case atStart=>exact⟨0,f,rfl,by omega,HSt0.o,rfl,A3.refl _ _⟩
 case round=>
  clear HSt0;obtain⟨i,fl,rfl,hik,hst,hse,hbel⟩:=hrel;have HSt:=A0 hst;have HSe:=A0 hse;have HBel:=A0 hbel;clear hst hse hbel;by_cases hlt:i<ks.length
  ·have hr:=HRep.o.Bv HBel.o;obtain⟨x,y,l,cc,r,hd,v,ks',hv,hn,hrk⟩:=Ar.at' i c ks hr z58a;obtain⟨g,rfl,_,hcap,lg,hcell⟩:=G1 (HOwn.o.Bv HBel.o).1 z4ma;have d0:=hcell i v hv;have hE:=A0 (hok.at' i c x y l cc r hd);have Dk:Wf 0 (nd l cc):=by have:=Wf.drop 0 i c hwf;rw[hd]at this;exact this.Uc
   have Ax:=sens_xy' K.fns x y l cc r outer cur wh inn fl;rw[Mz K.fns _ Dk]at Ax;have HNx:(Bt K.fns (Cp (i+1) c) outer cur wh inn (Bt K.fns (nd l cc) outer cur wh inn fl).2).2=(Bt K.fns c outer cur wh inn f).2:=by
    show _=_;rw[Ra i c x y l cc r hd,←HSe.o,hd,Ax]
   have HC:=hE.out D wr outer cur bk wh inn fl rc v ks' HSt.o hn hrk;clear hr hd hv hn hrk hcell Dk Ax;go_wp2_with fail
   refine HC.mono ?_;rintro e w1 ⟨rfl,Ax,A2⟩;have B5:=A0 Ax;have A9:A3 D w w1:=HBel.o.trans A2;clear Ax A2;go_wp2;go_roundg (gk-1)
   case measure=>omega
   case rel=>exact⟨i+1,_,rfl,by omega,B5.o,HNx,A9⟩
  ·have HE:Hid (fl=(Bt K.fns c outer cur wh inn f).2):=by
    exact z0pa
   exact z2ha
end
section
set_option maxRecDepth 100000
open Go.RowKit
open Go.Deep (BT)
def Ajh{w:World}{fns:List (Nm×Nat)}{fa:Option Addr}{s:Nm}{p:Option Addr}(h:Pa w fns fa fns.length s p)(n:Nat) :
  (p=none/\Qd fns s n=true)\/(∃pb pa m pc,p=some ⟨pb,0,none⟩/\Qd fns s n=(m !=n)/\pb<w.heap.size/\w.cell? ⟨pb,2,none⟩=some (.slice pa m pc)):=by
 rcases h with⟨e,hn⟩|⟨i,hi,pb,pa,pc,_,e,_,es,hn,lp,c2⟩
 ·left;refine⟨e,?_⟩;unfold Qd;rw[Ajg fns s (fun j hj=>hn j hj hj)]
 ·right;refine⟨pb,pa,fns[i].2,pc,e,?_,lp,c2⟩;unfold Qd;rw[Aje fns s i hi es hn]
def z0ya {P:Prop} (h:P:=by
  generalize w1.drewN nq=w2 at *;have d0:=A4 HBlk2.o 0 _ rfl;have d2:=A4 HBlk2.o 2 _ rfl;have ld:=A6 HBlk2.o;go_wp2_with fail
  refine(R9 Au.o.st 3 line).mono ?_;rintro e w3 ⟨rfl,Dc,Ay⟩;have Bu:=A0 (Au.o.next Dc Ay);have Ba:Hid (A3 D w w3):=Ab.o.trans Ay;have HBlk3:=A0 ((Ay.block b hD).trans HBlk2.o);clear Dc Ay d0 d2 ld;have d2:=A4 HBlk3.o 2 _ rfl;have ld:=A6 HBlk3.o;go_wp2_with fail
  refine(HRun _ _ Bu.o Ba.o).mono ?_;rintro e w4 ⟨rfl,He,Bz⟩;have Ft:=A0 He;have D6:Hid (A3 D w w4):=Ba.o.trans Bz;clear He Bz;go_wp2;go_end0;exact⟨rfl,Ft.o,D6.o⟩):P:=h
def Afz(K:CC)(c:BT A5)(hok:Dp (Gw K) c)(hwf:Wf 0 c)(line:Nat)(s:Nm)(D:Nat->Prop)(w:World)(outer cur:List Nm)(bk:List Nat)(wh:Nat)(inn:Bool)(f:Da)(rc:Nat)(b:Nat)(va:Option Addr)(vn vc:Nat)(ks:List Value)
  (hst:K.St D w (outer++cur) bk wh inn f rc) (hD:D b) (hblk:w.heap[b]?=some (.cells #[.n line,.s s,.slice va vn vc] 303 (0,0))) (hown:Dj D w 150 1 (.slice va vn vc) ks.length ks) (hrep:Ar D w c ks) (hb:ks.length<=500000) :
  Calls Tryz.prog 266 #[.p K.cb,.p b] w fun e w'=>e=.returned (.tuple #[])/\K.St D w' (outer++cur) bk wh inn (Bt K.fns c outer cur wh inn (F0 (Qd K.fns s (Aj c)) 3 line f)).2 rc/\A3 D w w':=by
 obtain⟨hlo,lcb,hncb⟩:=hst.lo;have hvn:vn=ks.length:=(Cm hown.1).1;have hlen:=hrep.len;rw[←hlen];subst hvn;obtain⟨p,hp⟩:=hst.fr.find s K.fns.length (Af _);have hfl:=hst.fr.len;have HNm:=fun(n:Nat)=>A53 (hst.drewN n).fr K.fns.length (Af _) s p hp;have hfn:=Ajh hp ks.length;have HSt:=A0 hst;have HOwn:=A0 hown;have HRep:=A0 hrep;have HBlk:=A0 hblk;obtain⟨na,nn,nc,ba,bn,bc,la,ln,lc,ls,hv⟩:=hst.st;obtain⟨c0,c1,c2,c3,c4,c5,c6,c7,fz,lb⟩:=Qc hv.cell;rw[hfl]at c0;have d0:=A4 hblk 0 _ rfl;have d1:=A4 hblk 1 _ rfl;have d2:=A4 hblk 2 _ rfl;have ld:=A6 hblk;clear hst hown hrep hblk hp hv hlen;have HRun:=fun(W:World) (g:Da) (hs:K.St D W (outer++cur) bk wh inn g rc) (hbd:A3 D w W)=>A50 K c hok hwf D W outer cur bk wh inn g rc va ks.length vc ks hs (HOwn.o.Bv hbd) (HRep.o.Bv hbd) hb;rcases hfn with⟨rfl,hcb⟩|⟨pb,pa,m,pc,rfl,hcb,lpb,cp⟩
 ·rw[hcb];clear hcb hfl;go_in;go_wp2;go_quiet ((go_at_call 263;exact Calls.quiet_of_same (HNm _)))
  have B5:=A0 (HSt.o.drewN nq);have A9:=A0 (Eb D w nq);have HBlk1:Hid ((w.drewN nq).heap[b]?=_):=HBlk.o;clear c0 c1 c2 c3 c4 c5 c6 c7 fz lb d0 d1 d2 ld;generalize w.drewN nq=w1 at *;have d0:=A4 HBlk1.o 0 _ rfl;have d1:=A4 HBlk1.o 1 _ rfl;have d2:=A4 HBlk1.o 2 _ rfl;have ld:=A6 HBlk1.o;go_wp2;go_quiet (fail)
  have Au:=A0 (B5.o.drewN nq);have Ab:Hid (A3 D w (w1.drewN nq)):=A9.o.trans (Eb D w1 nq);have HBlk2:Hid ((w1.drewN nq).heap[b]?=_):=HBlk1.o;clear d0 d1 d2 ld;exact z0ya
 ·rw[hcb];clear hfl;cases hm:(m !=ks.length)
  ·have tm:((m:Int) !=(ks.length:Int))=false:=by simp at hm ⊢;omega
   rw[Td];clear hcb hm;go_in;go_wp2;go_quiet ((go_at_call 263;exact Calls.quiet_of_same (HNm _)))
   have B5:=A0 (HSt.o.drewN nq);have A9:=A0 (Eb D w nq);have HBlk1:Hid ((w.drewN nq).heap[b]?=_):=HBlk.o;have HCp:Hid ((w.drewN nq).cell? ⟨pb,2,none⟩=_):=cp;have lpb1:pb<(w.drewN nq).heap.size:=lpb;clear cp lpb;clear c0 c1 c2 c3 c4 c5 c6 c7 fz lb d0 d1 d2 ld;generalize w.drewN nq=w1 at *;have d0:=A4 HBlk1.o 0 _ rfl;have d1:=A4 HBlk1.o 1 _ rfl;have d2:=A4 HBlk1.o 2 _ rfl;have ld:=A6 HBlk1.o;have cp:=HCp.o;go_wp2;go_quiet (fail)
   have Au:=A0 (B5.o.drewN nq);have Ab:Hid (A3 D w (w1.drewN nq)):=A9.o.trans (Eb D w1 nq);have HBlk2:Hid ((w1.drewN nq).heap[b]?=_):=HBlk1.o;clear d0 d1 d2 ld cp lpb1 HCp;generalize w1.drewN nq=w2 at *;have d0:=A4 HBlk2.o 0 _ rfl;have d2:=A4 HBlk2.o 2 _ rfl;have ld:=A6 HBlk2.o;go_wp2_with fail
   refine(HRun _ _ Au.o Ab.o).mono ?_;rintro e w4 ⟨rfl,He,Bz⟩;have Ft:=A0 He;have D6:Hid (A3 D w w4):=Ab.o.trans Bz;clear He Bz;go_wp2;go_end0;exact⟨rfl,Ft.o,D6.o⟩
  ·have tm:((m:Int) !=(ks.length:Int))=true:=by simp at hm ⊢;omega
   clear hcb hm;go_in;go_wp2;go_quiet ((go_at_call 263;exact Calls.quiet_of_same (HNm _)))
   have B5:=A0 (HSt.o.drewN nq);have A9:=A0 (Eb D w nq);have HBlk1:Hid ((w.drewN nq).heap[b]?=_):=HBlk.o;have HCp:Hid ((w.drewN nq).cell? ⟨pb,2,none⟩=_):=cp;have lpb1:pb<(w.drewN nq).heap.size:=lpb;clear cp lpb;clear c0 c1 c2 c3 c4 c5 c6 c7 fz lb d0 d1 d2 ld;generalize w.drewN nq=w1 at *;have d0:=A4 HBlk1.o 0 _ rfl;have d1:=A4 HBlk1.o 1 _ rfl;have d2:=A4 HBlk1.o 2 _ rfl;have ld:=A6 HBlk1.o;have cp:=HCp.o;go_wp2;go_quiet (fail)
   have Au:=A0 (B5.o.drewN nq);have Ab:Hid (A3 D w (w1.drewN nq)):=A9.o.trans (Eb D w1 nq);have HBlk2:Hid ((w1.drewN nq).heap[b]?=_):=HBlk1.o;clear d0 d1 d2 ld cp lpb1 HCp;exact z0ya
def Mw(fns:List (Nm×Nat))(l:A5)(n:Nat)(outer cur:List Nm)(wh:Nat)(inn:Bool)(f:Da):Da:=
 if l.kd=6\/l.kd=28 then F0 (!decide (l.s∈outer++cur)) 3 l.line f
 else if l.kd=7 then F0 (Qd fns l.s n) 3 l.line f
 else if l.kd=25\/l.kd=26 then F0 (wh==0) 4 l.line f
 else if l.kd=24 then F0 (!inn) 4 l.line f
 else f
def Kb(fns:List (Nm×Nat))(l:A5)(c:BT A5)(h1:l.kd≠31)(h2:l.kd≠32)(h3:l.kd≠21)(outer cur:List Nm)(wh:Nat)(inn:Bool)(f:Da):Bt fns (nd l c) outer cur wh inn f=Bt fns c outer cur wh inn (Mw fns l (Aj c) outer cur wh inn f):=by
 rw[nd,Bt,A1 h1,A1 h2,A1 h3,Bt];rfl
def Mx{fns:List (Nm×Nat)}{l:A5}{n:Nat}{outer cur:List Nm}{wh:Nat}{inn:Bool}{f:Da}(h:l.kd≠6/\l.kd≠28/\l.kd≠7/\l.kd≠25/\l.kd≠26/\l.kd≠24):Mw fns l n outer cur wh inn f=f:=by
 unfold Mw;rw[Ai,Ai,Ai,Ai]
def Ar.nil'{D:Nat->Prop}{w:World}{c:BT A5}(h:Ar D w c []):c=.nil:=by
 cases c with
 | nil=>rfl
 | node x y l c r=>obtain⟨v,ks,rest,e,_⟩:=h;cases e
def Ar.cons'{D:Nat->Prop}{w:World}{c:BT A5}{a:Value}{vs:List Value}(h:Ar D w c (a::vs)):∃x y l c1 r ks,c=.node x y l c1 r/\Bx D w l a ks/\Ar D w c1 ks/\Ar D w r vs:=by
 cases c with
 | nil=>rw[Ar]at h;cases h
 | node x y l c1 r=>
  obtain⟨v,ks,rest,e,h1,h2,h3⟩:=h;injection e with e1 e2;subst e1 e2;exact⟨x,y,l,c1,r,ks,rfl,h1,h2,h3⟩
def Lr(fns:List (Nm×Nat))(x y:Nat)(l:A5)(c:BT A5)(outer cur:List Nm)(wh:Nat)(inn:Bool)(f:Da):Bt fns (.node x y l c .nil) outer cur wh inn f=Bt fns (nd l c) outer cur wh inn f:=by
 rw[sens_xy',Bt]
def z47a {P:Prop} (h:P:=by
  go_wp2;go_end0;exact⟨rfl,hst,A3.refl _ _⟩):P:=h
def z4ua {P:Prop} (h:P:=by rcases hp with h|h|h|h <;> rw[h] <;> decide):P:=h
def Ag8(K:CC)(l:A5)(c:BT A5)(hk:l.kd=1\/l.kd=2\/l.kd=3\/l.kd=4\/l.kd=5):Gw K l c:=by
 intro D w outer cur bk wh inn f rc v ks hst hn hr;unfold Bx at hn;rw[Ai]at hn;obtain⟨b,cs,rfl,hD,hb,hl⟩:=hn;rw[Kb K.fns l c z4ma z4ma z4ma,Mx z4ma];have hks:ks=[]:=by
  unfold Di at hl;rcases hk with h|h|h|h|h <;> (simp only[h]at hl;exact hl.2)
 subst hks;rw[hr.nil',Bt];have hp:Cw l.kd=220\/Cw l.kd=229\/Cw l.kd=233\/Cw l.kd=237:=by
  rcases hk with h|h|h|h|h <;> (rw[h];decide)
 have hm:∀T e,Tryz.prog.underlying T=some (.pointer e)->(Tryz.prog.info? T).map (·.zero)=some (some (.pointer none))->Cw l.kd≠T->∀(v:Value) (w:World),(Instr.typeAssert (.iface (Cw l.kd) v) 150 T true).run Tryz.prog w=.ok (.tuple #[.pointer none,.bool false]) w:=fun T e h1 h2 h3 v w=>Bl h1 h2 h3 v w;have Dy:=hm 238 _ Tryz.underlying238 (by kernel_rfl) z4ua;have Ee:=hm 301 _ Tryz.underlying301 (by kernel_rfl) z4ua;have Fa:=hm 241 _ Tryz.underlying241 (by kernel_rfl) z4ua;have Ga:=hm 296 _ Tryz.underlying296 (by kernel_rfl) z4ua;have Hj:=hm 304 _ Tryz.underlying304 (by kernel_rfl) z4ua;have Jf:=hm 307 _ Tryz.underlying307 (by kernel_rfl) z4ua;have Kr:=hm 310 _ Tryz.underlying310 (by kernel_rfl) z4ua;have ta7:=hm 244 _ Tryz.underlying244 (by kernel_rfl) z4ua;have ta8:=hm 248 _ Tryz.underlying248 (by kernel_rfl) z4ua;generalize Cw l.kd=t at *;go_in;exact z47a
def A4z(K:CC)(l:A5)(c:BT A5)(hk:l.kd=6):Gw K l c:=by
 intro D w outer cur bk wh inn f rc v ks hst hn hr;obtain⟨hlo,lcb,hncb⟩:=hst.lo;unfold Bx at hn;rw[Ai]at hn;obtain⟨b,cs,rfl,hD,hb,hl⟩:=hn;have e1:Cw l.kd=238:=by rw[hk];rfl
 have e2:E4 l.kd=240:=by rw[hk];rfl
 rw[e1];rw[e2]at hb;rw[Kb K.fns l c z4ma z4ma z4ma];unfold Di at hl;simp only[hk]at hl;obtain⟨rfl,rfl⟩:=hl;rw[hr.nil',Bt];have hp:Mw K.fns l (Aj BT.nil) outer cur wh inn f=F0 (!decide (l.s∈outer++cur)) 3 l.line f:=by unfold Mw;rw[A7 (.inl hk)]
 rw[hp];have hsn:=A58 hst.st l.s 0 (De _);rw[Hl]at hsn;have HSn:=A0 hsn;have d0:w.cell? ⟨b,0,none⟩=some (.n l.line):=A4 hb 0 _ rfl;have d1:w.cell? ⟨b,1,none⟩=some (.s l.s):=A4 hb 1 _ rfl;have ld:=A6 hb;have Dy:=fun(v:Value) (w:World)=>Ek (P:=Tryz.prog) (xT:=150) Tryz.underlying238 v w;unfold Cs;cases hq:decide (l.s∈outer++cur)
 ·rw[hq]at HSn;go_in;go_wp2_with fail
  refine HSn.o.mono ?_;rintro e w' ⟨rfl,rfl⟩;go_wp2_with fail
  refine(R9 hst.st 3 l.line).mono ?_;rintro e w3 ⟨rfl,Dc,Ay⟩;have Bu:=hst.next Dc Ay;go_wp2;go_end0;exact⟨rfl,Bu,Ay⟩
 ·rw[hq]at HSn;rw[show(!true)=false from rfl,Td];go_in;go_wp2_with fail
  refine HSn.o.mono ?_;rintro e w' ⟨rfl,rfl⟩;exact z47a
def z17a {P:Prop} (h:P:=by
  unfold Cs;go_in;go_wp2_with fail
  refine HC.mono ?_;rintro e w1 ⟨rfl,Ax,A2⟩;go_wp2;go_end0;exact⟨rfl,Ax,A2⟩):P:=h
def Ag7(K:CC)(l:A5)(c:BT A5)(hk:l.kd=8)(ih:Dp (Gw K) c):Gw K l c:=by
 intro D w outer cur bk wh inn f rc v ks hst hn hr;obtain⟨hlo,lcb,hncb⟩:=hst.lo;unfold Bx at hn;rw[Ai]at hn;obtain⟨b,cs,rfl,hD,hb,hl⟩:=hn;have e1:Cw l.kd=241:=by rw[hk];rfl
 have e2:E4 l.kd=243:=by rw[hk];rfl
 rw[e1];rw[e2]at hb;rw[Kb K.fns l c z4ma z4ma z4ma];unfold Di at hl;simp only[hk]at hl;obtain⟨a,rfl,rfl⟩:=hl;obtain⟨x1,y1,l1,c1,r1,Du,rfl,Cc,Cd,hz⟩:=hr.cons';obtain rfl:=hz.nil';rw[Mx z4ma,Lr];have HC:=ih.1 D w outer cur bk wh inn f rc a Du hst Cc Cd;have d0:=A4 hb 0 a rfl;have ld:=A6 hb;have Dy:=fun(v:Value) (w:World)=>Bl (P:=Tryz.prog) (t:=241) (T:=238) (xT:=150) (z:=.pointer none) Tryz.underlying238 (by kernel_rfl) z4oa v w;have Ee:=fun(v:Value) (w:World)=>Bl (P:=Tryz.prog) (t:=241) (T:=301) (xT:=150) (z:=.pointer none) Tryz.underlying301 (by kernel_rfl) z4oa v w;have Fa:=fun(v:Value) (w:World)=>Ek (P:=Tryz.prog) (xT:=150) Tryz.underlying241 v w;exact z17a
def Ag9(K:CC)(l:A5)(c:BT A5)(hk:l.kd=10)(ih:Dp (Gw K) c):Gw K l c:=by
 intro D w outer cur bk wh inn f rc v ks hst hn hr;obtain⟨hlo,lcb,hncb⟩:=hst.lo;unfold Bx at hn;rw[Ai]at hn;obtain⟨b,cs,rfl,hD,hb,hl⟩:=hn;have e1:Cw l.kd=304:=by rw[hk];rfl
 have e2:E4 l.kd=306:=by rw[hk];rfl
 rw[e1];rw[e2]at hb;rw[Kb K.fns l c z4ma z4ma z4ma];unfold Di at hl;simp only[hk]at hl;obtain⟨a,rfl,rfl⟩:=hl;obtain⟨x1,y1,l1,c1,r1,Du,rfl,Cc,Cd,hz⟩:=hr.cons';obtain rfl:=hz.nil';rw[Mx z4ma,Lr];have HC:=ih.1 D w outer cur bk wh inn f rc a Du hst Cc Cd;have d0:=A4 hb 1 a rfl;have ld:=A6 hb;have Dy:=fun(v:Value) (w:World)=>Bl (P:=Tryz.prog) (t:=304) (T:=238) (xT:=150) (z:=.pointer none) Tryz.underlying238 (by kernel_rfl) z4oa v w;have Ee:=fun(v:Value) (w:World)=>Bl (P:=Tryz.prog) (t:=304) (T:=301) (xT:=150) (z:=.pointer none) Tryz.underlying301 (by kernel_rfl) z4oa v w;have Fa:=fun(v:Value) (w:World)=>Bl (P:=Tryz.prog) (t:=304) (T:=241) (xT:=150) (z:=.pointer none) Tryz.underlying241 (by kernel_rfl) z4oa v w;have Ga:=fun(v:Value) (w:World)=>Bl (P:=Tryz.prog) (t:=304) (T:=296) (xT:=150) (z:=.pointer none) Tryz.underlying296 (by kernel_rfl) z4oa v w;have Hj:=fun(v:Value) (w:World)=>Ek (P:=Tryz.prog) (xT:=150) Tryz.underlying304 v w;exact z17a
def z06a {P:Prop} (h:P:=by
  intro D w outer cur bk wh inn f rc v ks hst hn hr;obtain⟨hlo,lcb,hncb⟩:=hst.lo;unfold Bx at hn;rw[Ai]at hn;obtain⟨b,cs,rfl,hD,hb,hl⟩:=hn;have e1:Cw l.kd=244:=by rw[hk];rfl
  have e2:E4 l.kd=246:=by rw[hk];rfl
  rw[e1];rw[e2]at hb;rw[Kb K.fns l c z4ma z4ma z4ma];unfold Di at hl;simp only[hk]at hl;obtain⟨a,rfl,rfl⟩:=hl;obtain⟨x1,y1,l1,c1,r1,Du,rfl,Cc,Cd,hz⟩:=hr.cons';obtain rfl:=hz.nil';rw[Mx z4ma,Lr];have HC:=ih.1 D w outer cur bk wh inn f rc a Du hst Cc Cd;have d0:=A4 hb 2 a rfl;have ld:=A6 hb;have Dy:=fun(v:Value) (w:World)=>Bl (P:=Tryz.prog) (t:=244) (T:=238) (xT:=150) (z:=.pointer none) Tryz.underlying238 (by kernel_rfl) z4oa v w;have Ee:=fun(v:Value) (w:World)=>Bl (P:=Tryz.prog) (t:=244) (T:=301) (xT:=150) (z:=.pointer none) Tryz.underlying301 (by kernel_rfl) z4oa v w;have Fa:=fun(v:Value) (w:World)=>Bl (P:=Tryz.prog) (t:=244) (T:=241) (xT:=150) (z:=.pointer none) Tryz.underlying241 (by kernel_rfl) z4oa v w;have Ga:=fun(v:Value) (w:World)=>Bl (P:=Tryz.prog) (t:=244) (T:=296) (xT:=150) (z:=.pointer none) Tryz.underlying296 (by kernel_rfl) z4oa v w;have Hj:=fun(v:Value) (w:World)=>Bl (P:=Tryz.prog) (t:=244) (T:=304) (xT:=150) (z:=.pointer none) Tryz.underlying304 (by kernel_rfl) z4oa v w;have Jf:=fun(v:Value) (w:World)=>Bl (P:=Tryz.prog) (t:=244) (T:=307) (xT:=150) (z:=.pointer none) Tryz.underlying307 (by kernel_rfl) z4oa v w;have Kr:=fun(v:Value) (w:World)=>Bl (P:=Tryz.prog) (t:=244) (T:=310) (xT:=150) (z:=.pointer none) Tryz.underlying310 (by kernel_rfl) z4oa v w;have ta7:=fun(v:Value) (w:World)=>Ek (P:=Tryz.prog) (xT:=150) Tryz.underlying244 v w;unfold Cs;go_in;go_wp2_with fail
  refine HC.mono ?_;rintro e w1 ⟨rfl,Ax,A2⟩;go_wp2;go_end0;exact⟨rfl,Ax,A2⟩):P:=h
def Agc(K:CC)(l:A5)(c:BT A5)(hk:l.kd=13)(ih:Dp (Gw K) c):Gw K l c:=by
 exact z06a
def Agb(K:CC)(l:A5)(c:BT A5)(hk:l.kd=14)(ih:Dp (Gw K) c):Gw K l c:=by
 exact z06a
def z1ga {P:Prop} (h:P:=by
  have ld1:=A6 C8;go_wp2_with fail
  refine(Fx _ _ Ax A2).mono ?_;rintro e w2 ⟨rfl,Bj,Ad⟩;have Ab:A3 D w w2:=A2.trans Ad;go_wp2;go_end0;exact⟨rfl,Bj,Ab⟩):P:=h
def z4fa {P:Prop} (h:P:=by
  unfold Cs;go_in;go_wp2_with fail
  refine HC.mono ?_;rintro e w1 ⟨rfl,Ax,A2⟩;have C8:=(A2.block b hD).trans hb;have d1:=A4 C8 2 a2 rfl;exact z1ga):P:=h
def Agd(K:CC)(l:A5)(c:BT A5)(hk:l.kd=11)(ih:Dp (Gw K) c)(hwf:Wf 0 c):Gw K l c:=by
 intro D w outer cur bk wh inn f rc v ks hst hn hr;obtain⟨hlo,lcb,hncb⟩:=hst.lo;unfold Bx at hn;rw[Ai]at hn;obtain⟨b,cs,rfl,hD,hb,hl⟩:=hn;have e1:Cw l.kd=307:=by rw[hk];rfl
 have e2:E4 l.kd=309:=by rw[hk];rfl
 rw[e1];rw[e2]at hb;rw[Kb K.fns l c z4ma z4ma z4ma];unfold Di at hl;simp only[hk]at hl;obtain⟨a1,a2,rfl,rfl⟩:=hl;obtain⟨x1,y1,l1,c1,r1,Du,rfl,Cc,Cd,hz⟩:=hr.cons';obtain⟨x2,y2,l2,c2,r2,I7,rfl,Eu,C7,Dg⟩:=hz.cons';obtain rfl:=Dg.nil';have hc0:=Mz K.fns _ hwf.Uc outer cur wh inn f;rw[Mx z4ma,sens_xy',hc0,Lr];have HC:=ih.1 D w outer cur bk wh inn f rc a1 Du hst Cc Cd;have Fx:=fun W g (hs:K.St D W (outer++cur) bk wh inn g rc) (hbd:A3 D w W)=>ih.2.1 D W outer cur bk wh inn g rc a2 I7 hs (Eu.Bv hbd) (C7.Bv hbd);have d0:=A4 hb 1 a1 rfl;have ld:=A6 hb;have Dy:=fun(v:Value) (w:World)=>Bl (P:=Tryz.prog) (t:=307) (T:=238) (xT:=150) (z:=.pointer none) Tryz.underlying238 (by kernel_rfl) z4oa v w;have Ee:=fun(v:Value) (w:World)=>Bl (P:=Tryz.prog) (t:=307) (T:=301) (xT:=150) (z:=.pointer none) Tryz.underlying301 (by kernel_rfl) z4oa v w;have Fa:=fun(v:Value) (w:World)=>Bl (P:=Tryz.prog) (t:=307) (T:=241) (xT:=150) (z:=.pointer none) Tryz.underlying241 (by kernel_rfl) z4oa v w;have Ga:=fun(v:Value) (w:World)=>Bl (P:=Tryz.prog) (t:=307) (T:=296) (xT:=150) (z:=.pointer none) Tryz.underlying296 (by kernel_rfl) z4oa v w;have Hj:=fun(v:Value) (w:World)=>Bl (P:=Tryz.prog) (t:=307) (T:=304) (xT:=150) (z:=.pointer none) Tryz.underlying304 (by kernel_rfl) z4oa v w;have Jf:=fun(v:Value) (w:World)=>Ek (P:=Tryz.prog) (xT:=150) Tryz.underlying307 v w;exact z4fa
def A4y(K:CC)(l:A5)(c:BT A5)(hk:l.kd=12)(ih:Dp (Gw K) c)(hwf:Wf 0 c):Gw K l c:=by
 intro D w outer cur bk wh inn f rc v ks hst hn hr;obtain⟨hlo,lcb,hncb⟩:=hst.lo;unfold Bx at hn;rw[Ai]at hn;obtain⟨b,cs,rfl,hD,hb,hl⟩:=hn;have e1:Cw l.kd=310:=by rw[hk];rfl
 have e2:E4 l.kd=312:=by rw[hk];rfl
 rw[e1];rw[e2]at hb;rw[Kb K.fns l c z4ma z4ma z4ma];unfold Di at hl;simp only[hk]at hl;obtain⟨a1,a2,rfl,rfl⟩:=hl;obtain⟨x1,y1,l1,c1,r1,Du,rfl,Cc,Cd,hz⟩:=hr.cons';obtain⟨x2,y2,l2,c2,r2,I7,rfl,Eu,C7,Dg⟩:=hz.cons';obtain rfl:=Dg.nil';have hc0:=Mz K.fns _ hwf.Uc outer cur wh inn f;rw[Mx z4ma,sens_xy',hc0,Lr];have HC:=ih.1 D w outer cur bk wh inn f rc a1 Du hst Cc Cd;have Fx:=fun W g (hs:K.St D W (outer++cur) bk wh inn g rc) (hbd:A3 D w W)=>ih.2.1 D W outer cur bk wh inn g rc a2 I7 hs (Eu.Bv hbd) (C7.Bv hbd);have d0:=A4 hb 1 a1 rfl;have ld:=A6 hb;have Dy:=fun(v:Value) (w:World)=>Bl (P:=Tryz.prog) (t:=310) (T:=238) (xT:=150) (z:=.pointer none) Tryz.underlying238 (by kernel_rfl) z4oa v w;have Ee:=fun(v:Value) (w:World)=>Bl (P:=Tryz.prog) (t:=310) (T:=301) (xT:=150) (z:=.pointer none) Tryz.underlying301 (by kernel_rfl) z4oa v w;have Fa:=fun(v:Value) (w:World)=>Bl (P:=Tryz.prog) (t:=310) (T:=241) (xT:=150) (z:=.pointer none) Tryz.underlying241 (by kernel_rfl) z4oa v w;have Ga:=fun(v:Value) (w:World)=>Bl (P:=Tryz.prog) (t:=310) (T:=296) (xT:=150) (z:=.pointer none) Tryz.underlying296 (by kernel_rfl) z4oa v w;have Hj:=fun(v:Value) (w:World)=>Bl (P:=Tryz.prog) (t:=310) (T:=304) (xT:=150) (z:=.pointer none) Tryz.underlying304 (by kernel_rfl) z4oa v w;have Jf:=fun(v:Value) (w:World)=>Bl (P:=Tryz.prog) (t:=310) (T:=307) (xT:=150) (z:=.pointer none) Tryz.underlying307 (by kernel_rfl) z4oa v w;have Kr:=fun(v:Value) (w:World)=>Ek (P:=Tryz.prog) (xT:=150) Tryz.underlying310 v w;exact z4fa
def Qn{w:World}{base:Nat}{e:TypeId}{size:Nat}{v:Value}{n:Nat}{xs:List Value}(h:w.ownsRow base e size v n xs):∃a n c,v=.slice a n c:=by
 rcases h.2 with⟨rfl,_⟩|⟨g,cap,cur,rfl,_⟩
 ·exact⟨_,_,_,rfl⟩
 ·exact⟨_,_,_,rfl⟩
def Aga(K:CC)(l:A5)(c:BT A5)(hk:l.kd=9)(ih:Dp (Gw K) c)(hwf:Wf 0 c)(hsz:Aj c<=500000):Gw K l c:=by
 intro D w outer cur bk wh inn f rc v ks hst hn hr;obtain⟨hlo,lcb,hncb⟩:=hst.lo;unfold Bx at hn;rw[Ai]at hn;obtain⟨b,cs,rfl,hD,hb,hl⟩:=hn;have e1:Cw l.kd=296:=by rw[hk];rfl
 have e2:E4 l.kd=300:=by rw[hk];rfl
 rw[e1];rw[e2]at hb;rw[Kb K.fns l c z4ma z4ma z4ma];unfold Di at hl;simp only[hk]at hl;obtain⟨sl,rfl,ho⟩:=hl;rw[Mx z4ma];obtain⟨va,vn,vc,rfl⟩:∃va vn vc,sl=.slice va vn vc:=Qn ho.1;have HC:=A50 K c ih hwf D w outer cur bk wh inn f rc va vn vc ks hst ho hr (by rw[hr.len];exact hsz);have d0:=A4 hb 1 _ rfl;have ld:=A6 hb;have Dy:=fun(v:Value) (w:World)=>Bl (P:=Tryz.prog) (t:=296) (T:=238) (xT:=150) (z:=.pointer none) Tryz.underlying238 (by kernel_rfl) z4oa v w;have Ee:=fun(v:Value) (w:World)=>Bl (P:=Tryz.prog) (t:=296) (T:=301) (xT:=150) (z:=.pointer none) Tryz.underlying301 (by kernel_rfl) z4oa v w;have Fa:=fun(v:Value) (w:World)=>Bl (P:=Tryz.prog) (t:=296) (T:=241) (xT:=150) (z:=.pointer none) Tryz.underlying241 (by kernel_rfl) z4oa v w;have Ga:=fun(v:Value) (w:World)=>Ek (P:=Tryz.prog) (xT:=150) Tryz.underlying296 v w;exact z17a
def Ag6(K:CC)(l:A5)(c:BT A5)(hk:l.kd=7)(ih:Dp (Gw K) c)(hwf:Wf 0 c)(hsz:Aj c<=500000):Gw K l c:=by
 intro D w outer cur bk wh inn f rc v ks hst hn hr;obtain⟨hlo,lcb,hncb⟩:=hst.lo;unfold Bx at hn;rw[Ai]at hn;obtain⟨b,cs,rfl,hD,hb,hl⟩:=hn;have e1:Cw l.kd=301:=by rw[hk];rfl
 have e2:E4 l.kd=303:=by rw[hk];rfl
 rw[e1];rw[e2]at hb;rw[Kb K.fns l c z4ma z4ma z4ma];unfold Di at hl;simp only[hk]at hl;obtain⟨sl,rfl,ho⟩:=hl;have hp:Mw K.fns l (Aj c) outer cur wh inn f=F0 (Qd K.fns l.s (Aj c)) 3 l.line f:=by unfold Mw;rw[Ai,A7 hk]
 rw[hp];obtain⟨va,vn,vc,rfl⟩:∃va vn vc,sl=.slice va vn vc:=Qn ho.1;have HC:=Afz K c ih hwf l.line l.s D w outer cur bk wh inn f rc b va vn vc ks hst hD hb ho hr (by rw[hr.len];exact hsz);have ld:=A6 hb;have Dy:=fun(v:Value) (w:World)=>Bl (P:=Tryz.prog) (t:=301) (T:=238) (xT:=150) (z:=.pointer none) Tryz.underlying238 (by kernel_rfl) z4oa v w;have Ee:=fun(v:Value) (w:World)=>Ek (P:=Tryz.prog) (xT:=150) Tryz.underlying301 v w;exact z17a
def bin_lay'{D:Nat->Prop}{w:World}{l:A5}{cs:Array Value}{ks:List Value}(hk:127<=l.kd/\l.kd<=140)(h:Di D w l cs ks):∃a b,cs=#[Hw l.line,.n ((l.kd-100:Nat)),a,b]/\ks=[a,b]:=by
 have h14:l.kd=127\/l.kd=128\/l.kd=129\/l.kd=130\/l.kd=131\/l.kd=132\/l.kd=133\/l.kd=134\/l.kd=135\/l.kd=136\/l.kd=137\/l.kd=138\/l.kd=139\/l.kd=140:=by omega
 unfold Di at h;rcases h14 with e|e|e|e|e|e|e|e|e|e|e|e|e|e <;> (simp only[e]at h ⊢;exact h)
def bin_ty'{kd:Nat}(hk:127<=kd/\kd<=140):Cw kd=248/\E4 kd=295:=by
 have h14:kd=127\/kd=128\/kd=129\/kd=130\/kd=131\/kd=132\/kd=133\/kd=134\/kd=135\/kd=136\/kd=137\/kd=138\/kd=139\/kd=140:=by omega
 rcases h14 with e|e|e|e|e|e|e|e|e|e|e|e|e|e <;> (subst e;exact⟨rfl,rfl⟩)
def Ag5(K:CC)(l:A5)(c:BT A5)(hk:127<=l.kd/\l.kd<=140)(ih:Dp (Gw K) c)(hwf:Wf 0 c):Gw K l c:=by
 intro D w outer cur bk wh inn f rc v ks hst hn hr;obtain⟨hlo,lcb,hncb⟩:=hst.lo;unfold Bx at hn;rw[Ai]at hn;obtain⟨b,cs,rfl,hD,hb,hl⟩:=hn;obtain⟨e1,e2⟩:=bin_ty' hk;rw[e1];rw[e2]at hb;rw[Kb K.fns l c z4ma z4ma z4ma];replace hl:=bin_lay' hk hl;obtain⟨a1,a2,rfl,rfl⟩:=hl;obtain⟨x1,y1,l1,c1,r1,Du,rfl,Cc,Cd,hz⟩:=hr.cons';obtain⟨x2,y2,l2,c2,r2,I7,rfl,Eu,C7,Dg⟩:=hz.cons';obtain rfl:=Dg.nil';have hc0:=Mz K.fns _ hwf.Uc outer cur wh inn f;rw[Mx z4ma,sens_xy',hc0,Lr];have HC:=ih.1 D w outer cur bk wh inn f rc a1 Du hst Cc Cd;have Fx:=fun W g (hs:K.St D W (outer++cur) bk wh inn g rc) (hbd:A3 D w W)=>ih.2.1 D W outer cur bk wh inn g rc a2 I7 hs (Eu.Bv hbd) (C7.Bv hbd);have d0:=A4 hb 2 a1 rfl;have ld:=A6 hb;have Dy:=fun(v:Value) (w:World)=>Bl (P:=Tryz.prog) (t:=248) (T:=238) (xT:=150) (z:=.pointer none) Tryz.underlying238 (by kernel_rfl) z4oa v w;have Ee:=fun(v:Value) (w:World)=>Bl (P:=Tryz.prog) (t:=248) (T:=301) (xT:=150) (z:=.pointer none) Tryz.underlying301 (by kernel_rfl) z4oa v w;have Fa:=fun(v:Value) (w:World)=>Bl (P:=Tryz.prog) (t:=248) (T:=241) (xT:=150) (z:=.pointer none) Tryz.underlying241 (by kernel_rfl) z4oa v w;have Ga:=fun(v:Value) (w:World)=>Bl (P:=Tryz.prog) (t:=248) (T:=296) (xT:=150) (z:=.pointer none) Tryz.underlying296 (by kernel_rfl) z4oa v w;have Hj:=fun(v:Value) (w:World)=>Bl (P:=Tryz.prog) (t:=248) (T:=304) (xT:=150) (z:=.pointer none) Tryz.underlying304 (by kernel_rfl) z4oa v w;have Jf:=fun(v:Value) (w:World)=>Bl (P:=Tryz.prog) (t:=248) (T:=307) (xT:=150) (z:=.pointer none) Tryz.underlying307 (by kernel_rfl) z4oa v w;have Kr:=fun(v:Value) (w:World)=>Bl (P:=Tryz.prog) (t:=248) (T:=310) (xT:=150) (z:=.pointer none) Tryz.underlying310 (by kernel_rfl) z4oa v w;have ta7:=fun(v:Value) (w:World)=>Bl (P:=Tryz.prog) (t:=248) (T:=244) (xT:=150) (z:=.pointer none) Tryz.underlying244 (by kernel_rfl) z4oa v w;have ta8:=fun(v:Value) (w:World)=>Ek (P:=Tryz.prog) (xT:=150) Tryz.underlying248 v w;unfold Cs;go_in;go_wp2_with fail
 refine HC.mono ?_;rintro e w1 ⟨rfl,Ax,A2⟩;have C8:=(A2.block b hD).trans hb;have d1:=A4 C8 3 a2 rfl;exact z1ga
def Aj2{kd:Nat}(h:Ej kd=true):(kd=1\/kd=2\/kd=3\/kd=4\/kd=5)\/kd=6\/kd=7\/kd=8\/kd=9\/kd=10\/kd=11\/kd=12\/kd=13\/kd=14\/(127<=kd/\kd<=140):=by
 unfold Ej at h;simp only[Gz,F3,Jg]at h;omega
def Wf.exs{x y:Nat}{l:A5}{c r:BT A5}(h:Wf 0 (.node x y l c r)):Ej l.kd=true/\Wf 0 c/\Wf 0 r:=by
 rcases h.2 with⟨_,h1,h2⟩|⟨h1,_⟩|⟨h1,_⟩|⟨h1,_⟩|⟨h1,_⟩|⟨h1,_⟩|⟨h1,_⟩
 ·exact⟨h1,h2,h.1⟩
 all_goals omega
def A15(K:CC):∀f:BT A5,Wf 0 f->bsize f<=500000->Dp (Gw K) f:=by
 intro f;induction f with
 | nil=>intro _ _;trivial
 | node x y l c r D5 C6=>
  intro h hs;obtain⟨h1,h2,h3⟩:=h.exs;rw[bsize]at hs;have ih:=D5 h2 z4ma;have hl:=Qb c;refine⟨?_,C6 h3 z4ma⟩;rcases Aj2 h1 with e|e|e|e|e|e|e|e|e|e|e
  ·exact Ag8 K l c e
  ·exact A4z K l c e
  ·exact Ag6 K l c e ih h2 z4ma
  ·exact Ag7 K l c e ih
  ·exact Aga K l c e ih h2 z4ma
  ·exact Ag9 K l c e ih
  ·exact Agd K l c e ih h2
  ·exact A4y K l c e ih h2
  ·exact Agc K l c e ih
  ·exact Agb K l c e ih
  ·exact Ag5 K l c e ih h2
def Bx.isIface{D:Nat->Prop}{w:World}{l:A5}{v:Value}{ks:List Value}(h:Bx D w l v ks)(h1:l.kd≠31)(h2:l.kd≠32):∃t x,v=.iface t x:=by
 unfold Bx at h;rw[Ai]at h;obtain⟨b,cs,e,_⟩:=h;exact⟨_,_,e⟩
def Rc{kd:Nat}(h:Ej kd=true):kd≠31/\kd≠32/\kd≠21:=by
 unfold Ej at h;simp only[Gz,F3,Jg]at h;omega
def Me(K:CC)(l:A5)(c:BT A5):Prop:=∀(D:Nat->Prop) (w:World) (outer cur:List Nm) (bl:List Nat) (wh:Nat) (inn:Bool) (f:Da) (rc:Nat) (v:Value) (ks:List Value),
 K.St D w (outer++cur) (bl++[outer.length]) wh inn f rc->Bx D w l v ks->Ar D w c ks->(outer++cur).length+bsize (nd l c)<=700000->bl.length+bsize (nd l c)<=700000->wh+bsize (nd l c)<=700000->
 Calls Tryz.prog 192 #[.p K.cb,v] w fun e w'=>e=.returned (.tuple #[])/\K.St D w' (outer++(Bt K.fns (nd l c) outer cur wh inn f).1) (bl++[outer.length]) wh inn (Bt K.fns (nd l c) outer cur wh inn f).2 rc/\A3 D w w'
def A59(K:CC)(c:BT A5)(hok:Dp (Me K) c)(D:Nat->Prop)(w:World)(outer cur:List Nm)(bl:List Nat)(wh:Nat)(inn:Bool)(f:Da)(rc:Nat)(va:Option Addr)(vn vc:Nat)(ks:List Value)
  (hst:K.St D w (outer++cur) (bl++[outer.length]) wh inn f rc) (hown:Dj D w 142 1 (.slice va vn vc) ks.length ks) (hrep:Ar D w c ks) (A2:(outer++cur).length+bsize c<=700000) (Ad:bl.length+bsize c<=700000) (Ay:wh+bsize c<=700000) :
  Calls Tryz.prog 134 #[.p K.cb,.slice va vn vc] w fun e w'=>e=.returned (.tuple #[])/\K.St D w' (outer++(Bt K.fns c outer cur wh inn f).1) (bl++[outer.length]) wh inn (Bt K.fns c outer cur wh inn f).2 rc/\A3 D w w':=by
 have hvn:vn=ks.length:=(Cm hown.1).1;subst hvn;have HSt0:=A0 hst;have HOwn:=A0 hown;have HRep:=A0 hrep;have hlen:=hrep.len;have HLen:=A0 hlen;have hls:=Qb c;have hkl:ks.length<=700000:=by omega
 rw[Ds]at A2;clear hst hown hrep hlen;go_in;go_wp2;go_loopg [8] ks.length (fun k v wr=>∃(i:Nat) (cn:List Nm) (fl:Da),v=.i i/\i+k=ks.length/\cn.length+bsize (Cp i c)<=cur.length+bsize c/\K.St D wr (outer++cn) (bl++[outer.length]) wh inn fl rc/\Bt K.fns (Cp i c) outer cn wh inn fl=Bt K.fns c outer cur wh inn f/\A3 D w wr)
 case atStart=>exact⟨0,cur,f,rfl,by omega,by rw[show Cp 0 c=c from by cases c <;> rfl];exact Af _,HSt0.o,rfl,A3.refl _ _⟩
 case round=>
  clear HSt0;obtain⟨i,cn,fl,rfl,hik,hcn,hst,hse,hbel⟩:=hrel;have HSt:=A0 hst;have HSe:=A0 hse;have HBel:=A0 hbel;clear hst hse hbel;by_cases hlt:i<ks.length
  ·have hr:=HRep.o.Bv HBel.o;obtain⟨x,y,l,cc,r,hd,v,ks',hv,hn,hrk⟩:=Ar.at' i c ks hr z58a;obtain⟨g,rfl,_,hcap,lg,hcell⟩:=G1 (HOwn.o.Bv HBel.o).1 z4ma;have d0:=hcell i v hv;have hE:=A0 (hok.at' i c x y l cc r hd);have Ax:=sens_xy' K.fns x y l cc r outer cn wh inn fl;have hdn:=A03 i c;have hsz:bsize (Cp i c)=bsize (nd l cc)+bsize r:=by rw[hd,Cf,bsize]
   have hcl:=A8x K.fns (nd l cc) outer cn wh inn fl;have hds:=Ra i c x y l cc r hd;have HNx:Bt K.fns (Cp (i+1) c) outer (Bt K.fns (nd l cc) outer cn wh inn fl).1 wh inn (Bt K.fns (nd l cc) outer cn wh inn fl).2=Bt K.fns c outer cur wh inn f:=by
    show _=_;rw[hds,←HSe.o,hd,Ax]
   have HDs:=A0 hds;have HC:=hE.out D wr outer cn bl wh inn fl rc v ks' HSt.o hn hrk (by rw[Ds];omega) z4ma z4ma;clear hr hd hv hn hrk hcell Ax hds;go_wp2_with fail
   refine HC.mono ?_;rintro e w1 ⟨rfl,Ax,A2⟩;have B5:=A0 Ax;have A9:A3 D w w1:=HBel.o.trans A2;clear Ax A2;go_wp2;go_roundg (gk-1)
   case measure=>omega
   case rel=>exact⟨i+1,_,_,rfl,by omega,by rw[HDs.o];omega,B5.o,HNx,A9⟩
  ·have HE:Hid ((cn,fl)=Bt K.fns c outer cur wh inn f):=by
    exact z0pa
   exact z2ha
def Vj(K:CC)(c:BT A5)(hok:Dp (Me K) c)(D:Nat->Prop)(w:World)(ns:List Nm)(bk:List Nat)(wh:Nat)(inn:Bool)(f:Da)(rc:Nat)(va:Option Addr)(vn vc:Nat)(ks:List Value)
  (hst:K.St D w ns bk wh inn f rc) (hown:Dj D w 142 1 (.slice va vn vc) ks.length ks) (hrep:Ar D w c ks) (A2:ns.length+bsize c<=700000) (Ad:bk.length+bsize c<=700000) (Ay:wh+bsize c<=700000) :
  Calls Tryz.prog 80 #[.p K.cb,.slice va vn vc] w fun e w'=>e=.returned (.tuple #[])/\K.St D w' ns bk wh inn (Bt K.fns c ns [] wh inn f).2 rc/\A3 D w w':=by
 have HO:=Xv hst.st z4ma;have HRun:=fun(W:World) (hs:K.St D W (ns++[]) (bk++[ns.length]) wh inn f rc) (hbd:A3 D w W)=>A59 K c hok D W ns [] bk wh inn f rc va vn vc ks hs (hown.Bv hbd) (hrep.Bv hbd) (by simpa using A2) Ad Ay;go_in;go_wp2_with fail
 refine HO.mono ?_;rintro e w1 ⟨rfl,Ax,A2⟩;have B5:=hst.next Ax A2;go_wp2_with fail
 refine(HRun _ (by rw[Lx];exact B5) A2).mono ?_;rintro e w2 ⟨rfl,Bj,Ad⟩;have Ab:A3 D w w2:=A2.trans Ad;go_wp2_with fail
 refine(Xt Bj.st z4ra).mono ?_;rintro e w3 ⟨rfl,Dc,Ay⟩;rw[Tj]at Dc;have Bu:=Bj.next Dc Ay;have Ba:A3 D w w3:=Ab.trans Ay;go_wp2;go_end0;exact⟨rfl,Bu,Ba⟩
def Agm(K:CC)(l:A5)(c:BT A5)(ih:Dp (Gw K) c)(hwf:Wf 0 c)(D:Nat->Prop)(w:World)(outer cur:List Nm)(bk:List Nat)(wh:Nat)(inn:Bool)(f:Da)(rc:Nat)(b:Nat)(a:Value)(ks:List Value)
  (hst:K.St D w (outer++cur) bk wh inn f rc) (hD:D b) (hblk:w.heap[b]?=some (.cells #[.n l.line,a] 318 (0,0))) (hks:(ks=[]/\a=.nilIface)\/ks=[a]) (hrep:Ar D w c ks) :
  Calls Tryz.prog 239 #[.p K.cb,.p b] w fun e w'=>e=.returned (.tuple #[])/\K.St D w' (outer++cur) bk wh inn (Bt K.fns c outer cur wh inn (F0 (!inn) 4 l.line f)).2 rc/\A3 D w w':=by
 obtain⟨hlo,lcb,hncb⟩:=hst.lo;obtain⟨na,nn,nc,ba,bn,bc,la,ln,lc,ls,hv⟩:=hst.st;obtain⟨c0,c1,c2,c3,c4,c5,c6,c7,fz,lb⟩:=Qc hv.cell;have d0:=A4 hblk 0 _ rfl;have d1:=A4 hblk 1 _ rfl;have ld:=A6 hblk;rcases hks with⟨rfl,rfl⟩|rfl
 ·rw[hrep.nil',Bt];cases inn
  ·go_in;go_wp2_with fail
   refine(R9 hst.st 4 l.line).mono ?_;rintro e w3 ⟨rfl,Dc,Ay⟩;have Bu:=A0 (hst.next Dc Ay);have Ba:=A0 Ay;have Gc:=(Ay.block b hD).trans hblk;have d1:=A4 Gc 1 _ rfl;have ld:=A6 Gc;go_wp2;go_end0;exact⟨rfl,Bu.o,Ba.o⟩
  ·rw[show(!true)=false from rfl,Td];go_in;exact z47a
 ·obtain⟨x1,y1,l1,c1,r1,Du,rfl,Cc,Cd,hz⟩:=hrep.cons';obtain rfl:=hz.nil';rw[Lr];have hif:∃t x,a=.iface t x:=Cc.isIface (Rc hwf.exs.1).1 (Rc hwf.exs.1).2.1;obtain⟨t,x,rfl⟩:=hif;have HC:=fun W g (hs:K.St D W (outer++cur) bk wh inn g rc) (hbd:A3 D w W)=>ih.1 D W outer cur bk wh inn g rc (.iface t x) Du hs (Cc.Bv hbd) (Cd.Bv hbd);cases inn
  ·go_in;go_wp2_with fail
   refine(R9 hst.st 4 l.line).mono ?_;rintro e w3 ⟨rfl,Dc,Ay⟩;have Bu:=A0 (hst.next Dc Ay);have Ba:=A0 Ay;have Gc:=(Ay.block b hD).trans hblk;have d1:=A4 Gc 1 _ rfl;have ld:=A6 Gc;go_wp2_with fail
   refine(HC _ _ Bu.o Ba.o).mono ?_;rintro e w4 ⟨rfl,He,Bz⟩;have Ft:=A0 He;have D6:Hid (A3 D w w4):=Ba.o.trans Bz;go_wp2;go_end0;exact⟨rfl,Ft.o,D6.o⟩
  ·rw[show(!true)=false from rfl,Td];go_in;go_wp2_with fail
   refine(HC _ _ hst (A3.refl _ _)).mono ?_;rintro e w4 ⟨rfl,He,Bz⟩;have Ft:=A0 He;have D6:=A0 Bz;go_wp2;go_end0;exact⟨rfl,Ft.o,D6.o⟩
def z1ka {P:Prop} (h:P:=by
  unfold Cs;go_in;go_wp2_with fail
  refine(HC).mono ?_;rintro e w1 ⟨rfl,Ax,A2⟩;have A9:A3 D w w1:=A2;go_wp2;go_end0;exact⟨rfl,Ax,A9⟩):P:=h
def Ah4(K:CC)(l:A5)(c:BT A5)(hk:l.kd=27)(ih:Dp (Gw K) c)(hwf:Wf 0 c):Me K l c:=by
 intro D w outer cur bl wh inn f rc v ks hst hn hr Cu Dg hz3;obtain⟨hlo,lcb,hncb⟩:=hst.lo;unfold Bx at hn;rw[Ai]at hn;obtain⟨b,cs,rfl,hD,hb,hl⟩:=hn;have e1:Cw l.kd=265:=by rw[hk];rfl
 have e2:E4 l.kd=267:=by rw[hk];rfl
 rw[e1];rw[e2]at hb;unfold Di at hl;simp only[hk]at hl;obtain⟨a,rfl,rfl⟩:=hl;have hnd:=Kb K.fns l c z4ma z4ma z4ma outer cur wh inn f;rw[Mx z4ma]at hnd;rw[hnd,Mz K.fns c hwf];obtain⟨x1,y1,l1,c1,r1,Du,rfl,Cc,Cd,hz⟩:=hr.cons';obtain rfl:=hz.nil';rw[Lr];have HC:=ih.1 D w outer cur _ wh inn f rc a Du hst Cc Cd;have d0:=A4 hb 1 a rfl;have ld:=A6 hb;have Dy:=fun(v:Value) (w:World)=>Bl (P:=Tryz.prog) (t:=265) (T:=143) (xT:=142) (z:=.pointer none) Tryz.underlying143 (by kernel_rfl) z4oa v w;have Ee:=fun(v:Value) (w:World)=>Bl (P:=Tryz.prog) (t:=265) (T:=145) (xT:=142) (z:=.pointer none) Tryz.underlying145 (by kernel_rfl) z4oa v w;have Fa:=fun(v:Value) (w:World)=>Bl (P:=Tryz.prog) (t:=265) (T:=253) (xT:=142) (z:=.pointer none) Tryz.underlying253 (by kernel_rfl) z4oa v w;have Ga:=fun(v:Value) (w:World)=>Bl (P:=Tryz.prog) (t:=265) (T:=255) (xT:=142) (z:=.pointer none) Tryz.underlying255 (by kernel_rfl) z4oa v w;have Hj:=fun(v:Value) (w:World)=>Bl (P:=Tryz.prog) (t:=265) (T:=257) (xT:=142) (z:=.pointer none) Tryz.underlying257 (by kernel_rfl) z4oa v w;have Jf:=fun(v:Value) (w:World)=>Bl (P:=Tryz.prog) (t:=265) (T:=259) (xT:=142) (z:=.pointer none) Tryz.underlying259 (by kernel_rfl) z4oa v w;have Kr:=fun(v:Value) (w:World)=>Bl (P:=Tryz.prog) (t:=265) (T:=264) (xT:=142) (z:=.pointer none) Tryz.underlying264 (by kernel_rfl) z4oa v w;have ta7:=fun(v:Value) (w:World)=>Ek (P:=Tryz.prog) (xT:=142) Tryz.underlying265 v w;exact z1ka
def Ah0(K:CC)(l:A5)(c:BT A5)(hk:l.kd=30)(ih:Dp (Gw K) c)(hwf:Wf 0 c):Me K l c:=by
 intro D w outer cur bl wh inn f rc v ks hst hn hr Cu Dg hz3;obtain⟨hlo,lcb,hncb⟩:=hst.lo;unfold Bx at hn;rw[Ai]at hn;obtain⟨b,cs,rfl,hD,hb,hl⟩:=hn;have e1:Cw l.kd=270:=by rw[hk];rfl
 have e2:E4 l.kd=272:=by rw[hk];rfl
 rw[e1];rw[e2]at hb;unfold Di at hl;simp only[hk]at hl;obtain⟨a,rfl,rfl⟩:=hl;have hnd:=Kb K.fns l c z4ma z4ma z4ma outer cur wh inn f;rw[Mx z4ma]at hnd;rw[hnd,Mz K.fns c hwf];obtain⟨x1,y1,l1,c1,r1,Du,rfl,Cc,Cd,hz⟩:=hr.cons';obtain rfl:=hz.nil';rw[Lr];have HC:=ih.1 D w outer cur _ wh inn f rc a Du hst Cc Cd;have d0:=A4 hb 0 a rfl;have ld:=A6 hb;have Dy:=fun(v:Value) (w:World)=>Bl (P:=Tryz.prog) (t:=270) (T:=143) (xT:=142) (z:=.pointer none) Tryz.underlying143 (by kernel_rfl) z4oa v w;have Ee:=fun(v:Value) (w:World)=>Bl (P:=Tryz.prog) (t:=270) (T:=145) (xT:=142) (z:=.pointer none) Tryz.underlying145 (by kernel_rfl) z4oa v w;have Fa:=fun(v:Value) (w:World)=>Bl (P:=Tryz.prog) (t:=270) (T:=253) (xT:=142) (z:=.pointer none) Tryz.underlying253 (by kernel_rfl) z4oa v w;have Ga:=fun(v:Value) (w:World)=>Bl (P:=Tryz.prog) (t:=270) (T:=255) (xT:=142) (z:=.pointer none) Tryz.underlying255 (by kernel_rfl) z4oa v w;have Hj:=fun(v:Value) (w:World)=>Bl (P:=Tryz.prog) (t:=270) (T:=257) (xT:=142) (z:=.pointer none) Tryz.underlying257 (by kernel_rfl) z4oa v w;have Jf:=fun(v:Value) (w:World)=>Bl (P:=Tryz.prog) (t:=270) (T:=259) (xT:=142) (z:=.pointer none) Tryz.underlying259 (by kernel_rfl) z4oa v w;have Kr:=fun(v:Value) (w:World)=>Bl (P:=Tryz.prog) (t:=270) (T:=264) (xT:=142) (z:=.pointer none) Tryz.underlying264 (by kernel_rfl) z4oa v w;have ta7:=fun(v:Value) (w:World)=>Bl (P:=Tryz.prog) (t:=270) (T:=265) (xT:=142) (z:=.pointer none) Tryz.underlying265 (by kernel_rfl) z4oa v w;have ta8:=fun(v:Value) (w:World)=>Bl (P:=Tryz.prog) (t:=270) (T:=268) (xT:=142) (z:=.pointer none) Tryz.underlying268 (by kernel_rfl) z4oa v w;have ta9:=fun(v:Value) (w:World)=>Ek (P:=Tryz.prog) (xT:=142) Tryz.underlying270 v w;exact z1ka
def z2ka {P:Prop} (h:P:=by
  unfold Cs;go_in;go_wp2_with fail
  refine HC.mono ?_;rintro e w1 ⟨rfl,Ax,A2⟩;have B5:=hst.next Ax A2;go_wp2;go_end0;exact⟨rfl,B5,A2⟩):P:=h
def Agy(K:CC)(l:A5)(c:BT A5)(hk:l.kd=25):Me K l c:=by
 intro D w outer cur bl wh inn f rc v ks hst hn hr Cu Dg hz3;obtain⟨hlo,lcb,hncb⟩:=hst.lo;unfold Bx at hn;rw[Ai]at hn;obtain⟨b,cs,rfl,hD,hb,hl⟩:=hn;have e1:Cw l.kd=259:=by rw[hk];rfl
 have e2:E4 l.kd=367:=by rw[hk];rfl
 rw[e1];rw[e2]at hb;unfold Di at hl;simp only[hk]at hl;obtain⟨rfl,rfl⟩:=hl;have hnd:=Kb K.fns l c z4ma z4ma z4ma outer cur wh inn f;have hp:Mw K.fns l (Aj c) outer cur wh inn f=F0 (wh==0) 4 l.line f:=by unfold Mw;rw[Ai,Ai,Mn]
 rw[hp]at hnd;rw[hnd,hr.nil',Bt];have HC:=A52 hst.st l.line;have d0:w.cell? ⟨b,0,none⟩=some (.n l.line):=A4 hb 0 _ rfl;have ld:=A6 hb;have Dy:=fun(v:Value) (w:World)=>Bl (P:=Tryz.prog) (t:=259) (T:=143) (xT:=142) (z:=.pointer none) Tryz.underlying143 (by kernel_rfl) z4oa v w;have Ee:=fun(v:Value) (w:World)=>Bl (P:=Tryz.prog) (t:=259) (T:=145) (xT:=142) (z:=.pointer none) Tryz.underlying145 (by kernel_rfl) z4oa v w;have Fa:=fun(v:Value) (w:World)=>Bl (P:=Tryz.prog) (t:=259) (T:=253) (xT:=142) (z:=.pointer none) Tryz.underlying253 (by kernel_rfl) z4oa v w;have Ga:=fun(v:Value) (w:World)=>Bl (P:=Tryz.prog) (t:=259) (T:=255) (xT:=142) (z:=.pointer none) Tryz.underlying255 (by kernel_rfl) z4oa v w;have Hj:=fun(v:Value) (w:World)=>Bl (P:=Tryz.prog) (t:=259) (T:=257) (xT:=142) (z:=.pointer none) Tryz.underlying257 (by kernel_rfl) z4oa v w;have Jf:=fun(v:Value) (w:World)=>Ek (P:=Tryz.prog) (xT:=142) Tryz.underlying259 v w;exact z2ka
def Agz(K:CC)(l:A5)(c:BT A5)(hk:l.kd=26):Me K l c:=by
 intro D w outer cur bl wh inn f rc v ks hst hn hr Cu Dg hz3;obtain⟨hlo,lcb,hncb⟩:=hst.lo;unfold Bx at hn;rw[Ai]at hn;obtain⟨b,cs,rfl,hD,hb,hl⟩:=hn;have e1:Cw l.kd=264:=by rw[hk];rfl
 have e2:E4 l.kd=368:=by rw[hk];rfl
 rw[e1];rw[e2]at hb;unfold Di at hl;simp only[hk]at hl;obtain⟨rfl,rfl⟩:=hl;have hnd:=Kb K.fns l c z4ma z4ma z4ma outer cur wh inn f;have hp:Mw K.fns l (Aj c) outer cur wh inn f=F0 (wh==0) 4 l.line f:=by unfold Mw;rw[Ai,Ai,Mn]
 rw[hp]at hnd;rw[hnd,hr.nil',Bt];have HC:=A52 hst.st l.line;have d0:w.cell? ⟨b,0,none⟩=some (.n l.line):=A4 hb 0 _ rfl;have ld:=A6 hb;have Dy:=fun(v:Value) (w:World)=>Bl (P:=Tryz.prog) (t:=264) (T:=143) (xT:=142) (z:=.pointer none) Tryz.underlying143 (by kernel_rfl) z4oa v w;have Ee:=fun(v:Value) (w:World)=>Bl (P:=Tryz.prog) (t:=264) (T:=145) (xT:=142) (z:=.pointer none) Tryz.underlying145 (by kernel_rfl) z4oa v w;have Fa:=fun(v:Value) (w:World)=>Bl (P:=Tryz.prog) (t:=264) (T:=253) (xT:=142) (z:=.pointer none) Tryz.underlying253 (by kernel_rfl) z4oa v w;have Ga:=fun(v:Value) (w:World)=>Bl (P:=Tryz.prog) (t:=264) (T:=255) (xT:=142) (z:=.pointer none) Tryz.underlying255 (by kernel_rfl) z4oa v w;have Hj:=fun(v:Value) (w:World)=>Bl (P:=Tryz.prog) (t:=264) (T:=257) (xT:=142) (z:=.pointer none) Tryz.underlying257 (by kernel_rfl) z4oa v w;have Jf:=fun(v:Value) (w:World)=>Bl (P:=Tryz.prog) (t:=264) (T:=259) (xT:=142) (z:=.pointer none) Tryz.underlying259 (by kernel_rfl) z4oa v w;have Kr:=fun(v:Value) (w:World)=>Ek (P:=Tryz.prog) (xT:=142) Tryz.underlying264 v w;exact z2ka
def Ah6(K:CC)(l:A5)(c:BT A5)(hk:l.kd=24)(ih:Dp (Gw K) c)(hwf:Wf 0 c):Me K l c:=by
 intro D w outer cur bl wh inn f rc v ks hst hn hr Cu Dg hz3;obtain⟨hlo,lcb,hncb⟩:=hst.lo;unfold Bx at hn;rw[Ai]at hn;obtain⟨b,cs,rfl,hD,hb,hl⟩:=hn;have e1:Cw l.kd=257:=by rw[hk];rfl
 have e2:E4 l.kd=318:=by rw[hk];rfl
 rw[e1];rw[e2]at hb;unfold Di at hl;simp only[hk]at hl;obtain⟨a,rfl,hks⟩:=hl;have hnd:=Kb K.fns l c z4ma z4ma z4ma outer cur wh inn f;have hp:Mw K.fns l (Aj c) outer cur wh inn f=F0 (!inn) 4 l.line f:=by unfold Mw;rw[Ai,Ai,Ai,Mn]
 rw[hp]at hnd;rw[hnd,Mz K.fns c hwf];have HC:=Agm K l c ih hwf D w outer cur _ wh inn f rc b a ks hst hD hb hks hr;have ld:=A6 hb;have Dy:=fun(v:Value) (w:World)=>Bl (P:=Tryz.prog) (t:=257) (T:=143) (xT:=142) (z:=.pointer none) Tryz.underlying143 (by kernel_rfl) z4oa v w;have Ee:=fun(v:Value) (w:World)=>Bl (P:=Tryz.prog) (t:=257) (T:=145) (xT:=142) (z:=.pointer none) Tryz.underlying145 (by kernel_rfl) z4oa v w;have Fa:=fun(v:Value) (w:World)=>Bl (P:=Tryz.prog) (t:=257) (T:=253) (xT:=142) (z:=.pointer none) Tryz.underlying253 (by kernel_rfl) z4oa v w;have Ga:=fun(v:Value) (w:World)=>Bl (P:=Tryz.prog) (t:=257) (T:=255) (xT:=142) (z:=.pointer none) Tryz.underlying255 (by kernel_rfl) z4oa v w;have Hj:=fun(v:Value) (w:World)=>Ek (P:=Tryz.prog) (xT:=142) Tryz.underlying257 v w;exact z1ka
def Ah3(K:CC)(l:A5)(c:BT A5)(hk:l.kd=21)(ih:Dp (Gw K) c)(hwf:Wf 0 c):Me K l c:=by
 intro D w outer cur bl wh inn f rc v ks hst hn hr Cu Dg hz3;obtain⟨hlo,lcb,hncb⟩:=hst.lo;unfold Bx at hn;rw[Ai]at hn;obtain⟨b,cs,rfl,hD,hb,hl⟩:=hn;have e1:Cw l.kd=145:=by rw[hk];rfl
 have e2:E4 l.kd=152:=by rw[hk];rfl
 rw[e1];rw[e2]at hb;unfold Di at hl;simp only[hk]at hl;obtain⟨a,rfl,rfl⟩:=hl;have hnd:Bt K.fns (nd l c) outer cur wh inn f=((Bt K.fns c outer cur wh inn (F0 (decide (l.s∈cur)) 3 l.line f)).1++[l.s],(Bt K.fns c outer cur wh inn (F0 (decide (l.s∈cur)) 3 l.line f)).2):=by
  rw[nd,Bt,Ai,Ai,A7 hk,Bt]
 rw[hnd,Mz K.fns c hwf];obtain⟨x1,y1,l1,c1,r1,Du,rfl,Cc,Cd,hz⟩:=hr.cons';obtain rfl:=hz.nil';rw[Lr];have HF:=z8 hst.st l.line l.s;have HC:=fun W g (hs:K.St D W (outer++cur) (bl++[outer.length]) wh inn g rc) (hbd:A3 D w W)=>ih.1 D W outer cur _ wh inn g rc a Du hs (Cc.Bv hbd) (Cd.Bv hbd);have d0:w.cell? ⟨b,0,none⟩=some (.n l.line):=A4 hb 0 _ rfl;have d1:w.cell? ⟨b,1,none⟩=some (.s l.s):=A4 hb 1 _ rfl;have d2:=A4 hb 2 a rfl;have ld:=A6 hb;have hnl:(outer++cur).length+1<=700000:=by have:=Cf l (.node x1 y1 l1 c1 .nil);omega
 have Dy:=fun(v:Value) (w:World)=>Bl (P:=Tryz.prog) (t:=145) (T:=143) (xT:=142) (z:=.pointer none) Tryz.underlying143 (by kernel_rfl) z4oa v w;have Ee:=fun(v:Value) (w:World)=>Ek (P:=Tryz.prog) (xT:=142) Tryz.underlying145 v w;unfold Cs;go_in;go_wp2_with fail
 refine HF.mono ?_;rintro e w1 ⟨rfl,Ax,A2⟩;have B5:=hst.next Ax A2;have C8:=(A2.block b hD).trans hb;have d2:=A4 C8 2 a rfl;have ld:=A6 C8;go_wp2_with fail
 refine(HC _ _ B5 A2).mono ?_;rintro e w2 ⟨rfl,Bj,Ad⟩;have Ab:A3 D w w2:=A2.trans Ad;have Ep:=(Ab.block b hD).trans hb;have d1:w2.cell? ⟨b,1,none⟩=some (.s l.s):=A4 Ep 1 _ rfl;have ld:=A6 Ep;obtain⟨na,nn,nc,ba,bn,bc,la,ln,lc,ls,hv⟩:=Bj.st;have lcb2:=A6 hv.cell;have HV:=hv.keep (w':=w2.drew) (fun _ _=>rfl) (Af _);have HP:=Yw HV.Nx (by rw[Rm];omega) ⟨l.s.toArray⟩ z4ra;go_wp2;go_region_law (refine F9 rfl 137 _ _ rfl #[.pointer (some ⟨K.cb,2,none⟩),.s l.s] (by kernel_rfl) HP ?_;rintro e w3 ⟨rfl,hp3⟩;refine⟨_,rfl,?_⟩)
 all_goals go_wp2
 all_goals go_end0
 all_goals obtain⟨k1,k2⟩:=HV.A1z l.s z4ma hp3
 all_goals rw[Gv]at k1
 all_goals have k3:A3 D w2 w3:=⟨k2.os,k2.tape,k2.output,k2.size,k2.block⟩
 all_goals exact⟨rfl,Bj.next k1 k3,Ab.trans k3⟩
def z0aa {P:Prop} (h:P:=by
  have d0:=A4 hb 0 _ rfl;have ld:=A6 hb;have Dy:=fun(v:Value) (w:World)=>Bl (P:=Tryz.prog) (t:=268) (T:=143) (xT:=142) (z:=.pointer none) Tryz.underlying143 (by kernel_rfl) z4oa v w;have Ee:=fun(v:Value) (w:World)=>Bl (P:=Tryz.prog) (t:=268) (T:=145) (xT:=142) (z:=.pointer none) Tryz.underlying145 (by kernel_rfl) z4oa v w;have Fa:=fun(v:Value) (w:World)=>Bl (P:=Tryz.prog) (t:=268) (T:=253) (xT:=142) (z:=.pointer none) Tryz.underlying253 (by kernel_rfl) z4oa v w;have Ga:=fun(v:Value) (w:World)=>Bl (P:=Tryz.prog) (t:=268) (T:=255) (xT:=142) (z:=.pointer none) Tryz.underlying255 (by kernel_rfl) z4oa v w;have Hj:=fun(v:Value) (w:World)=>Bl (P:=Tryz.prog) (t:=268) (T:=257) (xT:=142) (z:=.pointer none) Tryz.underlying257 (by kernel_rfl) z4oa v w;have Jf:=fun(v:Value) (w:World)=>Bl (P:=Tryz.prog) (t:=268) (T:=259) (xT:=142) (z:=.pointer none) Tryz.underlying259 (by kernel_rfl) z4oa v w;have Kr:=fun(v:Value) (w:World)=>Bl (P:=Tryz.prog) (t:=268) (T:=264) (xT:=142) (z:=.pointer none) Tryz.underlying264 (by kernel_rfl) z4oa v w;have ta7:=fun(v:Value) (w:World)=>Bl (P:=Tryz.prog) (t:=268) (T:=265) (xT:=142) (z:=.pointer none) Tryz.underlying265 (by kernel_rfl) z4oa v w;have ta8:=fun(v:Value) (w:World)=>Ek (P:=Tryz.prog) (xT:=142) Tryz.underlying268 v w;unfold Cs;go_in;go_wp2_with fail
  refine(HC).mono ?_;rintro e w1 ⟨rfl,Ax,A2⟩;have A9:A3 D w w1:=A2;have C8:=(A9.block b hD).trans hb;have d1:=A4 C8 1 _ rfl;have ld:=A6 C8;go_wp2_with fail
  refine(Fx _ _ Ax A9).mono ?_;rintro e w2 ⟨rfl,Bj,Ad⟩;have Ab:A3 D w w2:=A9.trans Ad;go_wp2;go_end0;exact⟨rfl,Bj,Ab⟩):P:=h
def Ah7(K:CC)(l:A5)(c:BT A5)(hk:l.kd=28)(ih:Dp (Gw K) c)(hwf:Wf 0 c):Me K l c:=by
 intro D w outer cur bl wh inn f rc v ks hst hn hr Cu Dg hz3;obtain⟨hlo,lcb,hncb⟩:=hst.lo;unfold Bx at hn;rw[Ai]at hn;obtain⟨b,cs,rfl,hD,hb,hl⟩:=hn;have e1:Cw l.kd=268:=by rw[hk];rfl
 have e2:E4 l.kd=322:=by rw[hk];rfl
 rw[e1];rw[e2]at hb;unfold Di at hl;simp only[hk]at hl;obtain⟨b2,a,rfl,Ky,Ad,rfl⟩:=hl;have hnd:=Kb K.fns l c z4ma z4ma z4ma outer cur wh inn f;have hp:Mw K.fns l (Aj c) outer cur wh inn f=(Bt K.fns (nd ⟨6,l.line,l.s,0,[]⟩ .nil) outer cur wh inn f).2:=by
  rw[Kb K.fns _ _ z4ra z4ra z4ra,Bt];unfold Mw;rw[Mn,A7 z4ra]
 rw[hp]at hnd;rw[hnd,Mz K.fns c hwf];obtain⟨x1,y1,l1,c1,r1,Du,rfl,Cc,Cd,hz⟩:=hr.cons';obtain rfl:=hz.nil';rw[Lr];have hv6:Bx D w ⟨6,l.line,l.s,0,[]⟩ (.iface 238 (Cs b2)) []:=Bx.new (l:=⟨6,l.line,l.s,0,[]⟩) z4ra Ky Ad ⟨rfl,rfl⟩;have HC:=A4z K ⟨6,l.line,l.s,0,[]⟩ .nil rfl D w outer cur _ wh inn f rc _ [] hst hv6 rfl;have Fx:=fun W g (hs:K.St D W (outer++cur) (bl++[outer.length]) wh inn g rc) (hbd:A3 D w W)=>ih.1 D W outer cur _ wh inn g rc a Du hs (Cc.Bv hbd) (Cd.Bv hbd);exact z0aa
def Ah5(K:CC)(l:A5)(c:BT A5)(hk:l.kd=29)(ih:Dp (Gw K) c)(hwf:Wf 0 c):Me K l c:=by
 intro D w outer cur bl wh inn f rc v ks hst hn hr Cu Dg hz3;obtain⟨hlo,lcb,hncb⟩:=hst.lo;unfold Bx at hn;rw[Ai]at hn;obtain⟨b,cs,rfl,hD,hb,hl⟩:=hn;have e1:Cw l.kd=268:=by rw[hk];rfl
 have e2:E4 l.kd=322:=by rw[hk];rfl
 rw[e1];rw[e2]at hb;unfold Di at hl;simp only[hk]at hl;obtain⟨b2,o,p,a,rfl,Ky,Ad,rfl⟩:=hl;have hnd:=Kb K.fns l c z4ma z4ma z4ma outer cur wh inn f;rw[Mx z4ma]at hnd;rw[hnd,Mz K.fns c hwf];obtain⟨x1,y1,l1,c1,r1,Du,rfl,Cc,Cd,hz⟩:=hr.cons';obtain⟨x2,y2,l2,c2,r2,I7,rfl,Eu,C7,hzz⟩:=hz.cons';obtain⟨x3,y3,l3,c3,r3,ks3,rfl,hn3,Gg,hzzz⟩:=hzz.cons';obtain rfl:=hzzz.nil';have hw12:Wf 0 (.node x1 y1 l1 c1 (.node x2 y2 l2 c2 .nil)):=⟨⟨trivial,hwf.1.2⟩,hwf.2⟩;have h12:Bt K.fns (.node x1 y1 l1 c1 (.node x2 y2 l2 c2 (.node x3 y3 l3 c3 .nil))) outer cur wh inn f=Bt K.fns (nd l3 c3) outer cur wh inn (Bt K.fns (nd (B4 12 l.line) (.node x1 y1 l1 c1 (.node x2 y2 l2 c2 .nil))) outer cur wh inn f).2:=by
  rw[Kb K.fns (B4 12 l.line) _ z52a z52a z52a,Mx z52a];rw[sens_xy' K.fns x1,sens_xy' K.fns x2,Lr];rw[sens_xy' K.fns x1 y1 l1 c1 (.node x2 y2 l2 c2 .nil),Lr];rw[Mz K.fns (nd l1 c1) hwf.Uc,Mz K.fns (nd l2 c2) hwf.1.Uc]
 rw[h12];have hv12:Bx D w (B4 12 l.line) (.iface 310 (Cs b2)) [o,p]:=Bx.new (l:=B4 12 l.line) z52a Ky Ad ⟨o,p,rfl,rfl⟩;have HC:=A4y K (B4 12 l.line) (.node x1 y1 l1 c1 (.node x2 y2 l2 c2 .nil)) rfl ⟨ih.1,ih.2.1,trivial⟩ hw12 D w outer cur _ wh inn f rc _ [o,p] hst hv12 ⟨o,Du,[p],rfl,Cc,Cd,⟨p,I7,[],rfl,Eu,C7,rfl⟩⟩;have Fx:=fun W g (hs:K.St D W (outer++cur) (bl++[outer.length]) wh inn g rc) (hbd:A3 D w W)=>ih.2.2.1 D W outer cur _ wh inn g rc a ks3 hs (hn3.Bv hbd) (Gg.Bv hbd);exact z0aa
def Part(K:CC)(l:A5)(c:BT A5):Prop:=(Ej l.kd=true->Gw K l c)/\((l.kd=31\/l.kd=32)->Dp (Me K) c)
def A28(fns:List (Nm×Nat)){l:A5}(c:BT A5)(h:l.kd=31)(outer cur:List Nm)(wh:Nat)(inn:Bool)(f:Da):Bt fns (nd l c) outer cur wh inn f=(cur,(Bt fns c (outer++cur) [] wh inn f).2):=by
 rw[nd,Bt,A7 h,Bt]
def Ara(fns:List (Nm×Nat)){l:A5}(c:BT A5)(h:l.kd=32)(outer cur:List Nm)(wh:Nat)(inn:Bool)(f:Da):Bt fns (nd l c) outer cur wh inn f=(cur,(Bt fns c (outer++cur) [] (wh+1) inn f).2):=by
 rw[nd,Bt,Ai,A7 h,Bt]
def Bx.Ua{D:Nat->Prop}{w:World}{l:A5}{t:TypeId}{x:Value}{ks:List Value}(h:Bx D w l (.iface t x) ks):l.kd≠31/\l.kd≠32:=by
 unfold Bx at h;split at h
 ·obtain⟨⟨_,_,_,e⟩,_⟩:=h;cases e
 ·omega
def Bx.Rg{D:Nat->Prop}{w:World}{l:A5}{a:Option Addr}{n m:Nat}{ks:List Value}(h:Bx D w l (.slice a n m) ks):(l.kd=31\/l.kd=32)/\Dj D w 142 1 (.slice a n m) ks.length ks:=by
 unfold Bx at h;split at h
 ·rename_i h1;exact⟨h1,h.2⟩
 ·obtain⟨b,cs,e,_⟩:=h;cases e
def Wf.Nv{x y:Nat}{l:A5}{c r:BT A5}(h:Wf 2 (.node x y l c r)):(l.kd≠31->Ej l.kd=true/\Wf 0 c)/\(l.kd=31\/l.kd=32->l.kd=31/\Wf 1 c):=by
 rcases h.2 with⟨_,h1,h2⟩|⟨_,h1,h2⟩|⟨h1,_⟩|⟨h1,_⟩|⟨h1,_⟩|⟨h1,_⟩|⟨h1,_⟩
 ·exact⟨fun _=>⟨h1,h2⟩,fun e=>by have:=Rc h1;omega⟩
 ·exact⟨fun e=>absurd h1 e,fun _=>⟨h1,h2⟩⟩
 all_goals omega
def Wf.T6{x y:Nat}{l:A5}{c r:BT A5}(h:Wf 3 (.node x y l c r)):(l.kd≠32->Ej l.kd=true/\Wf 0 c)/\(l.kd=31\/l.kd=32->l.kd=32/\Wf 1 c):=by
 rcases h.2 with⟨_,h1,h2⟩|⟨h1,_⟩|⟨_,h1,h2⟩|⟨h1,_⟩|⟨h1,_⟩|⟨h1,_⟩|⟨h1,_⟩
 ·exact⟨fun _=>⟨h1,h2⟩,fun e=>by have:=Rc h1;omega⟩
 ·omega
 ·exact⟨fun e=>absurd h1 e,fun _=>⟨h1,h2⟩⟩
 all_goals omega
def Wf.Vr{l:A5}{c:BT A5}(h:Ej l.kd=true)(hc:Wf 0 c):Wf 0 (nd l c):=Wf.ex h hc
def z5ma {P:Prop} (h:P:=by simp only[bsize];omega):P:=h
def Ah2(K:CC)(l:A5)(c:BT A5)(hk:l.kd=22)(ih:Dp (Part K) c)(hwf:Wf 2 c):Me K l c:=by
 intro D w outer cur bl wh inn f rc v ks hst hn hr Cu Dg hz3;obtain⟨hlo,lcb,hncb⟩:=hst.lo;unfold Bx at hn;rw[Ai]at hn;obtain⟨b,cs,rfl,hD,hb,hl⟩:=hn;have e1:Cw l.kd=253:=by rw[hk];rfl
 have e2:E4 l.kd=314:=by rw[hk];rfl
 rw[e1];rw[e2]at hb;unfold Di at hl;simp only[hk]at hl;obtain⟨t,x,s1,n1,m1,s2,n2,m2,rfl,hks⟩:=hl;have hnd:=Kb K.fns l c z4ma z4ma z4ma outer cur wh inn f;rw[Mx z4ma]at hnd;rw[hnd];have d0:=A4 hb 1 _ rfl;have ld:=A6 hb;rw[Cf]at Cu Dg hz3;have Dy:=fun(v:Value) (w:World)=>Bl (P:=Tryz.prog) (t:=253) (T:=143) (xT:=142) (z:=.pointer none) Tryz.underlying143 (by kernel_rfl) z4oa v w;have Ee:=fun(v:Value) (w:World)=>Bl (P:=Tryz.prog) (t:=253) (T:=145) (xT:=142) (z:=.pointer none) Tryz.underlying145 (by kernel_rfl) z4oa v w;have Fa:=fun(v:Value) (w:World)=>Ek (P:=Tryz.prog) (xT:=142) Tryz.underlying253 v w;rcases hks with⟨rfl,Bj⟩|rfl
 ·obtain⟨x1,y1,l1,c1,r1,Du,rfl,Cc,Cd,hz⟩:=hr.cons';obtain⟨x2,y2,l2,c2,r2,I7,rfl,Eu,C7,hzz⟩:=hz.cons';obtain rfl:=hzz.nil';injection Bj with q1 q2 q3;subst q1 q2 q3;obtain⟨Er,I5⟩:=hwf.Nv.1 Cc.Ua.1;obtain⟨D4,C4⟩:=Eu.Rg;obtain⟨h31,_⟩:=hwf.1.Nv.2 D4;simp only[bsize]at Cu Dg hz3;have hse:Bt K.fns (.node x1 y1 l1 c1 (.node x2 y2 l2 c2 .nil)) outer cur wh inn f=(cur,(Bt K.fns c2 (outer++cur) [] wh inn (Bt K.fns (nd l1 c1) outer cur wh inn f).2).2):=by
   rw[sens_xy' K.fns x1,Mz K.fns _ (Wf.Vr Er I5),Lr,A28 K.fns c2 h31]
  rw[hse];have HC:=A0 (ih.1.1 Er D w outer cur _ wh inn f rc _ Du hst Cc Cd);have Fx:=A0 (fun W g (hs:K.St D W (outer++cur) (bl++[outer.length]) wh inn g rc) (hbd:A3 D w W)=>Vj K c2 (ih.2.1.2 D4) D W (outer++cur) (bl++[outer.length]) wh inn g rc s1 n1 m1 I7 hs (C4.Bv hbd) (C7.Bv hbd) z4ma z4qa z4ma);have HC3:=A0 (fun W g (hs:K.St D W (outer++cur) (bl++[outer.length]) wh inn g rc)=>Vj K .nil trivial D W (outer++cur) (bl++[outer.length]) wh inn g rc none 0 0 [] hs (Rr _ _ _ _) rfl z5ma (by simp only[bsize];simp;omega) z5ma);unfold Cs;go_in;go_wp2_with fail
  refine(HC.o).mono ?_;rintro e w1 ⟨rfl,Ax,A2⟩;have B5:=A0 Ax;have A9:Hid (A3 D w w1):=A2;have C8:=(A9.o.block b hD).trans hb;have d1:=A4 C8 2 _ rfl;have ld:=A6 C8;go_wp2_with fail
  refine(Fx.o _ _ B5.o A9.o).mono ?_;rintro e w2 ⟨rfl,Bj,Ad⟩;have Au:=A0 Bj;have Ab:Hid (A3 D w w2):=A9.o.trans Ad;have Ep:=(Ab.o.block b hD).trans hb;have d2:=A4 Ep 3 _ rfl;have ld:=A6 Ep;go_wp2_with fail
  refine(HC3.o _ _ Au.o).mono ?_;rintro e w3 ⟨rfl,Dc,Ay⟩;have Bu:=A0 Dc;have Ba:Hid (A3 D w w3):=Ab.o.trans Ay;go_wp2;go_end0;rw[Bt]at Bu;exact⟨rfl,Bu.o,Ba.o⟩
 ·obtain⟨x1,y1,l1,c1,r1,Du,rfl,Cc,Cd,hz⟩:=hr.cons';obtain⟨x2,y2,l2,c2,r2,I7,rfl,Eu,C7,hzz⟩:=hz.cons';obtain⟨x3,y3,l3,c3,r3,ks3,rfl,hn3,Gg,hzzz⟩:=hzz.cons';obtain rfl:=hzzz.nil';obtain⟨Er,I5⟩:=hwf.Nv.1 Cc.Ua.1;obtain⟨D4,C4⟩:=Eu.Rg;obtain⟨h31,_⟩:=hwf.1.Nv.2 D4;obtain⟨hk3,E8⟩:=hn3.Rg;obtain⟨h31',_⟩:=hwf.1.1.Nv.2 hk3;simp only[bsize]at Cu Dg hz3;have hse:Bt K.fns (.node x1 y1 l1 c1 (.node x2 y2 l2 c2 (.node x3 y3 l3 c3 .nil))) outer cur wh inn f=(cur,(Bt K.fns c3 (outer++cur) [] wh inn (Bt K.fns c2 (outer++cur) [] wh inn (Bt K.fns (nd l1 c1) outer cur wh inn f).2).2).2):=by
   rw[sens_xy' K.fns x1,Mz K.fns _ (Wf.Vr Er I5),sens_xy' K.fns x2,A28 K.fns c2 h31,Lr,A28 K.fns c3 h31']
  rw[hse];have HC:=A0 (ih.1.1 Er D w outer cur _ wh inn f rc _ Du hst Cc Cd);have Fx:=A0 (fun W g (hs:K.St D W (outer++cur) (bl++[outer.length]) wh inn g rc) (hbd:A3 D w W)=>Vj K c2 (ih.2.1.2 D4) D W (outer++cur) (bl++[outer.length]) wh inn g rc s1 n1 m1 I7 hs (C4.Bv hbd) (C7.Bv hbd) z4ma z4qa z4ma);have HC3:=A0 (fun W g (hs:K.St D W (outer++cur) (bl++[outer.length]) wh inn g rc) (hbd:A3 D w W)=>Vj K c3 (ih.2.2.1.2 hk3) D W (outer++cur) (bl++[outer.length]) wh inn g rc s2 n2 m2 ks3 hs (E8.Bv hbd) (Gg.Bv hbd) z4ma z4qa z4ma);unfold Cs;go_in;go_wp2_with fail
  refine(HC.o).mono ?_;rintro e w1 ⟨rfl,Ax,A2⟩;have B5:=A0 Ax;have A9:Hid (A3 D w w1):=A2;have C8:=(A9.o.block b hD).trans hb;have d1:=A4 C8 2 _ rfl;have ld:=A6 C8;go_wp2_with fail
  refine(Fx.o _ _ B5.o A9.o).mono ?_;rintro e w2 ⟨rfl,Bj,Ad⟩;have Au:=A0 Bj;have Ab:Hid (A3 D w w2):=A9.o.trans Ad;have Ep:=(Ab.o.block b hD).trans hb;have d2:=A4 Ep 3 _ rfl;have ld:=A6 Ep;go_wp2_with fail
  refine(HC3.o _ _ Au.o Ab.o).mono ?_;rintro e w3 ⟨rfl,Dc,Ay⟩;have Bu:=A0 Dc;have Ba:Hid (A3 D w w3):=Ab.o.trans Ay;go_wp2;go_end0;exact⟨rfl,Bu.o,Ba.o⟩
def Ah8(K:CC)(l:A5)(c:BT A5)(hk:l.kd=23)(ih:Dp (Part K) c)(hwf:Wf 3 c):Me K l c:=by
 intro D w outer cur bl wh inn f rc v ks hst hn hr Cu Dg hz3;obtain⟨hlo,lcb,hncb⟩:=hst.lo;unfold Bx at hn;rw[Ai]at hn;obtain⟨b,cs,rfl,hD,hb,hl⟩:=hn;have e1:Cw l.kd=255:=by rw[hk];rfl
 have e2:E4 l.kd=317:=by rw[hk];rfl
 rw[e1];rw[e2]at hb;unfold Di at hl;simp only[hk]at hl;obtain⟨t,x,s1,n1,m1,rfl,rfl⟩:=hl;have hnd:=Kb K.fns l c z4ma z4ma z4ma outer cur wh inn f;rw[Mx z4ma]at hnd;rw[hnd];have d0:=A4 hb 1 _ rfl;have ld:=A6 hb;rw[Cf]at Cu Dg hz3;have Dy:=fun(v:Value) (w:World)=>Bl (P:=Tryz.prog) (t:=255) (T:=143) (xT:=142) (z:=.pointer none) Tryz.underlying143 (by kernel_rfl) z4oa v w;have Ee:=fun(v:Value) (w:World)=>Bl (P:=Tryz.prog) (t:=255) (T:=145) (xT:=142) (z:=.pointer none) Tryz.underlying145 (by kernel_rfl) z4oa v w;have Fa:=fun(v:Value) (w:World)=>Bl (P:=Tryz.prog) (t:=255) (T:=253) (xT:=142) (z:=.pointer none) Tryz.underlying253 (by kernel_rfl) z4oa v w;have Ga:=fun(v:Value) (w:World)=>Ek (P:=Tryz.prog) (xT:=142) Tryz.underlying255 v w;obtain⟨x1,y1,l1,c1,r1,Du,rfl,Cc,Cd,hz⟩:=hr.cons';obtain⟨x2,y2,l2,c2,r2,I7,rfl,Eu,C7,hzz⟩:=hz.cons';obtain rfl:=hzz.nil';obtain⟨Er,I5⟩:=hwf.T6.1 Cc.Ua.2;obtain⟨D4,C4⟩:=Eu.Rg;obtain⟨h32,_⟩:=hwf.1.T6.2 D4;simp only[bsize]at Cu Dg hz3;have hse:Bt K.fns (.node x1 y1 l1 c1 (.node x2 y2 l2 c2 .nil)) outer cur wh inn f=(cur,(Bt K.fns c2 (outer++cur) [] (wh+1) inn (Bt K.fns (nd l1 c1) outer cur wh inn f).2).2):=by
  rw[sens_xy' K.fns x1,Mz K.fns _ (Wf.Vr Er I5),Lr,Ara K.fns c2 h32]
 rw[hse];have HC:=ih.1.1 Er D w outer cur _ wh inn f rc _ Du hst Cc Cd;have Fx:=fun W g (hs:K.St D W (outer++cur) (bl++[outer.length]) (wh+1) inn g rc) (hbd:A3 D w W)=>Vj K c2 (ih.2.1.2 D4) D W (outer++cur) (bl++[outer.length]) (wh+1) inn g rc s1 n1 m1 I7 hs (C4.Bv hbd) (C7.Bv hbd) z4ma z4qa z4ma;have hwh:wh+1<=700000:=by omega
 unfold Cs;go_in;go_wp2_with fail
 refine(HC).mono ?_;rintro e w1 ⟨rfl,Ax,A2⟩;have A9:A3 D w w1:=A2;have C8:=(A9.block b hD).trans hb;have ld:=A6 C8;obtain⟨na,nn,nc,ba,bn,bc,la,ln,lc,ls,hv⟩:=Ax.st;have lcb1:=A6 hv.cell;have HP:=Asz hv.A2i (by rw[hv.lsl];omega) (some ⟨b,0,none⟩) z4ra;go_wp2_with fail
 refine HP.mono ?_;rintro e w2 ⟨rfl,hp2⟩;obtain⟨k1,k2⟩:=hv.A1y _ z4ma hp2;have Au:=Ax.next k1 k2;have Ab:A3 D w w2:=A9.trans k2;have Ep:=(Ab.block b hD).trans hb;have d2:=A4 Ep 2 _ rfl;have ld:=A6 Ep;go_wp2_with fail
 refine(Fx _ _ Au Ab).mono ?_;rintro e w3 ⟨rfl,Dc,Ay⟩;have Ba:A3 D w w3:=Ab.trans Ay;obtain⟨na3,nn3,nc3,ba3,bn3,bc3,la3,ln3,lc3,ls3,hv3⟩:=Dc.st;have lcb3:=A6 hv3.cell;have hl3:=hv3.lsl;have C2:=Asv hv3.A2i z4ma wh z4ma hl3 z4ra;go_wp2_with fail
 refine C2.mono ?_;rintro e w4 ⟨rfl,hp4⟩;obtain⟨k3,k4⟩:=hv3.Ahf wh z4ma hp4;have Ft:=Dc.next k3 k4;have D6:A3 D w w4:=Ba.trans k4;go_wp2;go_end0;exact⟨rfl,Ft,D6⟩
def A9f(K:CC):∀f:BT A5,bsize f<=500000->(Wf 1 f->Dp (Me K) f)/\(Wf 2 f->Dp (Part K) f)/\(Wf 3 f->Dp (Part K) f):=by
 intro f;induction f with
 | nil=>intro _;exact⟨fun _=>trivial,fun _=>trivial,fun _=>trivial⟩
 | node x y l c r D5 C6=>
  intro hs;rw[bsize]at hs;obtain⟨i1,i2,i3⟩:=D5 z4ma;obtain⟨j1,j2,j3⟩:=C6 z4ma;refine⟨fun h=>⟨?_,j1 h.1⟩,fun h=>⟨⟨fun hx=>?_,fun hx=>i1 (h.Nv.2 hx).2⟩,j2 h.1⟩,fun h=>⟨⟨fun hx=>?_,fun hx=>i1 (h.T6.2 hx).2⟩,j3 h.1⟩⟩
  ·rcases h.2 with⟨h0,_⟩|⟨h0,_⟩|⟨h0,_⟩|⟨_,h1,h2⟩|⟨_,h1,h2⟩|⟨_,h1,h2⟩|⟨h0,_⟩
   ·omega
   ·omega
   ·omega
   ·exact Ah2 K l c h1 (i2 h2) h2
   ·exact Ah8 K l c h1 (i3 h2) h2
   ·have hx:=A15 K c h2 z4ma;unfold No at h1;simp only[Gz,F3,Jg,Fh]at h1;have hc:l.kd=21\/l.kd=24\/l.kd=25\/l.kd=26\/l.kd=27\/l.kd=28\/l.kd=29\/l.kd=30:=by omega
    rcases hc with e|e|e|e|e|e|e|e
    ·exact Ah3 K l c e hx h2
    ·exact Ah6 K l c e hx h2
    ·exact Agy K l c e
    ·exact Agz K l c e
    ·exact Ah4 K l c e hx h2
    ·exact Ah7 K l c e hx h2
    ·exact Ah5 K l c e hx h2
    ·exact Ah0 K l c e hx h2
   ·omega
  ·have hw:=h.Nv.1 (Rc hx).1;exact(A15 K (nd l c) (Wf.Vr hw.1 hw.2) (by rw[Cf];omega)).1
  ·have hw:=h.T6.1 (Rc hx).2.1;exact(A15 K (nd l c) (Wf.Vr hw.1 hw.2) (by rw[Cf];omega)).1
