import Derived.Test.YtjdlndhfaaolaaaGreatDoorT37
set_option maxHeartbeats 20000000
namespace Go.Proofs.YtjdlndhfaaolaaaGreatDoor
section
set_option maxRecDepth 100000
open Go.RowKit
open Go.Deep (BT)
variable {C:MC} {D X:Nat->Prop} {w w':World} {m:MS} {β:Nat->Nat}
theorem z4ya {P:Prop} (h:P:=by
  clear h2 k2;go_wp2;refine bodyPost_ret (v:=.tuple #[]) (by simp[results,Tryz.results163,go_sem]) rfl ?_;exact z3ba):P:=h
theorem A7w(h:C.Ms D X β w m)(i:Af)(Gr:m.pop.top.k≠4):Calls Tryz.prog 163 #[.pointer (some ⟨C.mb,0,none⟩),Ac i] w (MP C D X β w (m.pop.pop.fail 5 i) (.tuple #[])):=by
 obtain⟨w0,An,Aq,Ah,Am,Ar,n0,n1,n2,n3,n4,n5,n6,n7,ln,lb,C2⟩:=h.C6 i;clear h;have HT:=A0 (Ei Aq.o);have t4:(((m.pop.top.k:Nat):Int) !=4)=true:=by rw[bne_iff_ne];omega
 clear Gr;generalize m.pop.top=u at *;generalize m.top=p at *;unfold Ac;go_enter Tryz.func163,Tryz.ntmps163;go_wp2_with fail
 rw[<-An.o];refine HT.o.mono ?_;rintro e w1 ⟨rfl,h1,k1⟩;unfold B0;have Bp:=h1.Aw;have A7:=A0 h1;have A4:Hid (A3 (dx D X) w w1):=Ah.o.trans (Ag k1);have Ad:=(k1.block _ Am.o).trans Ar.o;clear n0 n1 n2 n3 n4 n5 n6 n7 ln;obtain⟨n0,n1,n2,n3,n4,n5,n6,n7,ln⟩:=B3 Ad;clear h1 k1 Ad HT;have HF:=A0 (fun(W:World) (hb:Below w1.heap.size w1 W)=>And.intro (Gw (A7.o.below hb).1 5 i) (A4.o.trans (Ag (A7.o.below hb).2)));unfold Ac at HF;go_wp2_with fail
 refine((HF.o _ z50a).1).mono ?_;rintro e w2 ⟨rfl,h2,k2⟩;have Aj:=A0 h2.back;have Aa:Hid (A3 (dx D X) w w2):=(HF.o _ z50a).2.trans (Ag k2);exact z4ya
theorem A7u(h:C.Ms D X β w m)(i:Af)(Gr:m.pop.top.k=4)(hc:500<m.cells+1)(h5:m.cells<=500):Calls Tryz.prog 163 #[.pointer (some ⟨C.mb,0,none⟩),Ac i] w (MP C D X β w (m.pop.pop.fail 10 i) (.tuple #[])):=by
 obtain⟨w0,An,Aq,Ah,Am,Ar,n0,n1,n2,n3,n4,n5,n6,n7,ln,lb,C2⟩:=h.C6 i;clear h;have HT:=A0 (Ei Aq.o);have t4:(((m.pop.top.k:Nat):Int) !=4)=false:=by rw[Gr];rfl
 have HR:=A0 (fun(W:World) (hs':C.Ms D (Cs X w) β W m.pop.pop)=>A1q hs' 1 i hc h5);unfold Ac at HR;clear Gr hc;generalize m.pop.top=u at *;generalize m.top=p at *;unfold Ac;go_enter Tryz.func163,Tryz.ntmps163;go_wp2_with fail
 rw[<-An.o];refine HT.o.mono ?_;rintro e w1 ⟨rfl,h1,k1⟩;unfold B0;have Bp:=h1.Aw;have A7:=A0 h1;have A4:Hid (A3 (dx D X) w w1):=Ah.o.trans (Ag k1);have Ad:=(k1.block _ Am.o).trans Ar.o;clear n0 n1 n2 n3 n4 n5 n6 n7 ln;obtain⟨n0,n1,n2,n3,n4,n5,n6,n7,ln⟩:=B3 Ad;clear h1 k1 Ad HT;have HH2:=A0 (fun(W:World) (hb:Below w1.heap.size w1 W)=>And.intro (HR.o W (A7.o.below hb).1) (A4.o.trans (Ag (A7.o.below hb).2)));clear HR;go_wp2_with fail
 refine((HH2.o _ z50a).1).mono ?_;rintro e w2 ⟨rfl,h2,k2⟩;have Aj:=A0 h2.back;have Aa:Hid (A3 (dx D X) w w2):=(HH2.o _ z50a).2.trans (Ag k2);exact z4ya
end
section
open Go.RowKit
open Go.Deep (BT)
variable {C:MC} {D X Y:Nat->Prop} {w w':World} {m:MS} {β:Nat->Nat}
def Mq(β:Nat->Nat)(n b:Nat):Nat->Nat:=fun i=>if i=n then b else β i
theorem Z5{n b i:Nat}(h:i<n):Mq β n b i=β i:=if_neg z51a
theorem Aia{n b:Nat}{v:PV}(h:Cc n v):Cb (Mq β n b) v=Cb β v:=by
 have:Bq (Mq β n b) v=Bq β v:=by
  unfold Bq;unfold Cc at h;cases hr:v.r with
  | none=>rfl
  | some i=>rw[hr]at h;simp only;rw[Z5 h.2]
 unfold Cb;rw[this]
theorem Ui{n b:Nat}{l:List PV}(h:∀v∈l,Cc n v):C0 (Cb (Mq β n b)) l=C0 (Cb β) l:=by
 unfold C0;induction l with
 | nil=>rfl
 | cons x r ih=>rw[List.flatMap_cons,List.flatMap_cons,Aia (h x (List.mem_cons_self ..)),ih (fun v hv=>h v (List.mem_cons_of_mem _ hv))]
theorem V3{n:Nat}{v:PV}(h:Cc n v):Cc (n+1) v:=by
 unfold Cc at h ⊢;cases hr:v.r with
 | none=>rw[hr]at h;exact h
 | some i=>rw[hr]at h;exact⟨h.1,by omega⟩
theorem MC.Ms.A6n(h:C.Ms D Y β w m)(hX:∀g,X g->Y g){b rb:Nat}{l:List PV}(hb:Y b/\¬D b/\¬X b)(hr:Y rb/\¬D rb/\¬X rb)(hn:rb≠b)(hh:w.heap[b]?=some (.cells #[.slice (some ⟨rb,0,none⟩) l.length l.length] 356 (0,0)))
  (hrow:w.ownsRow 0 225 5 (.slice (some ⟨rb,0,none⟩) l.length l.length) l.length (C0 (Cb β) l)) (hvv:∀v∈l,Cc m.arr.length v) :
  C.Ms D X (Mq β m.arr.length b) w { m with arr:=m.arr++[l] }:=by
 classical
 obtain⟨ρ,s,x,fv,ab,lp,h⟩:=h;have Bj:=(h.prot b (.inr hb.1)).2;have hr0:=(h.prot rb (.inr hr.1)).2;have hl:=h.arr.len;obtain⟨σ,hσ⟩:∃σ:Nat->Nat,σ=fun g=>if g=b then 7+2*m.arr.length else if g=rb then 8+2*m.arr.length else ρ g:=⟨_,rfl⟩;have up:∀g,ρ g≠0->σ g=ρ g:=fun g hg=>by
  rw[hσ];show(if g=b then _ else _)=_;rw[if_neg (fun e=>hg (by rw[e];exact Bj)),if_neg (fun e=>hg (by rw[e];exact hr0))]
 have sb:σ b=7+2*m.arr.length:=by rw[hσ];exact if_pos rfl
 have sr:σ rb=8+2*m.arr.length:=by rw[hσ];show(if rb=b then _ else _)=_;rw[if_neg hn,if_pos rfl]
 have hd:∀g,dx D X g->g≠b/\g≠rb:=fun g hg=>by
  rcases hg with q|q
  ·exact⟨fun e=>hb.2.1 (by rw[<-e];exact q),fun e=>hr.2.1 (by rw[<-e];exact q)⟩
  ·exact⟨fun e=>hb.2.2 (by rw[<-e];exact q),fun e=>hr.2.2 (by rw[<-e];exact q)⟩
 refine⟨σ,s,x,fv,ab++[(some ⟨rb,0,none⟩,l.length,l.length)],lp,h.cell,h.prog,h.lots,fun g hg=>by rw[up g z5ea];exact h.loto g hg,h.lotm,h.forms,
  by rw[Ui h.vv.2.1];exact h.gl,fun g hg=>by rw[up g z5ga];exact h.glo g hg,by rw[Ui h.vv.1];exact h.vals,fun g hg=>by rw[up g z5ca];exact h.valo g hg,
  h.calls,fun g hg=>by rw[up g z5ba];exact h.callo g hg,h.frs,h.now,h.out,fun g hg=>by rw[up g z5da];exact h.outo g hg,⟨by simp[hl],fun i hi hi'=>?_⟩,?_,⟨by rw[up _ z5pa];exact h.one.1,?_⟩,h.Bw,?_⟩
 ·by_cases e:i<m.arr.length
  ·have Ad:i<ab.length:=by omega
   obtain⟨a1,a2,a3,a4⟩:=h.arr.at' i Ad e;rw[List.getElem_append_left Ad,List.getElem_append_left e,Z5 e,Ui (h.vv.2.2 _ (List.getElem_mem e))];exact⟨a1,a2,by rw[up _ (by rw[a3];omega)];exact a3,fun g hg=>by rw[up g (by rw[a4 g hg];omega)];exact a4 g hg⟩
  ·have e1:i=m.arr.length:=by simp at hi';omega
   subst e1;have q1:(ab++[((some ⟨rb,0,none⟩:Option Addr),l.length,l.length)])[m.arr.length]'hi=(some ⟨rb,0,none⟩,l.length,l.length):=by
    rw[List.getElem_append_right z51a];simp
   have q2:(m.arr++[l])[m.arr.length]'hi'=l:=by rw[List.getElem_append_right (Nat.le_refl _)];simp
   have q3:Mq β m.arr.length b m.arr.length=b:=if_pos rfl;rw[q1,q2,q3,Ui hvv];refine⟨hh,hrow,sb,fun g hg=>?_⟩;have:rb=g:=by simpa [La,Value.ownBlock]using hg
   rw[<-this];exact sr
 ·intro g hg;obtain⟨n1,n2⟩:=hd g hg;have hY:dx D Y g:=hg.imp id (hX g);refine⟨(h.prot g hY).1,?_⟩;rw[hσ];show(if g=b then _ else _)=_;rw[if_neg n1,if_neg n2];exact(h.prot g hY).2
 ·intro g hg;rw[hσ]at hg;have hg':(if g=b then 7+2*m.arr.length else if g=rb then 8+2*m.arr.length else ρ g)=1:=hg;split at hg'
  ·omega
  ·split at hg'
   ·omega
   ·exact h.one.2 g hg'
 ·simp only[List.length_append,List.length_singleton];refine⟨fun v hv=>V3 (h.vv.1 v hv),fun v hv=>V3 (h.vv.2.1 v hv),fun q hq v hv=>?_⟩;rcases List.mem_append.1 hq with e|e
  ·exact V3 (h.vv.2.2 q e v hv)
  ·rw[List.mem_singleton.1 e]at hv;exact V3 (hvv v hv)
end
section
set_option maxRecDepth 100000
open Go.RowKit
open Go.Deep (BT)
variable {b o:Nat}{w:World}{cs:Array Value}{t:TypeId}{va:Option Addr}{vn vc:Nat}{xs:List Kn}
theorem Wx:(Tryz.prog.info? 407).map (fun i=>(i.zero,i.size,i.bytes))=some (some (.agg #[.bool false,.bool false,.int .i64 0,.bool false,.int .i64 0,.string ⟨#[]⟩,.pointer none]),7,56):=by kernel_rfl
theorem Rs(h:Di 407 7 En b o w cs t va vn vc xs):Calls Tryz.prog 305 #[.pointer (some ⟨b,o,none⟩)] w fun e w'=>e=.returned (.int .i64 (xs.length:Nat))/\w'=w:=by
 have c:=Dq h.blk h.cell;have lb:=A5 h.blk;have hv:vn=xs.length:=(Cg h.own).1;subst hv;clear h;go_enter Tryz.func305,Tryz.ntmps305;exact z0xa
theorem Af4(h:Di 407 7 En b o w cs t va vn vc xs)(i:Nat)(hi:i<xs.length)(hb:xs.length<=1000000):Calls Tryz.prog 318 #[.pointer (some ⟨b,o,none⟩),.int .i64 (i:Nat)] w fun e w'=>e=.returned (.agg #[.bool (xs[i]).kind,.bool (xs[i]).whole,.int .i64 ((xs[i]).like.k:Nat),.bool (xs[i]).like.y,.int .i64 (xs[i]).like.n,.string ⟨(xs[i]).like.t.toArray⟩,.pointer none])/\Below w.heap.size w w':=by
 have c:=Dq h.blk h.cell;have lb:=A5 h.blk;have hv:vn=xs.length:=(Cg h.own).1;subst hv;obtain⟨g,rfl,hvn9,hcap,lg,hcell⟩:=G2 h.own z51a;clear hvn9;have d0:=hcell (i*7+0) _ ((D6 (sz:=7) (fun _=>rfl) xs i 0 hi z51a).trans rfl);have d1:=hcell (i*7+1) _ ((D6 (sz:=7) (fun _=>rfl) xs i 1 hi z51a).trans rfl);have d2:=hcell (i*7+2) _ ((D6 (sz:=7) (fun _=>rfl) xs i 2 hi z51a).trans rfl);have d3:=hcell (i*7+3) _ ((D6 (sz:=7) (fun _=>rfl) xs i 3 hi z51a).trans rfl);have d4:=hcell (i*7+4) _ ((D6 (sz:=7) (fun _=>rfl) xs i 4 hi z51a).trans rfl);have d5:=hcell (i*7+5) _ ((D6 (sz:=7) (fun _=>rfl) xs i 5 hi z51a).trans rfl);have d6:=hcell (i*7+6) _ ((D6 (sz:=7) (fun _=>rfl) xs i 6 hi z51a).trans rfl);rw[Nat.add_zero]at d0;clear h hcell;generalize xs[i]=x at *;go_enter Tryz.func318,Tryz.ntmps318;go_wp2;refine bodyPost_ret (v:=.agg #[.bool x.kind,.bool x.whole,.int .i64 (x.like.k:Nat),.bool x.like.y,.int .i64 x.like.n,.string ⟨x.like.t.toArray⟩,.pointer none]) (by simp[results,Tryz.results318,go_sem]) rfl ⟨rfl,?_⟩;exact z44a
theorem z1ua {P:Prop} (h:P:=by
  clear hi;go_enter Tryz.func318,Tryz.ntmps318;go_wp2;refine bodyPost_ret (v:=.agg #[.bool false,.bool false,.int .i64 0,.bool false,.int .i64 0,.string ⟨#[]⟩,.pointer none]) (by simp[results,Tryz.results318,go_sem]) rfl ⟨rfl,?_⟩;exact z03a):P:=h
theorem A14(h:Di 407 7 En b o w cs t va vn vc xs)(i:Int)(hi:i<0\/(xs.length:Int)<=i):Calls Tryz.prog 318 #[.pointer (some ⟨b,o,none⟩),.int .i64 i] w fun e w'=>e=.returned (.agg #[.bool false,.bool false,.int .i64 0,.bool false,.int .i64 0,.string ⟨#[]⟩,.pointer none])/\Below w.heap.size w w':=by
 have c:=Dq h.blk h.cell;have lb:=A5 h.blk;have hv:vn=xs.length:=(Cg h.own).1;subst hv;clear h;by_cases h0:i<0
 ·exact z1ua
 ·have h1:(xs.length:Int)<=i:=by omega
  exact z1ua
theorem Pb(h:Di 407 7 En b o w cs t va vn vc xs)(i:Int)(hb:xs.length<=1000000)(x:Kn)(hx:x=if i<0 then Eo else(xs[i.toNat]?).getD Eo):Calls Tryz.prog 318 #[.pointer (some ⟨b,o,none⟩),.int .i64 i] w fun e w'=>e=.returned (.agg #[.bool x.kind,.bool x.whole,.int .i64 (x.like.k:Nat),.bool x.like.y,.int .i64 x.like.n,.string ⟨x.like.t.toArray⟩,.pointer none])/\Below w.heap.size w w':=by
 by_cases h0:i<0
 ·rw[if_pos h0]at hx;subst hx;exact A14 h i (.inl h0)
 ·rw[if_neg h0]at hx;by_cases h1:i.toNat<xs.length
  ·rw[List.getElem?_eq_getElem h1]at hx;have:=Af4 h i.toNat h1 hb;exact z3ma
  ·rw[List.getElem?_eq_none z51a]at hx;subst hx;exact A14 h i (.inr z51a)
theorem Af5(h:Di 407 7 En b o w cs t va vn vc xs)(hn:xs.length<=900000)(u:Kn)(ho:o<cs.size):Calls Tryz.prog 307 #[.pointer (some ⟨b,o,none⟩),.agg #[.bool u.kind,.bool u.whole,.int .i64 (u.like.k:Nat),.bool u.like.y,.int .i64 u.like.n,.string ⟨u.like.t.toArray⟩,.pointer none]] w fun e w'=>e=.returned (.tuple #[])/\Vb 407 7 En b o w cs t va vn vc xs u w':=by
 have Gz:Di 407 7 En b o (w.alloc (.cells #[.bool u.kind,.bool u.whole,.int .i64 (u.like.k:Nat),.bool u.like.y,.int .i64 u.like.n,.string ⟨u.like.t.toArray⟩,.pointer none] 407)) cs t va vn vc xs:=h.keep (fun g hg=>Below.heap_alloc _ _ _ hg);have Bj:Below w.heap.size w (w.alloc (.cells #[.bool u.kind,.bool u.whole,.int .i64 (u.like.k:Nat),.bool u.like.y,.int .i64 u.like.n,.string ⟨u.like.t.toArray⟩,.pointer none] 407)):=Below.alloc (Below.refl _ _) (Nat.le_refl _) _;have Fc:=heap_alloc_new w (.cells #[.bool u.kind,.bool u.whole,.int .i64 (u.like.k:Nat),.bool u.like.y,.int .i64 u.like.n,.string ⟨u.like.t.toArray⟩,.pointer none] 407);have hlr:=Bs h.own;clear h;generalize hW:w.alloc (.cells #[.bool u.kind,.bool u.whole,.int .i64 (u.like.k:Nat),.bool u.like.y,.int .i64 u.like.n,.string ⟨u.like.t.toArray⟩,.pointer none] 407)=w0 at *;generalize hxb:w.heap.size=xb at *;have HW:=A0 hW;have HXb:=A0 hxb;have Ah:=A0 Bj;have hsz0:=Bj.size;clear hW Bj;have c:=Dq Gz.blk Gz.cell;have lb:=A5 Gz.blk;have hv:vn=xs.length:=(Cg Gz.own).1;subst hv;have x0:=A2 Fc 0 _ rfl;have x1:=A2 Fc 1 _ rfl;have x2:=A2 Fc 2 _ rfl;have x3:=A2 Fc 3 _ rfl;have x4:=A2 Fc 4 _ rfl;have x5:=A2 Fc 5 _ rfl;have x6:=A2 Fc 6 _ rfl;have lx:=A5 Fc;have hown:w0.drew.ownsRow 0 407 7 (.slice va xs.length vc) xs.length (C0 En xs):=B8 Gz.own (fun _ _ _=>rfl);have HH:=A0 Gz;have HNe:=A0 Gz.ne;have HLr:=A0 hlr;clear Gz Fc hxb hlr;go_enter Tryz.func307,Tryz.ntmps307;go_wp2;rw[HW.o,HXb.o];go_region_law (refine N6 _ w0.heap.size #[.bool u.kind,.bool u.whole,.int .i64 (u.like.k:Nat),.bool u.like.y,.int .i64 u.like.n,.string ⟨u.like.t.toArray⟩,.pointer none] 407 (heap_alloc_new w0.drew _) rfl (.tmp 8) (.tmp 10) 379 rfl 0 7 56 _ Tryz.underlying379 Wx rfl z51a (.slice va xs.length vc) xs.length (C0 En xs) rfl rfl (hown.alloc _) rfl (fun v hv=>by simp at hv;rcases hv with rfl|rfl|rfl|rfl|rfl|rfl|rfl <;> rfl) z51a z51a (Nat.zero_le _) ?_;intro g cap w1 F0 hgrow' hat' hg;have F5:=Lx (World.grownBy_alloc w0.drew _ none) hgrow';have hgrow:w0.grownBy w1 (Value.slice va xs.length vc).ownBlock:=⟨F5.os,F5.tape,F5.output,F5.size,F5.block⟩;clear F5;have hat:(Value.slice va xs.length vc).ownBlock=some g\/w0.heap.size<=g:=hat'.imp id (fun e=>by rw[e];simp);have A1:=(hgrow.block b lb (fun e=>HNe.o e.symm)).trans HH.o.blk;have c1:=Dq A1 HH.o.cell;have f1:=Bh A1;have Bp:=A5 A1;have A4:=A0 A1;have HOwn1:=A0 F0;have HGrow:=A0 hgrow;have HAt:=A0 hat;clear A1 F0 hgrow hat hgrow' hat')
 all_goals go_wp2
 all_goals go_end0
 all_goals
  have hgb:g≠b:=by
   rcases HAt.o with e|e
   ·intro e2;rw[e2]at e;exact HNe.o e
   ·omega
  refine⟨rfl,g,cap,⟨heap_set A4.o _,?_,?_,by simp only[Value.ownBlock,ne_eq,Option.some.injEq];exact hgb⟩,HAt.o.imp id (fun e=>by omega),⟨HGrow.o.os.trans Ah.o.os,HGrow.o.tape.trans Ah.o.tape,HGrow.o.output.trans Ah.o.output,by have:=HGrow.o.size;have:=HXb.o;simp[World.setCell];omega,fun k hk hkb hkr=>?_⟩⟩
  ·exact z1za
  ·rw[List.length_append,Qr,Sb];exact z3fa
  ·have hkx:=HXb.o;exact((Below.heap_setCell _ _ _ _ (by exact hkb)).trans (HGrow.o.block k z51a (fun e=>hkr e.symm))).trans (Ah.o.block k z51a)
theorem Af1(h:Di 407 7 En b o w cs t va vn vc xs)(m:Nat)(hm:m<=xs.length)(ho:o<cs.size):Calls Tryz.prog 304 #[.pointer (some ⟨b,o,none⟩),.int .i64 (m:Nat)] w fun e w'=>e=.returned (.tuple #[])/\Jp 407 7 En b o w cs t va vn vc xs m w':=by
 have c:=Dq h.blk h.cell;have lb:=A5 h.blk;have hv:vn=xs.length:=(Cg h.own).1;subst hv;have fz:=Bh h.blk;have HH:=A0 h;have HNe:=A0 h.ne;by_cases he:m=xs.length
 ·subst he;clear h;go_enter Tryz.func304,Tryz.ntmps304;go_wp2;refine bodyPost_ret (v:=.tuple #[]) (by simp[results,Tryz.results304,go_sem]) rfl ⟨rfl,?_,Ft.refl _ _ _⟩;exact z25a
 ·obtain⟨hl,⟨h2,h3⟩|⟨g,cap,cur,hv,_,hg,hcap',hmx,hsz,ht⟩⟩:=h.own
  ·omega
  ·injection hv with e1 e2 e3;subst e1 e3;have hgb:g≠b:=fun e=>h.ne z5xa;have fg:=Bh hg;have lg:=A5 hg;have hzs:(.agg #[.bool false,.bool false,.int .i64 0,.bool false,.int .i64 0,.string ⟨#[]⟩,.pointer none]:Value).cells.size=7:=rfl;have hmul:m*7+(xs.length-m)*7=xs.length*7:=by omega
   have hcs:∀j,j<(xs.length-m)*(.agg #[.bool false,.bool false,.int .i64 0,.bool false,.int .i64 0,.string ⟨#[]⟩,.pointer none]:Value).cells.size->(w.cell? ⟨g,m*7+j,none⟩).isSome=true:=by
    intro j hj;rw[hzs]at hj;rw[cell_of_row w g (m*7+j) cur _ _ hg,Array.getElem?_eq_getElem z51a];rfl
   have hcl:∀ty,(Builtin.clear_ #[379] ty #[.slice (some ⟨g,m*7,none⟩) (xs.length-m) (vc-m)]).run Tryz.prog w=.ok (.tuple #[]) (w.setCells g (m*7) (Builtin.zeroCells (.agg #[.bool false,.bool false,.int .i64 0,.bool false,.int .i64 0,.string ⟨#[]⟩,.pointer none]:Value).cells (xs.length-m)).toList):=
    fun ty=>Xw w 379 407 ty (.agg #[.bool false,.bool false,.int .i64 0,.bool false,.int .i64 0,.string ⟨#[]⟩,.pointer none]) Tryz.underlying379 Tryz.zeroValue407 (by rw[hzs];omega) (fun v hv=>by simp[Value.cells]at hv;rcases hv with rfl|rfl|rfl|rfl|rfl|rfl|rfl <;> rfl) g (m*7) (xs.length-m) (vc-m) z51a hcs (fun j hj=>fg _)
   obtain⟨cur',k1,k2,k3⟩:=P9 g 407 (0,0) (Builtin.zeroCells (.agg #[.bool false,.bool false,.int .i64 0,.bool false,.int .i64 0,.string ⟨#[]⟩,.pointer none]:Value).cells (xs.length-m)).toList (m*7) cur w hg;obtain⟨f1,f2,f3,f4,f5⟩:=Kk g (Builtin.zeroCells (.agg #[.bool false,.bool false,.int .i64 0,.bool false,.int .i64 0,.string ⟨#[]⟩,.pointer none]:Value).cells (xs.length-m)).toList (m*7) w;have A1:=(f5 b (fun e=>hgb e.symm)).trans h.blk;have Hz:=A0 k1;have HK3:=A0 (k3 (m*7) (Nat.le_refl _));have HF:=A0 (And.intro f1 (And.intro f2 (And.intro f3 (And.intro f4 f5))));have HT:=A0 ht;have HSz:=A0 (k2.trans hsz);have hlen9:=hcap';clear h hcs hg ht k1 k2 k3 f1 f2 f3 f5 hl hsz hzs hmul;have c1:=Dq A1 HH.o.cell;have g1:=Bh A1;have Bp:=A5 A1;have A4:=A0 A1;clear A1 f4;generalize w.setCells g (m*7) (Builtin.zeroCells (.agg #[.bool false,.bool false,.int .i64 0,.bool false,.int .i64 0,.string ⟨#[]⟩,.pointer none]:Value).cells (xs.length-m)).toList=w1 at *;go_enter Tryz.func304,Tryz.ntmps304;go_wp2;go_end0;obtain⟨p1,p2,p3,p4,p5⟩:=HF.o;have hset:∀k,k≠b->(w1.setCell ⟨b,o,none⟩ (.slice (some ⟨g,0,none⟩) m vc)).heap[k]?=w1.heap[k]?:=fun k hk=>Below.heap_setCell _ _ _ _ z5za;refine⟨rfl,⟨heap_set A4.o _,?_,⟨?_,.inr ⟨g,vc,cur',?_,Nat.zero_le _,(hset g hgb).trans Hz.o,?_,hmx,HSz.o,?_⟩⟩,?_⟩,⟨p1,p2,p3,by simp[World.setCell];omega,fun k hk hkb hkr=>?_⟩⟩
   ·exact z1za
   ·exact Lh (f:=En) (sz:=7) (fun _=>rfl) _
   ·exact z40a
   ·exact z3oa
   ·rw[List.length_take,Nat.min_eq_left hm,HK3.o,<-Xu (sz:=7) (fun _=>rfl),<-HT.o,List.take_take,Nat.min_eq_left z51a]
   ·exact z2pa
   ·exact z3sa
theorem z2ya {P:Prop} (h:P:=by
  go_enter Tryz.func304,Tryz.ntmps304;go_wp2;refine bodyPost_ret (v:=.tuple #[]) (by simp[results,Tryz.results304,go_sem]) rfl ⟨rfl,rfl⟩):P:=h
theorem Af3(h:Di 407 7 En b o w cs t va vn vc xs)(i:Int)(hi:i<0):Calls Tryz.prog 304 #[.pointer (some ⟨b,o,none⟩),.int .i64 i] w fun e w'=>e=.returned (.tuple #[])/\w'=w:=by
 have c:=Dq h.blk h.cell;have lb:=A5 h.blk;have hv:vn=xs.length:=(Cg h.own).1;subst hv;clear h;exact z2ya
theorem Af2(h:Di 407 7 En b o w cs t va vn vc xs)(i:Int)(hi:(xs.length:Int)<=i):Calls Tryz.prog 304 #[.pointer (some ⟨b,o,none⟩),.int .i64 i] w fun e w'=>e=.returned (.tuple #[])/\w'=w:=by
 have c:=Dq h.blk h.cell;have lb:=A5 h.blk;have hv:vn=xs.length:=(Cg h.own).1;subst hv;clear h;have h0:¬i<0:=by omega
 exact z2ya
end
section
set_option maxRecDepth 100000
open Go.RowKit
open Go.Deep (BT)
def Bc(x:Kn):Value:=.agg #[.bool x.kind,.bool x.whole,.int .i64 (x.like.k:Nat),.bool x.like.y,.int .i64 x.like.n,.string ⟨x.like.t.toArray⟩,.pointer none]
theorem Ma(k:Nat)(w:World):Calls Tryz.prog 289 #[.int .i64 (k:Nat)] w fun e w'=>e=.returned (Bc (Dj k))/\Below w.heap.size w w':=by
 go_enter Tryz.func289,Tryz.ntmps289;go_wp2;refine bodyPost_ret (v:=.agg #[.bool true,.bool false,.int .i64 (k:Nat),.bool false,.int .i64 0,.string ⟨#[]⟩,.pointer none]) (by simp[results,Tryz.results289,go_sem]) rfl ⟨rfl,?_⟩;exact z03a
theorem X5(v:PV)(w:World):Calls Tryz.prog 290 #[.agg #[.int .i64 (v.k:Nat),.bool v.y,.int .i64 v.n,.string ⟨v.t.toArray⟩,.pointer none]] w fun e w'=>e=.returned (Bc (Js v))/\Below w.heap.size w w':=by
 go_enter Tryz.func290,Tryz.ntmps290;go_wp2;refine bodyPost_ret (v:=.agg #[.bool true,.bool true,.int .i64 (v.k:Nat),.bool v.y,.int .i64 v.n,.string ⟨v.t.toArray⟩,.pointer none]) (by simp[results,Tryz.results290,go_sem]) rfl ⟨rfl,?_⟩;exact z03a
theorem cast_eq(a b:Nat):(((a:Nat):Int)==((b:Nat):Int))=(a==b):=by
 by_cases h:a=b
 ·rw[h];simp
 ·have h1:(a==b)=false:=by simp[h]
  rw[h1,beq_eq_false_iff_ne];omega
theorem z4qa {P:Prop} (h:P:=by
  go_enter Tryz.func301,Tryz.ntmps301;go_wp2;go_ret;refine⟨rfl,?_⟩;exact z03a):P:=h
theorem Mg(x:Kn)(kd:Nat)(w:World):Calls Tryz.prog 301 #[Bc x,.int .i64 (kd:Nat)] w fun e w'=>e=.returned (.bool (x.sure kd))/\Below w.heap.size w w':=by
 have hq:=cast_eq x.like.k kd;unfold Kn.sure Bc;generalize (x.like.k==kd)=q at *;cases hk:x.kind
 ·exact z4qa
 ·exact z4qa
theorem Ae9{n:Nat}(w:World)(sa:Option Addr)(sc:Nat)(i:Nat)(hi:n<=i):Calls Tryz.prog 291 #[.slice sa n sc,.int .i64 (i:Nat)] w fun e w'=>e=.returned (.int .i64 0)/\w'=w:=by
 have t0:decide (((n:Nat):Int)<=((i:Nat):Int))=true:=by rw[decide_eq_true_eq];omega
 go_enter Tryz.func291,Tryz.ntmps291;exact z0xa
theorem Ae8(w:World)(g o n sc:Nat)(i:Nat)(x:Int)(hi:i<n)(hc:w.cell? ⟨g,o+i,none⟩=some (.int .i64 x)):Calls Tryz.prog 291 #[.slice (some ⟨g,o,none⟩) n sc,.int .i64 (i:Nat)] w fun e w'=>e=.returned (.int .i64 x)/\w'=w:=by
 have t0:¬((n:Nat):Int)<=((i:Nat):Int):=by omega
 go_enter Tryz.func291,Tryz.ntmps291;exact z0xa
theorem z36a {P:Prop} (h:P:=by
  go_enter Tryz.func302,Tryz.ntmps302;exact z0xa):P:=h
theorem S0(o:Nat)(w:World):Calls Tryz.prog 302 #[.int .i64 (o:Nat)] w fun e w'=>e=.returned (.int .i64 (Gf o:Nat))/\w'=w:=by
 by_cases h12:o=12
 ·have e:Gf o=13:=by rw[h12];rfl
  rw[e,h12];exact z36a
 by_cases h15:o=15
 ·have e:Gf o=16:=by rw[h15];rfl
  rw[e,h15];exact z36a
 by_cases h17:o=17
 ·have e:Gf o=18:=by rw[h17];rfl
  rw[e,h17];exact z36a
 by_cases h19:o=19
 ·have e:Gf o=20:=by rw[h19];rfl
  rw[e,h19];exact z36a
 by_cases h21:o=21
 ·have e:Gf o=22:=by rw[h21];rfl
  rw[e,h21];exact z36a
 by_cases h28:o=28
 ·have e:Gf o=32:=by rw[h28];rfl
  rw[e,h28];exact z36a
 by_cases h29:o=29
 ·have e:Gf o=33:=by rw[h29];rfl
  rw[e,h29];exact z36a
 by_cases h30:o=30
 ·have e:Gf o=34:=by rw[h30];rfl
  rw[e,h30];exact z36a
 by_cases h31:o=31
 ·have e:Gf o=35:=by rw[h31];rfl
  rw[e,h31];exact z36a
 have e:Gf o=o:=by unfold Gf;simp only[if_neg h12,if_neg h15,if_neg h17,if_neg h19,if_neg h21,if_neg h28,if_neg h29,if_neg h30,if_neg h31]
 rw[e];have t12:(((o:Nat):Int)==12)=false:=by rw[beq_eq_false_iff_ne];omega
 have t15:(((o:Nat):Int)==15)=false:=by rw[beq_eq_false_iff_ne];omega
 have t17:(((o:Nat):Int)==17)=false:=by rw[beq_eq_false_iff_ne];omega
 have t19:(((o:Nat):Int)==19)=false:=by rw[beq_eq_false_iff_ne];omega
 have t21:(((o:Nat):Int)==21)=false:=by rw[beq_eq_false_iff_ne];omega
 have t28:(((o:Nat):Int)==28)=false:=by rw[beq_eq_false_iff_ne];omega
 have t29:(((o:Nat):Int)==29)=false:=by rw[beq_eq_false_iff_ne];omega
 have t30:(((o:Nat):Int)==30)=false:=by rw[beq_eq_false_iff_ne];omega
 have t31:(((o:Nat):Int)==31)=false:=by rw[beq_eq_false_iff_ne];omega
 clear e h12 h15 h17 h19 h21 h28 h29 h30 h31;exact z36a
theorem Qp(β:Nat->Nat)(v:PV)(d:Nat)(w:World):(Op.equalIn (d+1) 223 (.pointer (Bq β v)) (.pointer none)).run Tryz.prog w=.ok (v.r==none) w:=by
 have hp:Tryz.prog.underlying 223=some (.pointer 356):=by kernel_rfl
 unfold Bq;cases hr:v.r with
 | none=>simp[Op.equalIn,run_underlying hp]
 | some y=>simp[Op.equalIn,run_underlying hp]
theorem z19a {P:Prop} (h:P:=by
  go_enter Tryz.func294,Tryz.ntmps294;go_wp2;go_ret;refine⟨rfl,?_⟩;exact z03a):P:=h
theorem z39a {P:Prop} (h:P:=by
  have tk:((v.k:Int)==(x.like.k:Int))=(v.k==x.like.k):=cast_eq _ _;rw[hk]at tk;clear hk;have ht2:=Vw v.t x.like.t;rw[ht]at ht2;have hqe:=fun(W:World)=>Qp β v 9998 W;rw[hr]at hqe;unfold Bc B0;exact z19a):P:=h
theorem Aep(x:Kn)(v:PV)(β:Nat->Nat)(w:World)(hw:x.whole=true)(hk:(v.k==x.like.k)=true)(hy:(v.y==x.like.y)=true)(hn:(v.n==x.like.n)=true)(ht:(v.t==x.like.t)=true)(hr:(v.r==none)=true):Calls Tryz.prog 294 #[Bc x,B0 β v] w fun e w'=>e=.returned (.bool true)/\Below w.heap.size w w':=by
 exact z39a
theorem z37a {P:Prop} (h:P:=by
  have tk:((v.k:Int)==(x.like.k:Int))=(v.k==x.like.k):=cast_eq _ _;rw[hk]at tk;clear hk;have hqe:=fun(W:World)=>Qp β v 9998 W;unfold Bc B0;exact z19a):P:=h
theorem Aem(x:Kn)(v:PV)(β:Nat->Nat)(w:World)(hw:x.whole=true)(hk:(v.k==x.like.k)=false):Calls Tryz.prog 294 #[Bc x,B0 β v] w fun e w'=>e=.returned (.bool false)/\Below w.heap.size w w':=by
 exact z37a
theorem Aer(x:Kn)(v:PV)(β:Nat->Nat)(w:World)(hw:x.whole=true)(hk:(v.k==x.like.k)=true)(hy:(v.y==x.like.y)=false):Calls Tryz.prog 294 #[Bc x,B0 β v] w fun e w'=>e=.returned (.bool false)/\Below w.heap.size w w':=by
 exact z37a
theorem Aen(x:Kn)(v:PV)(β:Nat->Nat)(w:World)(hw:x.whole=true)(hk:(v.k==x.like.k)=true)(hy:(v.y==x.like.y)=true)(hn:(v.n==x.like.n)=false):Calls Tryz.prog 294 #[Bc x,B0 β v] w fun e w'=>e=.returned (.bool false)/\Below w.heap.size w w':=by
 exact z37a
theorem Aeq(x:Kn)(v:PV)(β:Nat->Nat)(w:World)(hw:x.whole=true)(hk:(v.k==x.like.k)=true)(hy:(v.y==x.like.y)=true)(hn:(v.n==x.like.n)=true)(ht:(v.t==x.like.t)=false):Calls Tryz.prog 294 #[Bc x,B0 β v] w fun e w'=>e=.returned (.bool false)/\Below w.heap.size w w':=by
 have tk:((v.k:Int)==(x.like.k:Int))=(v.k==x.like.k):=cast_eq _ _;rw[hk]at tk;clear hk;have ht2:=Vw v.t x.like.t;rw[ht]at ht2;have hqe:=fun(W:World)=>Qp β v 9998 W;unfold Bc B0;exact z19a
theorem Aeo(x:Kn)(v:PV)(β:Nat->Nat)(w:World)(hw:x.whole=true)(hk:(v.k==x.like.k)=true)(hy:(v.y==x.like.y)=true)(hn:(v.n==x.like.n)=true)(ht:(v.t==x.like.t)=true)(hr:(v.r==none)=false):Calls Tryz.prog 294 #[Bc x,B0 β v] w fun e w'=>e=.returned (.bool false)/\Below w.heap.size w w':=by
 exact z39a
theorem Ael(x:Kn)(v:PV)(β:Nat->Nat)(w:World)(hw:x.whole=false):Calls Tryz.prog 294 #[Bc x,B0 β v] w fun e w'=>e=.returned (.bool (!x.kind||v.k==x.like.k))/\Below w.heap.size w w':=by
 have hq:=cast_eq v.k x.like.k;generalize (v.k==x.like.k)=q at *;unfold Bc B0;cases hk:x.kind
 ·exact z19a
 ·exact z19a
theorem Aes(x:Kn)(hx:x.like.r=none)(v:PV)(β:Nat->Nat)(w:World):Calls Tryz.prog 294 #[Bc x,B0 β v] w fun e w'=>e=.returned (.bool (x.is v))/\Below w.heap.size w w':=by
 unfold Kn.is;cases hw:x.whole
 ·exact Ael x v β w hw
 ·simp only[if_true];unfold PV.same;rw[hx];cases hk:(v.k==x.like.k)
  ·simp only[Bool.false_and];exact Aem x v β w hw hk
  cases hy:(v.y==x.like.y)
  ·simp only[Bool.true_and,Bool.false_and];exact Aer x v β w hw hk hy
  cases hn:(v.n==x.like.n)
  ·simp only[Bool.true_and,Bool.false_and];exact Aen x v β w hw hk hy hn
  cases ht:(v.t==x.like.t)
  ·simp only[Bool.true_and,Bool.false_and];exact Aeq x v β w hw hk hy hn ht
  cases hr:(v.r==none)
  ·simp only[Bool.true_and];exact Aeo x v β w hw hk hy hn ht hr
  ·simp only[Bool.true_and];exact Aep x v β w hw hk hy hn ht hr
theorem Agx{w:World}{fb:Nat}{sl st:Value}{n:Nat}{ka:Option Addr}{kc:Nat}(h:w.heap[fb]?=some (.cells #[sl,st,.slice ka n kc] 381 (0,0))):Calls Tryz.prog 278 #[.pointer (some ⟨fb,0,none⟩)] w fun e w'=>e=.returned (.int .i64 (n:Nat))/\w'=w:=by
 have c2:=A2 h 2 _ rfl;have lb:=A5 h;clear h;go_enter Tryz.func278,Tryz.ntmps278;exact z0xa
theorem Acs{w:World}{fb:Nat}{sl st:Value}{n:Nat}{ka:Option Addr}{kc:Nat}{ks:List Kn}(h:w.heap[fb]?=some (.cells #[sl,st,.slice ka n kc] 381 (0,0)))(ho:w.ownsRow 0 407 7 (.slice ka n kc) ks.length (C0 En ks))(hk:∀x∈ks,x.like.r=none)(i:Nat)(hi:i<ks.length)(hl:ks.length<=10000)(v:PV)(β:Nat->Nat) :
  Calls Tryz.prog 279 #[.pointer (some ⟨fb,0,none⟩),.int .i64 (i:Nat),B0 β v] w fun e w'=>e=.returned (.bool (ks[i].is v))/\Below w.heap.size w w':=by
 have hv0:=heap_alloc_new w (.cells #[.int .i64 (v.k:Nat),.bool v.y,.int .i64 v.n,.string ⟨v.t.toArray⟩,.pointer (Bq β v)] 225);have h0:=alloc_old (o':=.cells #[.int .i64 (v.k:Nat),.bool v.y,.int .i64 v.n,.string ⟨v.t.toArray⟩,.pointer (Bq β v)] 225) h;have ho0:(w.alloc (.cells #[.int .i64 (v.k:Nat),.bool v.y,.int .i64 v.n,.string ⟨v.t.toArray⟩,.pointer (Bq β v)] 225)).ownsRow 0 407 7 (.slice ka n kc) ks.length (C0 En ks):=B8 ho (fun k _ hl=>Below.heap_alloc _ _ _ hl);have Bj:Below w.heap.size w (w.alloc (.cells #[.int .i64 (v.k:Nat),.bool v.y,.int .i64 v.n,.string ⟨v.t.toArray⟩,.pointer (Bq β v)] 225)):=Below.alloc (Below.refl _ _) (Nat.le_refl _) _;obtain⟨w0,D5⟩:∃w0,w0=w.alloc (.cells #[.int .i64 (v.k:Nat),.bool v.y,.int .i64 v.n,.string ⟨v.t.toArray⟩,.pointer (Bq β v)] 225):=⟨_,rfl⟩;rw[<-D5]at hv0 h0 ho0 Bj;clear h ho;have c2:=A2 h0 2 _ rfl;have lb:=A5 h0;obtain⟨p0,p1,p2,p3,p4,fp,lp⟩:=Mr hv0;have hvn:n=ks.length:=(Cg ho0).1;subst hvn;obtain⟨g,rfl,hvn9,hcap,lg,hcell⟩:=G2 ho0 z51a;clear hvn9;have d0:=hcell (i*7+0) _ ((D6 (sz:=7) (fun _=>rfl) ks i 0 hi z51a).trans rfl);have d1:=hcell (i*7+1) _ ((D6 (sz:=7) (fun _=>rfl) ks i 1 hi z51a).trans rfl);have d2:=hcell (i*7+2) _ ((D6 (sz:=7) (fun _=>rfl) ks i 2 hi z51a).trans rfl);have d3:=hcell (i*7+3) _ ((D6 (sz:=7) (fun _=>rfl) ks i 3 hi z51a).trans rfl);have d4:=hcell (i*7+4) _ ((D6 (sz:=7) (fun _=>rfl) ks i 4 hi z51a).trans rfl);have d5:=hcell (i*7+5) _ ((D6 (sz:=7) (fun _=>rfl) ks i 5 hi z51a).trans rfl);have d6:=hcell (i*7+6) _ ((D6 (sz:=7) (fun _=>rfl) ks i 6 hi z51a).trans rfl);rw[Nat.add_zero]at d0;have HI:=A0 (fun(W:World)=>Aes ks[i] (hk _ (List.getElem_mem hi)) v β W);have Ah:=A0 Bj;have ls0:=Bj.size;have An:=A0 D5;clear h0 hcell ho0 hk Bj hv0 D5;generalize ks[i]=x at *;unfold Bc at HI;unfold B0 at *;go_enter Tryz.func279,Tryz.ntmps279;go_wp2;rw[<-An.o];refine Ic 8 z53a z53a ?_;simp only[List.take_succ_cons,List.take_zero,List.drop_succ_cons,List.drop_zero];iterate 8 (refine Ez (fun K' hK'=>?_);go_simp;refine hK' _ ?_;clear hK' K')
 refine Ib ?_;go_wp2_with fail
 refine(HI.o _).mono ?_;rintro e w1 ⟨rfl,A1⟩;have A4:Hid (Below w.heap.size w w1):=Ah.o.trans (Below.trans (b:=w0.drew) ⟨rfl,rfl,rfl,Nat.le_refl _,fun _ _=>rfl⟩ (A1.mono ls0));clear A1;go_wp2;go_ret;exact⟨rfl,A4.o⟩
theorem Rt{b o:Nat}{w:World}{cs:Array Value}{t:TypeId}{va:Option Addr}{vn vc:Nat}{xs:List Kn}(h:Di 407 7 En b o w cs t va vn vc xs)(hb:xs.length<=1000000)(x:Kn)(hx:x=xs.getLastD Eo):Calls Tryz.prog 300 #[.pointer (some ⟨b,o,none⟩)] w fun e w'=>e=.returned (.agg #[.bool x.kind,.bool x.whole,.int .i64 (x.like.k:Nat),.bool x.like.y,.int .i64 x.like.n,.string ⟨x.like.t.toArray⟩,.pointer none])/\Below w.heap.size w w':=by
 have lb:=A5 h.blk;have HL:=A0 (Rs (h.keep (w':=w.alloc (.cells #[.bool false,.bool false,.int .i64 0,.bool false,.int .i64 0,.string ⟨#[]⟩,.pointer none] 407)) (fun g hg=>Below.heap_alloc _ _ _ hg)));have HA:=A0 (Pb (h.keep (w':=w.alloc (.cells #[.bool false,.bool false,.int .i64 0,.bool false,.int .i64 0,.string ⟨#[]⟩,.pointer none] 407)) (fun g hg=>Below.heap_alloc _ _ _ hg)) ((xs.length:Int)-1) hb x (by rw[hx];exact Qe _ xs));clear h hx;go_enter Tryz.func300,Tryz.ntmps300;go_wp2_with fail
 refine HL.o.mono ?_;rintro e w0 ⟨rfl,D5⟩;subst D5;go_wp2_with fail
 refine HA.o.mono ?_;rintro e w1 ⟨rfl,A1⟩;have hR:=Fu A1 (heap_alloc_new w (.cells #[.bool false,.bool false,.int .i64 0,.bool false,.int .i64 0,.string ⟨#[]⟩,.pointer none] 407));have r0:=A2 hR 0 _ rfl;have r1:=A2 hR 1 _ rfl;have r2:=A2 hR 2 _ rfl;have r3:=A2 hR 3 _ rfl;have r4:=A2 hR 4 _ rfl;have r5:=A2 hR 5 _ rfl;have r6:=A2 hR 6 _ rfl;have fr:=Bh hR;have lr:=A5 hR;have A4:Hid (Below w.heap.size w w1):=(Below.alloc (Below.refl _ _) (Nat.le_refl _) _).trans (A1.mono z56a);clear A1 hR HL HA;go_wp2;refine bodyPost_ret (v:=.agg #[.bool x.kind,.bool x.whole,.int .i64 (x.like.k:Nat),.bool x.like.y,.int .i64 x.like.n,.string ⟨x.like.t.toArray⟩,.pointer none]) (by simp[results,Tryz.results300,go_sem,r0,r1,r2,r3,r4,r5,r6]) rfl ⟨rfl,?_⟩;iterate 7 refine Below.setCell ?_ z56a _
 exact A4.o
end
end Go.Proofs.YtjdlndhfaaolaaaGreatDoor
