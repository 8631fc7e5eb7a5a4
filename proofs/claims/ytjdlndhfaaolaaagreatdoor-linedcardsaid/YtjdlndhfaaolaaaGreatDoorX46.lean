import Derived.Test.YtjdlndhfaaolaaaGreatDoorX43
import Derived.Test.YtjdlndhfaaolaaaGreatDoorX44
set_option maxHeartbeats 20000000
namespace Go.Proofs.YtjdlndhfaaolaaaGreatDoor
section
set_option maxRecDepth 100000
open Go.RowKit
open Go.Deep (BT)
variable {C:MC} {D X:Nat->Prop} {w w':World} {m:MS} {β:Nat->Nat}
theorem MC.Ms.Xj(h:C.Ms D X β w m){k:Nat}(hk:k<m.gl.length):∃g c,w.cell? ⟨C.mb,3,none⟩=some (.slice (some ⟨g,0,none⟩) m.gl.length c)/\g<w.heap.size/\g≠C.mb/\(∀q,dx D X q->q≠g)/\(∀o,w.frozen? ⟨g,o,none⟩=false)/\w.cell? ⟨g,k*5,none⟩=some (.int .i64 (m.gl[k].k:Nat))/\w.cell? ⟨g,k*5+1,none⟩=some (.bool m.gl[k].y)/\w.cell? ⟨g,k*5+2,none⟩=some (.int .i64 m.gl[k].n)/\w.cell? ⟨g,k*5+3,none⟩=some (.string ⟨m.gl[k].t.toArray⟩)/\w.cell? ⟨g,k*5+4,none⟩=some (.pointer (B5 β m.gl[k])):=by
 obtain⟨ρ,s,x,fv,ab,lp,hv⟩:=h;obtain⟨g,e,_,hc,lg,hcell⟩:=Hg hv.gl z4sa;have hn:s.gn=m.gl.length:=(Cf hv.gl).1;have c3:=A7 hv.cell 3 (.slice s.ga s.gn s.gc) rfl;have ho:=hv.glo g (by rw[e];rfl);have hat:∀j u,(By β m.gl[k])[j]?=some u->j<5->w.cell? ⟨g,k*5+j,none⟩=some u:=fun j u hu hj=>hcell (k*5+j) u ((G5 (f:=By β) (sz:=5) (fun _=>rfl) m.gl k j hk hj).trans hu);rw[e,hn]at c3;obtain⟨_,h1|⟨g',cap,cur,hv',_,hg',_⟩⟩:=hv.gl
 ·rw[e]at h1;cases h1.1
 ·rw[e]at hv';injection hv' with e1 _ _;injection e1 with e1;injection e1 with e1 _ _;subst e1;exact⟨g,s.gc,c3,lg,(fun q=>by rw[q,hv.one.1]at ho;cases ho),(fun q hq e=>by have:=(hv.prot q hq).2;rw[e,ho]at this;cases this),Ci hg',hat 0 _ rfl z4sa,hat 1 _ rfl z4sa,hat 2 _ rfl z4sa,hat 3 _ rfl z4sa,hat 4 _ rfl z4sa⟩
theorem A7j(h:C.Ms D X β w m)(i:Af){k:Nat}(ha:i.arg=(k:Nat))(hg:k<m.gl.length)(hn:m.vals.length+1<=90000000000)(hv:Bs m.arr.length m.gl[k]):Calls Tryz.prog 150 #[.pointer (some ⟨C.mb,0,none⟩),Ag i] w (MP C D X β w (m.push m.gl[k]) (.tuple #[])):=by
 obtain⟨w0,Ap,Aq,Ae,Ao,As,n0,n1,n2,n3,n4,n5,n6,n7,ln,lb,C9⟩:=h.Ca i;clear h;obtain⟨g,c,c3,lg,_,_,_,e0,e1,e2,e3,e4⟩:=Aq.o.Xj hg;have HP:=A0 ((Aq.o.Hy).push m.gl[k] hv hn);unfold B3 at HP;clear hv;generalize m.gl[k]=u at *;rw[ha]at n1;have t0:(0:Int)<=(k:Int):=by omega
 have t1:(k:Int)<(m.gl.length:Int):=by omega
 unfold Ag;rw[ha]at Ap As ⊢;clear ha;go_enter Tryz.func150,Tryz.ntmps150;go_wp2;rw[←Ap.o];refine Jr 11 z4va z4va ?_;simp only[List.take_succ_cons,List.take_zero,List.drop_succ_cons,List.drop_zero];iterate 11 (refine F4 (fun K' hK'=>?_);go_simp;refine hK' _ ?_;clear hK' K')
 exact z1ta
theorem MC.Ms.Agf(h:C.Ms D X β w m){v3:Value}(h3:w.cell? ⟨C.mb,3,none⟩=some v3):Calls Tryz.prog 197 #[.pointer (some ⟨C.mb,4,none⟩)] w fun e w'=>MP C D X β w m.pop (B3 β m.top) e w'/\w'.cell? ⟨C.mb,3,none⟩=some v3:=by
 obtain⟨ρ,s,x,fv,ab,lp,h⟩:=h;have c3:=(A7 h.cell 3 (.slice s.ga s.gn s.gc) rfl).symm.trans h3;refine(A50 h.Mj (by have:=h.Bz.1;omega) z5pa m.top rfl).mono ?_;rintro e w1 ⟨rfl,hp⟩;have hq:=h.W0 hp;rw[Zf]at hq;refine⟨⟨rfl,hq⟩,?_⟩;rw[←c3];exact A7 hp.1.blk 3 _ z5pa
theorem MC.Ms.Ahc(h:C.Ms D X β w m){k g c:Nat}(hk:k<m.gl.length)(hc:w.cell? ⟨C.mb,3,none⟩=some (.slice (some ⟨g,0,none⟩) m.gl.length c))(v:PV)(hv:Bs m.arr.length v):C.Ms D X β (w.setCells g (k*5) (By β v)) { m with gl:=m.gl.set k v }/\A2 (dx D X) w (w.setCells g (k*5) (By β v)):=by
 obtain⟨ρ,s,x,fv,ab,lp,h⟩:=h;have c3:=(A7 h.cell 3 (.slice s.ga s.gn s.gc) rfl).symm.trans hc;injection c3 with c3;injection c3 with e1 e2 e3;have ho:=h.glo g (by rw[e1];rfl);have hgl:=h.gl;rw[e1,e2,e3]at hgl;have hne:g≠C.mb:=fun q=>by rw[q,h.one.1]at ho;cases ho
 obtain⟨f1,f2,f3,f4,f5⟩:=N7 g (By β v) (k*5) w;have hch:G7 3 ρ w (w.setCells g (k*5) (By β v)):=⟨f1,f2,f3,Nat.le_of_eq f4.symm,fun q _ h1 h2=>f5 q (fun e=>h2 (by rw[e];exact ho))⟩;have hput:=A28 (f:=By β) (sz:=5) hgl (fun _=>rfl) k hk v;refine⟨⟨_,{ s with ga:=some ⟨g,0,none⟩,gn:=(m.gl.set k v).length,gc:=c },x,fv,ab,lp,h.Z2 hch ?_ hput ?_ h.now ?_⟩,h.Gg hch z4sa⟩
 ·rw[f5 _ (fun e=>hne e.symm),h.cell,List.length_set,←e1,←e2,←e3]
 ·intro q hq;left;rw[e1];exact hq
 ·intro u hu;rcases List.mem_or_eq_of_mem_set hu with q|q
  ·exact h.vv.2.1 u q
  ·rw[q];exact hv
theorem Akh{w:World}{a:Addr}{g g' n n' c c':Nat}(h:w.cell? a=some (.slice (some ⟨g,0,none⟩) n c))(h':w.cell? a=some (.slice (some ⟨g',0,none⟩) n' c')):g'=g:=by
 rw[h]at h';injection h' with h';injection h' with h' _ _;injection h' with h';injection h' with h' _ _;exact h'.symm
theorem A13{w:World}{g q o0 o1 o2 o3 o4:Nat}(v0 v1 v2 v3 v4:Value)(h:q≠g):(((((w.setCell ⟨g,o0,none⟩ v0).setCell ⟨g,o1,none⟩ v1).setCell ⟨g,o2,none⟩ v2).setCell ⟨g,o3,none⟩ v3).setCell ⟨g,o4,none⟩ v4).heap[q]?=w.heap[q]?:=
 ((((Below.heap_setCell _ _ _ _ h).trans (Below.heap_setCell _ _ _ _ h)).trans (Below.heap_setCell _ _ _ _ h)).trans (Below.heap_setCell _ _ _ _ h)).trans (Below.heap_setCell _ _ _ _ h)
theorem Ad6{w:World}{g o0 o1 o2 o3 o4:Nat}{v0 v1 v2 v3 v4:Value}:(((((w.setCell ⟨g,o0,none⟩ v0).setCell ⟨g,o1,none⟩ v1).setCell ⟨g,o2,none⟩ v2).setCell ⟨g,o3,none⟩ v3).setCell ⟨g,o4,none⟩ v4).heap.size=w.heap.size:=by simp
theorem Xf(w:World)(g o:Nat)(v:PV)(β:Nat->Nat):w.setCells g o (By β v)=((((w.setCell ⟨g,o,none⟩ (.int .i64 (v.k:Nat))).setCell ⟨g,o+1,none⟩ (.bool v.y)).setCell ⟨g,o+2,none⟩ (.int .i64 v.n)).setCell ⟨g,o+3,none⟩ (.string ⟨v.t.toArray⟩)).setCell ⟨g,o+4,none⟩ (.pointer (B5 β v)):=rfl
theorem A87(h:C.Ms D X β w m)(i:Af){k:Nat}(ha:i.arg=(k:Nat))(hg:k<m.gl.length)(hv:Bs m.arr.length m.top):Calls Tryz.prog 152 #[.pointer (some ⟨C.mb,0,none⟩),Ag i] w (MP C D X β w { m.pop with gl:=m.gl.set k m.top } (.tuple #[])):=by
 obtain⟨w0,Ap,Aq,Ae,Ao,As,n0,n1,n2,n3,n4,n5,n6,n7,ln,lb,C9⟩:=h.Ca i;clear h;obtain⟨g,c,c3,_⟩:=Aq.o.Xj hg;have HPr:=A0 (Aq.o.Hy.Agf (v3:=.slice (some ⟨g,0,none⟩) m.gl.length c) c3);have HG:=A0 (fun(W:World) (hs:C.Ms D (Cu X w) β W m.pop)=>hs.Xj (k:=k) hg);have HU:=A0 (fun(W:World) (hs:C.Ms D (Cu X w) β W m.pop) (hc:W.cell? ⟨C.mb,3,none⟩=some (.slice (some ⟨g,0,none⟩) m.gl.length c))=>hs.Ahc (k:=k) hg hc m.top hv);rw[ha]at n1;have t0:(0:Int)<=(k:Int):=by omega
 have t1:(k:Int)<(m.gl.length:Int):=by omega
 unfold Ag;rw[ha]at Ap As ⊢;unfold B3 at HPr;clear hv;generalize hu9:m.top=u at *;clear ha hu9;go_enter Tryz.func152,Tryz.ntmps152;go_wp2;rw[←Ap.o];go_region_held3 (fun V:World=>C.mb<V.heap.size/\w.heap.size<V.heap.size/\V.cell? ⟨C.mb,3,none⟩=some (.slice (some ⟨g,0,none⟩) m.gl.length c)/\V.cell? ⟨w.heap.size,1,none⟩=some (.int .i64 (k:Int))) (first|(rw[Ad6];exact⟨Bk,Is,(World.cell?_of_block (A13 _ _ _ _ _ (Ne.symm ng1))).trans c31,(World.cell?_of_block (A13 _ _ _ _ _ pg)).trans n11⟩)|exact⟨Bk,Is,c31,n11⟩|exact⟨C9,ln,c3,n1⟩) (first|(go_at_call 197;refine HPr.o.mono ?_;rintro e w1 ⟨⟨rfl,h1,k1⟩,c31⟩;have Bk:=h1.At;have Ad:=(k1.block _ Ao.o).trans As.o;have n11:=A7 Ad 1 _ rfl;have Is:=A6 Ad;obtain⟨g',c',c3',lg1,ng1,pg1,fg1,e0,e1,e2,e3,e4⟩:=HG.o w1 h1;have hgg:=Akh c31 c3';have pg:=pg1 _ Ao.o;rw[hgg]at lg1 ng1 pg fg1 e0 e1 e2 e3 e4;clear c3' hgg pg1;have HU1:=A0 (HU.o w1 h1 c31);have A4:Hid (A2 (dx D X) w w1):=Ae.o.trans ((Dk _ w0 1).trans (Ac k1));clear h1 k1 Ad))
 go_wp2;go_end0;rw[←Xf];exact⟨rfl,HU1.o.1.back,A4.o.trans (Ac HU1.o.2)⟩
theorem MC.Ms.Ahb(h:C.Ms D X β w m){r k g c:Nat}(hr:r<m.arr.length)(hk:k<m.arr[r].length)(hc:w.cell? ⟨β r,0,none⟩=some (.slice (some ⟨g,0,none⟩) m.arr[r].length c))(v:PV)(hv:Bs m.arr.length v):C.Ms D X β (w.setCells g (k*5) (By β v)) { m with arr:=m.arr.set r (m.arr[r].set k v) }/\A2 (dx D X) w (w.setCells g (k*5) (By β v)):=by
 obtain⟨ρ,s,x,fv,ab,lp,h⟩:=h;have hl:=h.arr.len;obtain⟨a1,a2,a3,a4⟩:=h.arr.at' r z4sa hr;have c0:=(A7 a1 0 _ rfl).symm.trans hc;have c1:Kx (ab[r]'z4sa)=.slice (some ⟨g,0,none⟩) m.arr[r].length c:=by injection c0
 rw[c1]at a2;have hg:=a4 g (by rw[c1];rfl);obtain⟨f1,f2,f3,f4,f5⟩:=N7 g (By β v) (k*5) w;have hput:=A28 (f:=By β) (sz:=5) a2 (fun _=>rfl) k hk v;have hne:β r≠g:=fun e=>by rw[e,hg]at a3;omega
 have hs:(m.arr[r].set k v).length=m.arr[r].length:=by simp
 have hq:=h.A3k (w':=w.setCells g (k*5) (By β v)) hr f1 f2 f3 (Nat.le_of_eq f4.symm) (fun q _ _ h8=>f5 q (fun e=>h8 (by rw[e];exact hg))) (nb:=(some ⟨g,0,none⟩,(m.arr[r].set k v).length,c)) (l:=m.arr[r].set k v) (by rw[f5 _ hne,a1,c1];unfold Kx;rw[hs]) hput (fun q hq=>.inl (by rw[c1];exact hq)) (fun u hu=>by
  rcases List.mem_or_eq_of_mem_set hu with q|q
  ·exact h.vv.2.2 _ (List.getElem_mem hr) u q
  ·rw[q];exact hv)
 exact⟨⟨_,s,x,fv,_,lp,hq.1⟩,hq.2⟩
theorem A85(h:C.Ms D X β w m)(i:Af)(Gs:m.pop.pop.top.k≠4):Calls Tryz.prog 165 #[.pointer (some ⟨C.mb,0,none⟩),Ag i] w (MP C D X β w (m.pop.pop.pop.fail 5 i) (.tuple #[])):=by
 obtain⟨w0,Ap,Aq,Ae,Ao,As,n0,n1,n2,n3,n4,n5,n6,n7,ln,lb,C9⟩:=h.Ca i;clear h;have HP:=A0 Aq.o.pop;have t4:(((m.pop.pop.top.k:Nat):Int) !=4)=true:=by rw[bne_iff_ne];omega
 clear Gs;generalize m.top=v at *;unfold Ag;go_enter Tryz.func165,Tryz.ntmps165;go_wp2_with fail
 rw[←Ap.o];refine HP.o.mono ?_;rintro e w1 ⟨rfl,h1,k1⟩;obtain⟨h1e,be1,Dm⟩:=h1.enter (.cells #[.int .i64 (v.k:Nat),.bool v.y,.int .i64 v.n,.string ⟨v.t.toArray⟩,.pointer (B5 β v)] 225);have G3:=heap_alloc_new w1 (.cells #[.int .i64 (v.k:Nat),.bool v.y,.int .i64 v.n,.string ⟨v.t.toArray⟩,.pointer (B5 β v)] 225);obtain⟨wa,hwa⟩:∃wa,wa=w1.alloc (.cells #[.int .i64 (v.k:Nat),.bool v.y,.int .i64 v.n,.string ⟨v.t.toArray⟩,.pointer (B5 β v)] 225):=⟨_,rfl⟩;rw[←hwa]at h1e be1 G3;have HWa:=A0 hwa;have Bk:=h1.At;have HT:=A0 (Fe h1e);generalize m.pop.top=p at *;generalize m.pop.pop.top=u at *;have hxi:dx D (Cu (Cu X w) w1) w.heap.size:=Ao.o.imp id (fun q=>.inl q);have hia:=(be1.block _ Ao.o).trans ((k1.block _ Ao.o).trans As.o);have A4:Hid (A2 (dx D X) w wa):=(Ae.o.trans (Ac k1)).trans (Ac be1);have lba:=h1e.At;clear hwa h1 k1 h1e be1 HP n0 n1 n2 n3 n4 n5 n6 n7 ln;obtain⟨n0,n1,n2,n3,n4,n5,n6,n7,ln⟩:=Bj hia;unfold B3;unfold B3 at HT;go_wp2_with fail
 rw[←HWa.o];go_wp2_with fail
 refine HT.o.mono ?_;rintro e w2 ⟨rfl,h2,k2⟩;have Bl:=(k2.block _ hxi).trans hia;have Fk:=(k2.block _ Dm).trans G3;have Aa:Hid (A2 (dx D X) w w2):=A4.o.trans (Ac (Ac k2));have Ah:=A0 h2;have Eb:=h2.At;clear h2 k2 hia G3 HT n0 n1 n2 n3 n4 n5 n6 n7 ln;obtain⟨n0,n1,n2,n3,n4,n5,n6,n7,ln⟩:=Bj Bl;have HF:=A0 (fun(V:World) (hb:Below w2.heap.size w2 V)=>And.intro (I6 (Ah.o.below hb).1 5 i) (Aa.o.trans (Ac (Ac (Ah.o.below hb).2))));unfold Ag at HF;go_wp2_with fail
 refine((HF.o _ z4ua).1).mono ?_;rintro e w3 ⟨rfl,h3,k3⟩;have Be:=A0 h3.back.back;have Ay:Hid (A2 (dx D X) w w3):=(HF.o _ z4ua).2.trans (Ac (Ac k3));clear h3 k3;go_wp2;refine bodyPost_ret (v:=.tuple #[]) (by simp[results,Tryz.results165,go_sem]) rfl ?_;exact z4qa
theorem T5(h:C.Ms D X β w m)(i:Af)(Gs:m.pop.pop.top.k=4){m':MS}(hp:∀X' W,C.Ms D X' β W m.pop.pop.pop->Calls Tryz.prog 211 #[.pointer (some ⟨C.mb,0,none⟩),B3 β m.pop.pop.top,B3 β m.pop.top,Ag i] W (MP C D X' β W m' (.bool false))):Calls Tryz.prog 165 #[.pointer (some ⟨C.mb,0,none⟩),Ag i] w (MP C D X β w m' (.tuple #[])):=by
 obtain⟨w0,Ap,Aq,Ae,Ao,As,n0,n1,n2,n3,n4,n5,n6,n7,ln,lb,C9⟩:=h.Ca i;clear h;have HP:=A0 Aq.o.pop;have t4:(((m.pop.pop.top.k:Nat):Int) !=4)=false:=by rw[Gs];rfl
 have HH:=A0 hp;unfold Ag at HH;clear Gs hp;generalize m.top=v at *;unfold Ag;go_enter Tryz.func165,Tryz.ntmps165;go_wp2_with fail
 rw[←Ap.o];refine HP.o.mono ?_;rintro e w1 ⟨rfl,h1,k1⟩;obtain⟨h1e,be1,Dm⟩:=h1.enter (.cells #[.int .i64 (v.k:Nat),.bool v.y,.int .i64 v.n,.string ⟨v.t.toArray⟩,.pointer (B5 β v)] 225);have G3:=heap_alloc_new w1 (.cells #[.int .i64 (v.k:Nat),.bool v.y,.int .i64 v.n,.string ⟨v.t.toArray⟩,.pointer (B5 β v)] 225);obtain⟨wa,hwa⟩:∃wa,wa=w1.alloc (.cells #[.int .i64 (v.k:Nat),.bool v.y,.int .i64 v.n,.string ⟨v.t.toArray⟩,.pointer (B5 β v)] 225):=⟨_,rfl⟩;rw[←hwa]at h1e be1 G3;have HWa:=A0 hwa;have Bk:=h1.At;have HT:=A0 (Fe h1e);generalize m.pop.top=p at *;generalize m.pop.pop.top=u at *;have hxi:dx D (Cu (Cu X w) w1) w.heap.size:=Ao.o.imp id (fun q=>.inl q);have hia:=(be1.block _ Ao.o).trans ((k1.block _ Ao.o).trans As.o);have A4:Hid (A2 (dx D X) w wa):=(Ae.o.trans (Ac k1)).trans (Ac be1);have lba:=h1e.At;clear hwa h1 k1 h1e be1 HP n0 n1 n2 n3 n4 n5 n6 n7 ln;obtain⟨n0,n1,n2,n3,n4,n5,n6,n7,ln⟩:=Bj hia;unfold B3;unfold B3 at HT;go_wp2_with fail
 rw[←HWa.o];go_wp2_with fail
 refine HT.o.mono ?_;rintro e w2 ⟨rfl,h2,k2⟩;have Bl:=(k2.block _ hxi).trans hia;have Fk:=(k2.block _ Dm).trans G3;have Aa:Hid (A2 (dx D X) w w2):=A4.o.trans (Ac (Ac k2));have Ah:=A0 h2;have Eb:=h2.At;clear h2 k2 hia G3 HT n0 n1 n2 n3 n4 n5 n6 n7 ln;obtain⟨n0,n1,n2,n3,n4,n5,n6,n7,ln⟩:=Bj Bl;unfold B3 at HH;have HH2:=A0 (fun(V:World) (hb:Below w2.heap.size w2 V)=>And.intro (HH.o _ V (Ah.o.below hb).1) (Aa.o.trans (Ac (Ac (Ah.o.below hb).2))));clear HH;go_wp2_with fail
 refine((HH2.o _ z4ua).1).mono ?_;rintro e w3 ⟨rfl,h3,k3⟩;have Be:=A0 h3.back.back;have Ay:Hid (A2 (dx D X) w w3):=(HH2.o _ z4ua).2.trans (Ac (Ac k3));clear h3 k3;go_wp2;go_end0;exact z4qa
theorem Afo{w:World}{T:TypeId}{sz n g c n':Nat}{xs:List Value}(h:w.ownsRow 0 T sz (.slice (some ⟨g,0,none⟩) n' c) n xs):∀o,w.frozen? ⟨g,o,none⟩=false:=by
 obtain⟨_,h1|⟨g',cap,cur,hv',_,hg',_⟩⟩:=h
 ·cases h1.1
 ·injection hv' with e1 _ _;injection e1 with e1;injection e1 with e1 _ _;subst e1;exact Ci hg'
theorem A84(h:C.Ms D X β w m)(i:Af){r k:Nat}(hr:m.pop.pop.top.r=some r)(hra:r<m.arr.length)(Gs:m.pop.pop.top.k=4)(C7:m.pop.top.k=2)(hkn:m.pop.top.n=(k:Nat))(hki:k<m.arr[r].length)(hvv:Bs m.arr.length m.top):Calls Tryz.prog 165 #[.pointer (some ⟨C.mb,0,none⟩),Ag i] w (MP C D X β w { m.pop.pop.pop with arr:=m.arr.set r (m.arr[r].set k m.top) } (.tuple #[])):=by
 obtain⟨w0,Ap,Aq,Ae,Ao,As,n0,n1,n2,n3,n4,n5,n6,n7,ln,lb,C9⟩:=h.Ca i;clear h;have HP:=A0 Aq.o.pop;have t4:(((m.pop.pop.top.k:Nat):Int) !=4)=false:=by rw[Gs];rfl
 have hs:Fh m.pop.pop.pop m.pop.pop.top=.tuple #[.int .i64 (m.arr[r].length:Nat),.bool true]:=by
  exact z25a
 have hvu:Bs m.arr.length m.pop.pop.top:=by unfold Bs;rw[hr];exact⟨Gs,hra⟩
 have HH:=A0 (fun(X':Nat->Prop) (W:World) (hs':C.Ms D X' β W m.pop.pop.pop)=>Xz hs' m.pop.pop.top m.pop.top i hvu hs C7 z4sa z4sa);have HA:Hid (∀(X':Nat->Prop) (W:World),C.Ms D X' β W m.pop.pop.pop->∃a c,W.cell? ⟨β r,0,none⟩=some (.slice a m.arr[r].length c)/\β r<W.heap.size/\W.ownsRow 0 225 5 (.slice a m.arr[r].length c) m.arr[r].length (C5 (By β) m.arr[r])):=fun X' W hs'=>hs'.Vr hra;have HU:Hid (∀(X':Nat->Prop) (W:World) (g c:Nat),C.Ms D X' β W m.pop.pop.pop->W.cell? ⟨β r,0,none⟩=some (.slice (some ⟨g,0,none⟩) m.arr[r].length c)->C.Ms D X' β (W.setCells g (k*5) (By β m.top)) { m.pop.pop.pop with arr:=m.arr.set r (m.arr[r].set k m.top) }/\A2 (dx D X') W (W.setCells g (k*5) (By β m.top))):=fun X' W g c hs' hc=>hs'.Ahb hra hki hc m.top hvv;have er:B5 β m.pop.pop.top=some ⟨β r,0,none⟩:=by unfold B5;rw[hr]
 unfold Ag at HH;clear hr Gs C7 hs hvu hvv;have t1:(0:Int)<=(k:Int):=by omega
 have t2:(k:Int)<(m.arr[r].length:Int):=by omega
 generalize hL:m.arr[r]=L at *;generalize m.top=v at *;unfold Ag;go_enter Tryz.func165,Tryz.ntmps165;go_wp2_with fail
 rw[←Ap.o];refine HP.o.mono ?_;rintro e w1 ⟨rfl,h1,k1⟩;obtain⟨h1e,be1,Dm⟩:=h1.enter (.cells #[.int .i64 (v.k:Nat),.bool v.y,.int .i64 v.n,.string ⟨v.t.toArray⟩,.pointer (B5 β v)] 225);have G3:=heap_alloc_new w1 (.cells #[.int .i64 (v.k:Nat),.bool v.y,.int .i64 v.n,.string ⟨v.t.toArray⟩,.pointer (B5 β v)] 225);obtain⟨wa,hwa⟩:∃wa,wa=w1.alloc (.cells #[.int .i64 (v.k:Nat),.bool v.y,.int .i64 v.n,.string ⟨v.t.toArray⟩,.pointer (B5 β v)] 225):=⟨_,rfl⟩;rw[←hwa]at h1e be1 G3;have HWa:=A0 hwa;have Bk:=h1.At;have HT:=A0 (Fe h1e);unfold B3 at HT;rw[er,hkn]at HT;generalize m.pop.top=p at *;generalize m.pop.pop.top=u at *;have hxi:dx D (Cu (Cu X w) w1) w.heap.size:=Ao.o.imp id (fun q=>.inl q);have hia:=(be1.block _ Ao.o).trans ((k1.block _ Ao.o).trans As.o);have A4:Hid (A2 (dx D X) w wa):=(Ae.o.trans (Ac k1)).trans (Ac be1);have lba:=h1e.At;clear hwa h1 k1 h1e be1 HP n0 n1 n2 n3 n4 n5 n6 n7 ln;obtain⟨n0,n1,n2,n3,n4,n5,n6,n7,ln⟩:=Bj hia;unfold B3;go_wp2_with fail
 rw[←HWa.o];go_wp2_with fail
 refine HT.o.mono ?_;rintro e w2 ⟨rfl,h2,k2⟩;have Bl:=(k2.block _ hxi).trans hia;have Fk:=(k2.block _ Dm).trans G3;have Aa:Hid (A2 (dx D X) w w2):=A4.o.trans (Ac (Ac k2));have Ah:=A0 h2;have Eb:=h2.At;clear h2 k2 hia G3 HT n0 n1 n2 n3 n4 n5 n6 n7 ln;obtain⟨n0,n1,n2,n3,n4,n5,n6,n7,ln⟩:=Bj Bl;unfold B3 at HH;rw[er,hkn]at HH;obtain⟨W,hW,z0,z1,hbW,hsW⟩:=Zi w2 (.cells #[.int .i64 (u.k:Nat),.bool u.y,.int .i64 u.n,.string ⟨u.t.toArray⟩,.pointer (some ⟨β r,0,none⟩)] 225) (.cells #[.int .i64 (p.k:Nat),.bool p.y,.int .i64 (k:Nat),.string ⟨p.t.toArray⟩,.pointer (B5 β p)] 225);have HW:=A0 hW;have HH2:=A0 (HH.o _ W (Ah.o.below hbW).1);have HBe:=A0 (fun(V:World) (hb:Below W.heap.size W V)=>And.intro (Ah.o.below (hbW.trans (hb.mono hbW.size))) (hbW.trans (hb.mono hbW.size)));have lv2:=A6 Fk;have li2:=A6 Bl;clear hW hbW HH;go_wp2_with fail
 rw[←HW.o];refine HH2.o.mono ?_;rintro e w3 ⟨rfl,Ar⟩;have q0:=(Ar.block _ z4sa).trans z0;have q1:=(Ar.block _ z4sa).trans z1;obtain⟨⟨s1,s2⟩,s3⟩:=HBe.o w3 Ar;have qv:=(s3.block _ lv2).trans Fk;obtain⟨a,c,c0,lr,ho⟩:=HA.o _ w3 s1;obtain⟨g,ea,_,hcp,lg,hcell⟩:=Hg ho z4sa;subst ea;obtain⟨y0,e0⟩:=Rz (f:=By β) (sz:=5) ho k 0 hki z4sa;obtain⟨y1,e1⟩:=Rz (f:=By β) (sz:=5) ho k 1 hki z4sa;obtain⟨y2,e2⟩:=Rz (f:=By β) (sz:=5) ho k 2 hki z4sa;obtain⟨y3,e3⟩:=Rz (f:=By β) (sz:=5) ho k 3 hki z4sa;obtain⟨y4,e4⟩:=Rz (f:=By β) (sz:=5) ho k 4 hki z4sa;rw[Nat.add_zero]at e0;have fg:∀o,w3.frozen? ⟨g,o,none⟩=false:=Afo ho;have HU3:=A0 (HU.o _ _ g c s1 c0);have Ay:Hid (A2 (dx D X) w w3):=Aa.o.trans (Ac (Ac s2));clear n0 n1 n2 n3 n4 n5 n6 n7 ln;obtain⟨u0,u1,u2,u3,u4,lu⟩:=Jb q0;obtain⟨p0,p1,p2,p3,p4,lp⟩:=Jb q1;obtain⟨v0,v1,v2,v3,v4,lv⟩:=Jb qv;have lb3:=s1.At;clear Ar q0 q1 qv s1 s2 s3 ho hcell HBe HH2 HU HA z0 z1 Fk Bl;go_wp2;refine Jr 9 z4va z4va ?_;simp only[List.take_succ_cons,List.take_zero,List.drop_succ_cons,List.drop_zero];iterate 9 (refine F4 (fun K' hK'=>?_);go_simp;refine hK' _ ?_;clear hK' K')
 refine Jq ?_;go_wp2;go_end0;rw[←Xf];exact⟨rfl,HU3.o.1.Hy.back.back,Ay.o.trans ((Ac (Ac HU3.o.2)).trans (Dk _ _ 1))⟩
theorem A7g(h:C.Ms D X β w m)(i:Af){n:Nat}(hi:i.arg=(n:Nat))(hc:500<m.cells+n)(h5:m.cells<=500):Calls Tryz.prog 161 #[.pointer (some ⟨C.mb,0,none⟩),Ag i] w (MP C D X β w (m.fail 10 i) (.tuple #[])):=by
 obtain⟨w0,Ap,Aq,Ae,Ao,As,n0,n1,n2,n3,n4,n5,n6,n7,ln,lb,C9⟩:=h.Ca i;clear h;have HR:=A0 (fun(W:World) (hb:Below w0.heap.size w0 W)=>And.intro (A20 (Aq.o.below hb).1 n i hc h5) (Ae.o.trans (Ac (Aq.o.below hb).2)));unfold Ag at HR;unfold Ag;rw[hi]at HR Ap n1 ⊢;clear hc h5 hi;go_enter Tryz.func161,Tryz.ntmps161;go_wp2_with fail
 rw[←Ap.o];go_wp2_with fail
 refine((HR.o _ z4ua).1).mono ?_;rintro e w2 ⟨rfl,h2,k2⟩;have Ah:=A0 h2.back;have Aa:Hid (A2 (dx D X) w w2):=(HR.o _ z4ua).2.trans (Ac k2);clear h2 k2;go_wp2;refine bodyPost_ret (v:=.tuple #[]) (by simp[results,Tryz.results161,go_sem]) rfl ?_;exact z4aa
theorem MC.Ms.plt(h:C.Ms D X β w m):∀g,dx D X g->g<w.heap.size:=by
 obtain⟨ρ,s,x,fv,ab,lp,h⟩:=h;exact fun g hg=>(h.prot g hg).1
theorem MC.Ms.vvl(h:C.Ms D X β w m):∀v∈m.vals,Bs m.arr.length v:=by
 obtain⟨ρ,s,x,fv,ab,lp,h⟩:=h;exact h.vv.1
theorem Afi(p:Option Addr)(w:World):Calls Tryz.prog 208 #[.pointer p] w fun e w'=>e=.returned (.agg #[.int .i64 4,.bool false,.int .i64 0,.string ⟨#[]⟩,.pointer p])/\Below w.heap.size w w':=by
 go_enter Tryz.func208,Tryz.ntmps208;go_wp2;refine bodyPost_ret (v:=.agg #[.int .i64 4,.bool false,.int .i64 0,.string ⟨#[]⟩,.pointer p]) (by simp[results,Tryz.results208,go_sem]) rfl ⟨rfl,?_⟩;exact z0ua
def Mz(m:MS)(n:Nat):List PV:=(List.range n).map (fun(j:Nat)=>m.at' ((m.vals.length:Int)-n+j))
theorem Adw{m:MS}{k n:Nat}(h:∀v∈m.vals,Bs k v):∀v∈Mz m n,Bs k v:=by
 intro v hv;obtain⟨j,_,rfl⟩:=List.mem_map.1 hv;have hz:Bs k Bp:=by show(0:Nat)≠4;omega
 unfold MS.at';split
 ·exact hz
 ·rename_i hn;cases hq:m.vals[((m.vals.length:Int)-n+j).toNat]? with
  | none=>exact hz
  | some x=>exact h x (List.mem_of_getElem? hq)
def Zu(C:MC)(D X Y:Nat->Prop)(β:Nat->Nat)(w:World)(m:MS)(n rb:Nat)(its:List PV)(k:Nat)(v:Value)(wr:World):Prop:=
 ∃j:Nat,v=.int .i64 j/\j+k=n/\C.Ms D Y β wr m/\Jv 225 5 (By β) rb wr n (its.take j)/\wr.heap[rb+1]?=some (.cells #[.slice (some ⟨rb,0,none⟩) n n] 356 (0,0))/\A2 (dx D X) w wr
def AL(C:MC)(D X:Nat->Prop)(β:Nat->Nat)(w:World)(k:Nat)(m':MS)(e:Ending)(w':World):Prop:=e=.returned (.tuple #[])/\∃b,C.Ms D X (Mr β k b) w' m'/\A2 (dx D X) w w'
theorem A7h(h:C.Ms D X β w m)(i:Af){n:Nat}(hi:i.arg=(n:Nat))(hc:m.cells+n<=500)(hn:m.vals.length<=85000000000):Calls Tryz.prog 161 #[.pointer (some ⟨C.mb,0,none⟩),Ag i] w (AL C D X β w m.arr.length (MS.push (Oi m.arr.length) { (MS.cut ((m.vals.length:Int)-n) { m with cells:=m.cells+n }) with arr:=m.arr++[Mz m n] })):=by
 obtain⟨w0,Ap,Aq,Ae,Ao,As,n0,n1,n2,n3,n4,n5,n6,n7,ln,lb,C9⟩:=h.Ca i;clear h;have HR:=A0 (A21 Aq.o n i hc);have hn5:n<=500:=by omega
 unfold Ag at HR;unfold Ag;rw[hi]at HR Ap n1 As ⊢;clear hc;go_enter Tryz.func161,Tryz.ntmps161;go_wp2_with fail
 rw[←Ap.o];go_wp2_with fail
 refine HR.o.mono ?_;rintro e w1 ⟨rfl,h1,k1⟩;have Ad:=(k1.block _ Ao.o).trans As.o;have A4:Hid (A2 (dx D X) w w1):=Ae.o.trans (Ac k1);have A8:=A0 h1;have G8:=A0 h1.Hy.len;have Bk:=h1.At;clear n0 n1 n2 n3 n4 n5 n6 n7 ln h1 k1;obtain⟨n0,n1,n2,n3,n4,n5,n6,n7,ln⟩:=Bj Ad;have hw9:IntKind.i64.wrap ((m.vals.length:Int)-(n:Nat))=(m.vals.length:Int)-(n:Nat):=by rw[IntKind.wrap_i64];omega
 go_wp2;go_region_law (refine Fg rfl 98 _ _ rfl #[.pointer (some ⟨C.mb,4,none⟩)] z4va G8.o ?_;rintro e w2 ⟨rfl,Fx⟩;subst Fx;refine⟨_,rfl,?_⟩)
 all_goals
  obtain⟨wm,hwm⟩:∃wm,wm=w1.drew.alloc (.cells (madeCells (Value.agg #[.int .i64 0,.bool false,.int .i64 0,.string ⟨#[]⟩,.pointer none]).cells (n*5)) 225):=⟨_,rfl⟩;have hmk:(Instr.makeSlice 158 (.int .i64 (n:Int)) (.int .i64 (n:Int))).run Tryz.prog w1.drew=.ok (.slice (some ⟨w1.heap.size,0,none⟩) n n) wm:=by
   rw[hwm];exact Tw (P:=Tryz.prog) 158 225 (.agg #[.int .i64 0,.bool false,.int .i64 0,.string ⟨#[]⟩,.pointer none]) 5 48 Tryz.underlying158 Tn .i64 .i64 n z4sa z4sa w1.drew
  have hrn:Jv 225 5 (By β) w1.heap.size wm n ([]:List PV):=by rw[hwm];exact Jv.start (T:=225) (sz:=5) (f:=By β) w1.drew _ n
  have hbm:Below w1.heap.size w1.drew wm:=by rw[hwm];exact Below.alloc (Below.refl _ _) (show w1.heap.size<=w1.drew.heap.size from Nat.le_refl _) _
  have hsm:wm.heap.size=w1.heap.size+1:=by rw[hwm,World.size_alloc];rfl
  clear hwm;have Bv:Below w1.heap.size w1 w1.drew:=⟨rfl,rfl,rfl,Nat.le_refl _,fun _ _=>rfl⟩;obtain⟨W,hW⟩:∃W,W=wm.alloc (.cells #[.slice (some ⟨w1.heap.size,0,none⟩) n n] 356):=⟨_,rfl⟩;have hbW:Below w1.heap.size w1 W:=by rw[hW];exact Below.alloc (Bv.trans hbm) z4sa _
  have hsW:W.heap.size=w1.heap.size+2:=by rw[hW];simp;omega
  have hhd:W.heap[w1.heap.size+1]?=some (.cells #[.slice (some ⟨w1.heap.size,0,none⟩) n n] 356 (0,0)):=by rw[hW,←hsm];exact heap_alloc_new wm _
  have hrW:Jv 225 5 (By β) w1.heap.size W n ([]:List PV):=hrn.keep (by rw[hW];exact Below.heap_alloc _ _ _ z4sa);have hMW:=A8.o.more hbW;have HRel:Hid (Zu C D X (fun g=>Cu X w g\/(w1.heap.size<=g/\g<W.heap.size)) β w { m with cells:=m.cells+n } n w1.heap.size (Mz m n) n (.int .i64 0) W):=⟨0,rfl,by omega,hMW,by simpa using hrW,hhd,A4.o.trans (Ac (A8.o.below hbW).2)⟩;have HDl:Hid (∀g,dx D (Cu X w) g->g<w1.heap.size):=A8.o.plt;have HW:=A0 hW;have hil:(Mz m n).length=n:=by simp[Mz]
  have hix:∀j,j<n->∃x,(Mz m n)[j]?=some x/\MS.at' { m with cells:=m.cells+n } ((m.vals.length:Int)-n+j)=x:=fun j hj=>⟨m.at' ((m.vals.length:Int)-n+j),by unfold Mz;rw[List.getElem?_map,List.getElem?_range hj];rfl,rfl⟩;have HIx:=A0 hix;have HIl:=A0 hil;clear hW hbW hhd hrW hMW hrn Bv hix hil;go_wp2;rw[←HW.o];go_loopg [30] n (fun k v wr=>Zu C D X (fun g=>Cu X w g\/(w1.heap.size<=g/\g<W.heap.size)) β w { m with cells:=m.cells+n } n w1.heap.size (Mz m n) k v wr)
  case atStart=>exact HRel.o
  case round=>
   obtain⟨j,rfl,hjk,hms,hrow,hhd,hbd⟩:=hrel;by_cases hlt:j<n
   ·obtain⟨x,Dm,Fc⟩:=HIx.o j hlt;have hw10:IntKind.i64.wrap ((m.vals.length:Int)-(n:Nat)+(j:Nat))=(m.vals.length:Int)-(n:Nat)+(j:Nat):=by rw[IntKind.wrap_i64];omega
    have hat:=hms.Hy.at' ((m.vals.length:Int)-(n:Nat)+(j:Nat));rw[Fc]at hat;unfold B3 at hat;have HAt:=A0 hat;have c0:=A7 hhd 0 _ rfl;have l0:=A6 hhd;have lmb:=hms.At;have HMs:=A0 hms;have HRow:=A0 hrow;have HHd:=A0 hhd;have HBd:=A0 hbd;have Gz:=A0 Dm;have hsW':=hsW;have hY0:(fun g=>Cu X w g\/(w1.heap.size<=g/\g<W.heap.size)) w1.heap.size:=.inr ⟨Nat.le_refl _,by omega⟩;have hY1:(fun g=>Cu X w g\/(w1.heap.size<=g/\g<W.heap.size)) (w1.heap.size+1):=.inr ⟨by omega,by omega⟩;have HY0:=A0 hY0;have HY1:=A0 hY1;clear hat hms hrow hhd hbd Dm Fc hY0 hY1 hsW';go_wp2;go_region_law (refine Fg rfl 195 _ _ rfl #[.pointer (some ⟨C.mb,4,none⟩),.int .i64 ((m.vals.length:Int)-(n:Nat)+(j:Nat))] z4va HAt.o ?_;rintro e w5 ⟨rfl,h5,k5⟩;refine⟨_,rfl,?_⟩;have hhd5:=(k5.block _ (.inr HY1.o)).trans HHd.o;have c5:=A7 hhd5 0 _ rfl;have l5:=A6 hhd5;have hrow5:=HRow.o.keep (k5.block _ (.inr HY0.o));have fz5:=hrow5.frozen;obtain⟨v0,y0⟩:=hrow5.cells j 0 hlt z4sa;obtain⟨v1,y1⟩:=hrow5.cells j 1 hlt z4sa;obtain⟨v2,y2⟩:=hrow5.cells j 2 hlt z4sa;obtain⟨v3,y3⟩:=hrow5.cells j 3 hlt z4sa;obtain⟨v4,y4⟩:=hrow5.cells j 4 hlt z4sa;rw[Nat.add_zero]at y0;have HMs5:=A0 h5;have HRow5:=A0 hrow5;have HHd5:=A0 hhd5;have HBd5:Hid (A2 (dx D X) w w5):=HBd.o.trans ((Dk _ wr 1).trans (k5.weak (fun _ hg=>hg.imp id (fun q=>.inl (.inl q)))));clear h5 k5 hhd5 hrow5)
    all_goals
     go_wp2;rw[←Xf w5 w1.heap.size (j*5) x β];go_roundg (gk-1)
     case measure=>omega
     case rel=>
      obtain⟨q1,q2,q3,q4,q5⟩:=N7 w1.heap.size (By β x) (j*5) w5;have hjl:((Mz m n).take j).length=j:=by rw[List.length_take,HIl.o];omega
      refine⟨j+1,rfl,by omega,HMs5.o.less (fun _ q=>q) (fun g _ hyd=>q5 g (fun e=>?_)) q4,?_,(q5 _ z4sa).trans HHd5.o,HBd5.o.trans ⟨q1,q2,q3,by omega,fun g hg=>q5 g (fun e=>?_)⟩⟩
      ·have:=HDl.o _ (.inl (hyd (by rw[e];exact HY0.o)));omega
      ·have hp:=HRow5.o.put (fun _=>rfl) (by rw[hjl];exact hlt) x;rw[hjl]at hp;rw[List.take_add_one,Gz.o];exact hp
      ·have:=HDl.o g (hg.imp id .inl);omega
   ·have hjn:j=n:=by omega
    rw[List.take_of_length_le (by rw[HIl.o];omega)]at hrow;have HCt:=A0 (hms.cut ((m.vals.length:Int)-(n:Nat)));have hvv:=hms.vvl;have lmb:=hms.At;have HRow:=A0 hrow;have HHd:=A0 hhd;have HBd:=A0 hbd;clear hms hrow hhd hbd;go_wp2_with fail
    refine HCt.o.mono ?_;rintro e w6 ⟨rfl,h6,k6⟩;have hY0:dx D (fun g=>Cu X w g\/(w1.heap.size<=g/\g<W.heap.size)) w1.heap.size:=.inr (.inr ⟨Nat.le_refl _,by omega⟩);have hY1:dx D (fun g=>Cu X w g\/(w1.heap.size<=g/\g<W.heap.size)) (w1.heap.size+1):=.inr (.inr ⟨by omega,by omega⟩);have hrow6:=(HRow.o.keep (k6.block _ hY0)).done (fun _=>rfl) HIl.o z4sa;have hhd6:=(k6.block _ hY1).trans HHd.o;have hD:∀k,w1.heap.size<=k->¬D k/\¬Cu X w k:=fun k hk=>⟨fun q=>by have:=HDl.o k (.inl q);omega,fun q=>by have:=HDl.o k (.inr q);omega⟩;have hadd:=h6.A6s (X:=Cu X w) (b:=w1.heap.size+1) (rb:=w1.heap.size) (l:=Mz m n) (fun _ q=>.inl q) ⟨.inr ⟨by omega,by omega⟩,hD _ z4sa⟩ ⟨.inr ⟨Nat.le_refl _,by omega⟩,hD _ (Nat.le_refl _)⟩ z4sa (by rw[HIl.o];exact hhd6) (by rw[HIl.o]at hrow6 ⊢;exact hrow6) (Adw hvv);have er:B5 (Mr β m.arr.length (w1.heap.size+1)) (Oi m.arr.length)=some ⟨w1.heap.size+1,0,none⟩:=by simp[B5,Oi,Mr]
    have ep:B3 (Mr β m.arr.length (w1.heap.size+1)) (Oi m.arr.length)=.agg #[.int .i64 4,.bool false,.int .i64 0,.string ⟨#[]⟩,.pointer (some ⟨w1.heap.size+1,0,none⟩)]:=by unfold B3;rw[er];rfl
    have HP:=A0 (fun(V:World) (hb:Below w6.heap.size w6 V)=>(hadd.below hb).1.push (Oi m.arr.length) (by show(4:Nat)=4/\m.arr.length<(m.arr++[_]).length;simp) (by show(MS.cut _ _).vals.length+1<=90000000000;unfold MS.cut;split <;> simp <;> omega));rw[show(MS.cut ((m.vals.length:Int)-(n:Nat)) { m with cells:=m.cells+n }).arr=m.arr from rfl,ep]at HP;have HB:=A0 (fun(V:World) (hb:Below w6.heap.size w6 V)=>(HBd.o.trans (k6.weak (fun _ hg=>hg.imp id (fun q=>.inl (.inl q))))).trans (Ac (hadd.below hb).2));have lb6:=h6.At;clear h6 k6 hrow6 hhd6 hadd ep er hY0 hY1 hD HCt;go_wp2;go_region_law (first
     | (refine Fg rfl 99 _ _ rfl #[.pointer (some ⟨C.mb,4,none⟩),.agg #[.int .i64 4,.bool false,.int .i64 0,.string ⟨#[]⟩,.pointer (some ⟨w1.heap.size+1,0,none⟩)]] z4va Bo.o ?_;rintro e w8 ⟨rfl,h8,k8⟩;refine⟨_,rfl,?_⟩;have HS8:=A0 h8.back;have HB8:Hid (A2 (dx D X) w w8):=HB1'.o.trans (Ac k8);clear h8 k8)
     | (refine Fg rfl 208 _ _ rfl #[.pointer (some ⟨w1.heap.size+1,0,none⟩)] z4va (Afi _ _) ?_;rintro e w7 ⟨rfl,hb1'⟩;refine⟨_,rfl,?_⟩;have A1:=Q3 hb1';have Bo:=A0 (HP.o w7 A1);have HB1':=A0 (HB.o w7 A1);have lb7:=A1.size;clear A1 hb1'))
    all_goals go_wp2
    all_goals go_end0
    all_goals exact⟨rfl,_,HS8.o,HB8.o⟩
end
end Go.Proofs.YtjdlndhfaaolaaaGreatDoor
