import Derived.Test.YtjdlndhfaaolaaaGreatDoorY38
import Derived.Test.YtjdlndhfaaolaaaGreatDoorY39
set_option maxHeartbeats 20000000
set_option linter.all false
namespace Go.Proofs.YtjdlndhfaaolaaaGreatDoor
section
set_option maxRecDepth 100000
open Go.RowKit
open Go.Deep (BT)
variable {C:MC} {D X:Nat->Prop} {w w':World} {m:MS} {β:Nat->Nat}
def MC.Ms.glc(h:C.Ms D X β w m){k:Nat}(hk:k<m.gl.length):∃g c,w.cell? ⟨C.mb,3,none⟩=some (.slice (some ⟨g,0,none⟩) m.gl.length c)/\g<w.heap.size/\g≠C.mb/\(∀q,dx D X q->q≠g)/\(∀o,w.frozen? ⟨g,o,none⟩=false)/\w.cell? ⟨g,k*5,none⟩=some (.n (m.gl[k].k))/\w.cell? ⟨g,k*5+1,none⟩=some (.bool m.gl[k].y)/\w.cell? ⟨g,k*5+2,none⟩=some (.i m.gl[k].n)/\w.cell? ⟨g,k*5+3,none⟩=some (.string ⟨m.gl[k].t.toArray⟩)/\w.cell? ⟨g,k*5+4,none⟩=some (.pointer (Bf β m.gl[k])):=by
 obtain⟨ρ,s,x,fv,ab,lp,hv⟩:=h;obtain⟨g,e,_,hc,lg,hcell⟩:=G1 hv.gl z4ma;have hn:s.gn=m.gl.length:=(Cm hv.gl).1;have c3:=A4 hv.cell 3 (.slice s.ga s.gn s.gc) rfl;have ho:=hv.glo g (by rw[e];rfl);have hat:∀j u,(Cj β m.gl[k])[j]?=some u->j<5->w.cell? ⟨g,k*5+j,none⟩=some u:=fun j u hu hj=>hcell (k*5+j) u ((D8 (f:=Cj β) (sz:=5) (fun _=>rfl) m.gl k j hk hj).trans hu);rw[e,hn]at c3;obtain⟨_,h1|⟨g',cap,cur,hv',_,hg',_⟩⟩:=hv.gl
 ·rw[e]at h1;cases h1.1
 ·rw[e]at hv';injection hv' with e1 _ _;injection e1 with e1;injection e1 with e1 _ _;subst e1;exact⟨g,s.gc,c3,lg,(fun q=>by rw[q,hv.one.1]at ho;cases ho),(fun q hq e=>by have:=(hv.prot q hq).2;rw[e,ho]at this;cases this),By hg',hat 0 _ rfl z4ma,hat 1 _ rfl z4ma,hat 2 _ rfl z4ma,hat 3 _ rfl z4ma,hat 4 _ rfl z4ma⟩
def Adg(h:C.Ms D X β w m)(i:Aa){k:Nat}(ha:i.arg=(k:Nat))(hg:k<m.gl.length)(hn:m.vals.length+1<=90000000000)(hv:Ca m.arr.length m.gl[k]):Calls Tryz.prog 150 #[.p C.mb,Ac i] w (MP C D X β w (m.push m.gl[k]) (.tuple #[])):=by
 obtain⟨w0,As,Av,Ag,Ao,Aw,n0,n1,n2,n3,n4,n5,n6,n7,ln,lb,C9⟩:=h.Ci i;obtain⟨g,c,c3,lg,_,_,_,e0,e1,e2,e3,e4⟩:=Av.o.glc hg;have HP:=(Av.o.J6).push m.gl[k] hv hn;unfold B7 at HP;generalize m.gl[k]=u at *;rw[ha]at n1;have t0:(0:Int)<=(k:Int):=by omega
 have t1:(k:Int)<(m.gl.length:Int):=by omega
 unfold Ac;rw[ha]at As Aw ⊢;go_in;go_wp2;rw[←As.o];refine Jt 11 z4pa z4pa ?_;simp only[Jh,J1,Ia,Hl];iterate 11 (refine Fm (fun K' hK'=>?_);go_simp;refine hK' _ ?_;clear hK' K')
 exact z1va
def MC.Ms.Aol(h:C.Ms D X β w m){v3:Value}(h3:w.cell? ⟨C.mb,3,none⟩=some v3):Calls Tryz.prog 197 #[.pointer (some ⟨C.mb,4,none⟩)] w fun e w'=>MP C D X β w m.pop (B7 β m.top) e w'/\w'.cell? ⟨C.mb,3,none⟩=some v3:=by
 obtain⟨ρ,s,x,fv,ab,lp,h⟩:=h;have c3:=(A4 h.cell 3 (.slice s.ga s.gn s.gc) rfl).symm.trans h3;refine(Aaa h.Ol (by have:=h.C1.1;omega) z5na m.top rfl).mono ?_;rintro e w1 ⟨rfl,hp⟩;have hq:=h.A01 hp;rw[A2l]at hq;refine⟨⟨rfl,hq⟩,?_⟩;rw[←c3];exact A4 hp.1.blk 3 _ z5na
def MC.Ms.Apg(h:C.Ms D X β w m){k g c:Nat}(hk:k<m.gl.length)(hc:w.cell? ⟨C.mb,3,none⟩=some (.slice (some ⟨g,0,none⟩) m.gl.length c))(v:PV)(hv:Ca m.arr.length v):C.Ms D X β (w.setCells g (k*5) (Cj β v)) { m with gl:=m.gl.set k v }/\A3 (dx D X) w (w.setCells g (k*5) (Cj β v)):=by
 obtain⟨ρ,s,x,fv,ab,lp,h⟩:=h;have c3:=(A4 h.cell 3 (.slice s.ga s.gn s.gc) rfl).symm.trans hc;injection c3 with c3;injection c3 with e1 e2 e3;have ho:=h.glo g (by rw[e1];rfl);have hgl:=h.gl;rw[e1,e2,e3]at hgl;have hne:g≠C.mb:=fun q=>by rw[q,h.one.1]at ho;cases ho
 obtain⟨f1,f2,f3,f4,f5⟩:=N0 g (Cj β v) (k*5) w;have hch:Hq 3 ρ w (w.setCells g (k*5) (Cj β v)):=⟨f1,f2,f3,A3l f4.symm,fun q _ h1 h2=>f5 q (fun e=>h2 (by rw[e];exact ho))⟩;have hput:=A1v (f:=Cj β) (sz:=5) hgl (fun _=>rfl) k hk v;refine⟨⟨_,{ s with ga:=some ⟨g,0,none⟩,gn:=(m.gl.set k v).length,gc:=c },x,fv,ab,lp,h.A29 hch ?_ hput ?_ h.now ?_⟩,h.Fv hch z4ma⟩
 ·rw[f5 _ (fun e=>hne e.symm),h.cell,Lc,←e1,←e2,←e3]
 ·intro q hq;left;rw[e1];exact hq
 ·intro u hu;rcases O6 hu with q|q
  ·exact h.vv.2.1 u q
  ·rw[q];exact hv
def Asp{w:World}{a:Addr}{g g' n n' c c':Nat}(h:w.cell? a=some (.slice (some ⟨g,0,none⟩) n c))(h':w.cell? a=some (.slice (some ⟨g',0,none⟩) n' c')):g'=g:=by
 rw[h]at h';injection h' with h';injection h' with h' _ _;injection h' with h';injection h' with h' _ _;exact h'.symm
def A6h{w:World}{g q o0 o1 o2 o3 o4:Nat}(v0 v1 v2 v3 v4:Value)(h:q≠g):(((((w.setCell ⟨g,o0,none⟩ v0).setCell ⟨g,o1,none⟩ v1).setCell ⟨g,o2,none⟩ v2).setCell ⟨g,o3,none⟩ v3).setCell ⟨g,o4,none⟩ v4).heap[q]?=w.heap[q]?:=
 ((((Bh _ _ _ _ h).trans (Bh _ _ _ _ h)).trans (Bh _ _ _ _ h)).trans (Bh _ _ _ _ h)).trans (Bh _ _ _ _ h)
def Ak0{w:World}{g o0 o1 o2 o3 o4:Nat}{v0 v1 v2 v3 v4:Value}:(((((w.setCell ⟨g,o0,none⟩ v0).setCell ⟨g,o1,none⟩ v1).setCell ⟨g,o2,none⟩ v2).setCell ⟨g,o3,none⟩ v3).setCell ⟨g,o4,none⟩ v4).heap.size=w.heap.size:=by simp
def A17(w:World)(g o:Nat)(v:PV)(β:Nat->Nat):w.setCells g o (Cj β v)=((((w.setCell ⟨g,o,none⟩ (.n v.k)).setCell ⟨g,o+1,none⟩ (.bool v.y)).setCell ⟨g,o+2,none⟩ (.i v.n)).setCell ⟨g,o+3,none⟩ (.s v.t)).setCell ⟨g,o+4,none⟩ (.pointer (Bf β v)):=rfl
def Ae9(h:C.Ms D X β w m)(i:Aa){k:Nat}(ha:i.arg=(k:Nat))(hg:k<m.gl.length)(hv:Ca m.arr.length m.top):Calls Tryz.prog 152 #[.p C.mb,Ac i] w (MP C D X β w { m.pop with gl:=m.gl.set k m.top } (.tuple #[])):=by
 obtain⟨w0,As,Av,Ag,Ao,Aw,n0,n1,n2,n3,n4,n5,n6,n7,ln,lb,C9⟩:=h.Ci i;obtain⟨g,c,c3,_⟩:=Av.o.glc hg;have HPr:=Av.o.J6.Aol (v3:=.slice (some ⟨g,0,none⟩) m.gl.length c) c3;have HG:=fun(W:World) (hs:C.Ms D (Dd X w) β W m.pop)=>hs.glc (k:=k) hg;have HU:=fun(W:World) (hs:C.Ms D (Dd X w) β W m.pop) (hc:W.cell? ⟨C.mb,3,none⟩=some (.slice (some ⟨g,0,none⟩) m.gl.length c))=>hs.Apg (k:=k) hg hc m.top hv;rw[ha]at n1;have t0:(0:Int)<=(k:Int):=by omega
 have t1:(k:Int)<(m.gl.length:Int):=by omega
 unfold Ac;rw[ha]at As Aw ⊢;unfold B7 at HPr;generalize hu9:m.top=u at *;go_in;go_wp2;rw[←As.o];go_region_held3 (fun V:World=>C.mb<V.heap.size/\w.heap.size<V.heap.size/\V.cell? ⟨C.mb,3,none⟩=some (.slice (some ⟨g,0,none⟩) m.gl.length c)/\V.cell? ⟨w.heap.size,1,none⟩=some (.i (k:Int))) (first|(rw[Ak0];exact⟨Bn,Jy,(D9 (A6h _ _ _ _ _ (N4 ng1))).trans c31,(D9 (A6h _ _ _ _ _ pg)).trans n11⟩)|exact⟨Bn,Jy,c31,n11⟩|exact⟨C9,ln,c3,n1⟩) (first|(go_at_call 197;refine HPr.mono ?_;rintro e w1 ⟨⟨rfl,h1,k1⟩,c31⟩;have Bn:=h1.B3;have An:=(k1.block _ Ao.o).trans Aw.o;have n11:=A4 An 1 _ rfl;have Jy:=A6 An;obtain⟨g',c',c3',lg1,ng1,pg1,fg1,e0,e1,e2,e3,e4⟩:=HG w1 h1;have hgg:=Asp c31 c3';have pg:=pg1 _ Ao.o;rw[hgg]at lg1 ng1 pg fg1 e0 e1 e2 e3 e4;clear c3' hgg pg1;have HU1:=A0 (HU w1 h1 c31);have A9:Hid (A3 (dx D X) w w1):=Ag.o.trans ((Eb _ w0 1).trans (Ae k1));clear h1 k1 An))
 go_wp2;go_end0;rw[←A17];exact⟨rfl,HU1.o.1.back,A9.o.trans (Ae HU1.o.2)⟩
def MC.Ms.Apf(h:C.Ms D X β w m){r k g c:Nat}(hr:r<m.arr.length)(hk:k<m.arr[r].length)(hc:w.cell? ⟨β r,0,none⟩=some (.slice (some ⟨g,0,none⟩) m.arr[r].length c))(v:PV)(hv:Ca m.arr.length v):C.Ms D X β (w.setCells g (k*5) (Cj β v)) { m with arr:=m.arr.set r (m.arr[r].set k v) }/\A3 (dx D X) w (w.setCells g (k*5) (Cj β v)):=by
 obtain⟨ρ,s,x,fv,ab,lp,h⟩:=h;have hl:=h.arr.len;obtain⟨a1,a2,a3,a4⟩:=h.arr.at' r z4ma hr;have c0:=(A4 a1 0 _ rfl).symm.trans hc;have c1:Nc (ab[r]'z4ma)=.slice (some ⟨g,0,none⟩) m.arr[r].length c:=by injection c0
 rw[c1]at a2;have hg:=a4 g (by rw[c1];rfl);obtain⟨f1,f2,f3,f4,f5⟩:=N0 g (Cj β v) (k*5) w;have hput:=A1v (f:=Cj β) (sz:=5) a2 (fun _=>rfl) k hk v;have hne:β r≠g:=fun e=>by rw[e,hg]at a3;omega
 have hs:(m.arr[r].set k v).length=m.arr[r].length:=by simp
 have hq:=h.A91 (w':=w.setCells g (k*5) (Cj β v)) hr f1 f2 f3 (A3l f4.symm) (fun q _ _ h8=>f5 q (fun e=>h8 (by rw[e];exact hg))) (nb:=(some ⟨g,0,none⟩,(m.arr[r].set k v).length,c)) (l:=m.arr[r].set k v) (by rw[f5 _ hne,a1,c1];unfold Nc;rw[hs]) hput (fun q hq=>.inl (by rw[c1];exact hq)) (fun u hu=>by
  rcases O6 hu with q|q
  ·exact h.vv.2.2 _ (Ho hr) u q
  ·rw[q];exact hv)
 exact⟨⟨_,s,x,fv,_,lp,hq.1⟩,hq.2⟩
def Ae7(h:C.Ms D X β w m)(i:Aa)(Jk:m.pop.pop.top.k≠4):Calls Tryz.prog 165 #[.p C.mb,Ac i] w (MP C D X β w (m.pop.pop.pop.fail 5 i) (.tuple #[])):=by
 obtain⟨w0,As,Av,Ag,Ao,Aw,n0,n1,n2,n3,n4,n5,n6,n7,ln,lb,C9⟩:=h.Ci i;clear h;have HP:=A0 Av.o.pop;have t4:(((m.pop.pop.top.k:Nat):Int) !=4)=true:=by rw[P8];omega
 clear Jk;generalize m.top=v at *;unfold Ac;go_in;go_wp2_with fail
 rw[←As.o];refine HP.o.mono ?_;rintro e w1 ⟨rfl,h1,k1⟩;obtain⟨h1e,be1,Er⟩:=h1.enter (.cells #[.n v.k,.bool v.y,.i v.n,.s v.t,.pointer (Bf β v)] 225);have Hg:=Bp w1 (.cells #[.n v.k,.bool v.y,.i v.n,.s v.t,.pointer (Bf β v)] 225);obtain⟨wa,hwa⟩:∃wa,wa=w1.alloc (.cells #[.n v.k,.bool v.y,.i v.n,.s v.t,.pointer (Bf β v)] 225):=⟨_,rfl⟩;rw[←hwa]at h1e be1 Hg;have HWa:=A0 hwa;have Bn:=h1.B3;have HT:=F1 h1e;generalize m.pop.top=p at *;generalize m.pop.pop.top=u at *;have hxi:dx D (Dd (Dd X w) w1) w.heap.size:=Ao.o.imp id (fun q=>.inl q);have hia:=(be1.block _ Ao.o).trans ((k1.block _ Ao.o).trans Aw.o);have A9:A3 (dx D X) w wa:=(Ag.o.trans (Ae k1)).trans (Ae be1);have lba:=h1e.B3;clear hwa h1 k1 h1e be1 HP n0 n1 n2 n3 n4 n5 n6 n7 ln;obtain⟨n0,n1,n2,n3,n4,n5,n6,n7,ln⟩:=Bi hia;unfold B7;unfold B7 at HT;go_wp2_with fail
 rw[←HWa.o];go_wp2_with fail
 refine HT.mono ?_;rintro e w2 ⟨rfl,h2,k2⟩;have Ct:=(k2.block _ hxi).trans hia;have Iv:=(k2.block _ Er).trans Hg;have Ab:A3 (dx D X) w w2:=A9.trans (Ae (Ae k2));have Au:=A0 h2;have Ed:=h2.B3;clear h2 k2 hia Hg HT n0 n1 n2 n3 n4 n5 n6 n7 ln;obtain⟨n0,n1,n2,n3,n4,n5,n6,n7,ln⟩:=Bi Ct;have HF:=fun(V:World) (hb:Bw w2 V)=>C3 (Ih (Au.o.below hb).1 5 i) (Ab.trans (Ae (Ae (Au.o.below hb).2)));unfold Ac at HF;go_wp2_with fail
 refine((HF _ z4na).1).mono ?_;rintro e w3 ⟨rfl,h3,k3⟩;have Bu:=A0 h3.back.back;have Ba:A3 (dx D X) w w3:=(HF _ z4na).2.trans (Ae (Ae k3));clear h3 k3;go_wp2;refine B9 (v:=.tuple #[]) (by simp[results,Tryz.results165,go_sem]) rfl ?_;exact⟨rfl,Bu.o,Ba⟩
def Xn(h:C.Ms D X β w m)(i:Aa)(Jk:m.pop.pop.top.k=4){m':MS}(hp:∀X' W,C.Ms D X' β W m.pop.pop.pop->Calls Tryz.prog 211 #[.p C.mb,B7 β m.pop.pop.top,B7 β m.pop.top,Ac i] W (MP C D X' β W m' (.bool false))):Calls Tryz.prog 165 #[.p C.mb,Ac i] w (MP C D X β w m' (.tuple #[])):=by
 obtain⟨w0,As,Av,Ag,Ao,Aw,n0,n1,n2,n3,n4,n5,n6,n7,ln,lb,C9⟩:=h.Ci i;clear h;have HP:=A0 Av.o.pop;have t4:(((m.pop.pop.top.k:Nat):Int) !=4)=false:=by rw[Jk];rfl
 have HH:=A0 hp;unfold Ac at HH;clear Jk hp;generalize m.top=v at *;unfold Ac;go_in;go_wp2_with fail
 rw[←As.o];refine HP.o.mono ?_;rintro e w1 ⟨rfl,h1,k1⟩;obtain⟨h1e,be1,Er⟩:=h1.enter (.cells #[.n v.k,.bool v.y,.i v.n,.s v.t,.pointer (Bf β v)] 225);have Hg:=Bp w1 (.cells #[.n v.k,.bool v.y,.i v.n,.s v.t,.pointer (Bf β v)] 225);obtain⟨wa,hwa⟩:∃wa,wa=w1.alloc (.cells #[.n v.k,.bool v.y,.i v.n,.s v.t,.pointer (Bf β v)] 225):=⟨_,rfl⟩;rw[←hwa]at h1e be1 Hg;have HWa:=A0 hwa;have Bn:=h1.B3;have HT:=F1 h1e;generalize m.pop.top=p at *;generalize m.pop.pop.top=u at *;have hxi:dx D (Dd (Dd X w) w1) w.heap.size:=Ao.o.imp id (fun q=>.inl q);have hia:=(be1.block _ Ao.o).trans ((k1.block _ Ao.o).trans Aw.o);have A9:A3 (dx D X) w wa:=(Ag.o.trans (Ae k1)).trans (Ae be1);have lba:=h1e.B3;clear hwa h1 k1 h1e be1 HP n0 n1 n2 n3 n4 n5 n6 n7 ln;obtain⟨n0,n1,n2,n3,n4,n5,n6,n7,ln⟩:=Bi hia;unfold B7;unfold B7 at HT;go_wp2_with fail
 rw[←HWa.o];go_wp2_with fail
 refine HT.mono ?_;rintro e w2 ⟨rfl,h2,k2⟩;have Ct:=(k2.block _ hxi).trans hia;have Iv:=(k2.block _ Er).trans Hg;have Ab:A3 (dx D X) w w2:=A9.trans (Ae (Ae k2));have Au:=A0 h2;have Ed:=h2.B3;clear h2 k2 hia Hg HT n0 n1 n2 n3 n4 n5 n6 n7 ln;obtain⟨n0,n1,n2,n3,n4,n5,n6,n7,ln⟩:=Bi Ct;unfold B7 at HH;have HH2:=fun(V:World) (hb:Bw w2 V)=>C3 (HH.o _ V (Au.o.below hb).1) (Ab.trans (Ae (Ae (Au.o.below hb).2)));clear HH;go_wp2_with fail
 refine((HH2 _ z4na).1).mono ?_;rintro e w3 ⟨rfl,h3,k3⟩;have Bu:=A0 h3.back.back;have Ba:A3 (dx D X) w w3:=(HH2 _ z4na).2.trans (Ae (Ae k3));clear h3 k3;exact z4la
def An0{w:World}{T:TypeId}{sz n g c n':Nat}{xs:List Value}(h:w.ownsRow 0 T sz (.slice (some ⟨g,0,none⟩) n' c) n xs):∀o,w.frozen? ⟨g,o,none⟩=false:=by
 obtain⟨_,h1|⟨g',cap,cur,hv',_,hg',_⟩⟩:=h
 ·cases h1.1
 ·injection hv' with e1 _ _;injection e1 with e1;injection e1 with e1 _ _;subst e1;exact By hg'
def Ae6(h:C.Ms D X β w m)(i:Aa){r k:Nat}(hr:m.pop.pop.top.r=some r)(hra:r<m.arr.length)(Jk:m.pop.pop.top.k=4)(D4:m.pop.top.k=2)(hkn:m.pop.top.n=(k:Nat))(hki:k<m.arr[r].length)(hvv:Ca m.arr.length m.top):Calls Tryz.prog 165 #[.p C.mb,Ac i] w (MP C D X β w { m.pop.pop.pop with arr:=m.arr.set r (m.arr[r].set k m.top) } (.tuple #[])):=by
 obtain⟨w0,As,Av,Ag,Ao,Aw,n0,n1,n2,n3,n4,n5,n6,n7,ln,lb,C9⟩:=h.Ci i;clear h;have HP:=A0 Av.o.pop;have t4:(((m.pop.pop.top.k:Nat):Int) !=4)=false:=by rw[Jk];rfl
 have hs:Gj m.pop.pop.pop m.pop.pop.top=.tuple #[.n (m.arr[r].length),.bool true]:=by
  exact z2ga
 have hvu:Ca m.arr.length m.pop.pop.top:=by unfold Ca;rw[hr];exact⟨Jk,hra⟩
 have HH:=fun(X':Nat->Prop) (W:World) (hs':C.Ms D X' β W m.pop.pop.pop)=>A1r hs' m.pop.pop.top m.pop.top i hvu hs D4 z4ma z4ma;have HA:∀(X':Nat->Prop) (W:World),C.Ms D X' β W m.pop.pop.pop->∃a c,W.cell? ⟨β r,0,none⟩=some (.slice a m.arr[r].length c)/\β r<W.heap.size/\W.ownsRow 0 225 5 (.slice a m.arr[r].length c) m.arr[r].length (C0 (Cj β) m.arr[r]):=fun X' W hs'=>hs'.n9 hra;have HU:∀(X':Nat->Prop) (W:World) (g c:Nat),C.Ms D X' β W m.pop.pop.pop->W.cell? ⟨β r,0,none⟩=some (.slice (some ⟨g,0,none⟩) m.arr[r].length c)->C.Ms D X' β (W.setCells g (k*5) (Cj β m.top)) { m.pop.pop.pop with arr:=m.arr.set r (m.arr[r].set k m.top) }/\A3 (dx D X') W (W.setCells g (k*5) (Cj β m.top)):=fun X' W g c hs' hc=>hs'.Apf hra hki hc m.top hvv;have er:Bf β m.pop.pop.top=some ⟨β r,0,none⟩:=by unfold Bf;rw[hr]
 unfold Ac at HH;clear hr Jk D4 hs hvu hvv;have t1:(0:Int)<=(k:Int):=by omega
 have t2:(k:Int)<(m.arr[r].length:Int):=by omega
 generalize hL:m.arr[r]=L at *;generalize m.top=v at *;unfold Ac;go_in;go_wp2_with fail
 rw[←As.o];refine HP.o.mono ?_;rintro e w1 ⟨rfl,h1,k1⟩;obtain⟨h1e,be1,Er⟩:=h1.enter (.cells #[.n v.k,.bool v.y,.i v.n,.s v.t,.pointer (Bf β v)] 225);have Hg:=Bp w1 (.cells #[.n v.k,.bool v.y,.i v.n,.s v.t,.pointer (Bf β v)] 225);obtain⟨wa,hwa⟩:∃wa,wa=w1.alloc (.cells #[.n v.k,.bool v.y,.i v.n,.s v.t,.pointer (Bf β v)] 225):=⟨_,rfl⟩;rw[←hwa]at h1e be1 Hg;have HWa:=A0 hwa;have Bn:=h1.B3;have HT:=F1 h1e;unfold B7 at HT;rw[er,hkn]at HT;generalize m.pop.top=p at *;generalize m.pop.pop.top=u at *;have hxi:dx D (Dd (Dd X w) w1) w.heap.size:=Ao.o.imp id (fun q=>.inl q);have hia:=(be1.block _ Ao.o).trans ((k1.block _ Ao.o).trans Aw.o);have A9:A3 (dx D X) w wa:=(Ag.o.trans (Ae k1)).trans (Ae be1);have lba:=h1e.B3;clear hwa h1 k1 h1e be1 HP n0 n1 n2 n3 n4 n5 n6 n7 ln;obtain⟨n0,n1,n2,n3,n4,n5,n6,n7,ln⟩:=Bi hia;unfold B7;go_wp2_with fail
 rw[←HWa.o];go_wp2_with fail
 refine HT.mono ?_;rintro e w2 ⟨rfl,h2,k2⟩;have Ct:=(k2.block _ hxi).trans hia;have Iv:=(k2.block _ Er).trans Hg;have Ab:A3 (dx D X) w w2:=A9.trans (Ae (Ae k2));have Au:=A0 h2;have Ed:=h2.B3;clear h2 k2 hia Hg HT n0 n1 n2 n3 n4 n5 n6 n7 ln;obtain⟨n0,n1,n2,n3,n4,n5,n6,n7,ln⟩:=Bi Ct;unfold B7 at HH;rw[er,hkn]at HH;obtain⟨W,hW,z0,z1,hbW,hsW⟩:=A2t w2 (.cells #[.n u.k,.bool u.y,.i u.n,.s u.t,.p (β r)] 225) (.cells #[.n p.k,.bool p.y,.n k,.s p.t,.pointer (Bf β p)] 225);have HW:=A0 hW;have HH2:=HH _ W (Au.o.below hbW).1;have HBe:=fun(V:World) (hb:Bw W V)=>C3 (Au.o.below (hbW.trans (hb.mono hbW.size))) (hbW.trans (hb.mono hbW.size));have lv2:=A6 Iv;have li2:=A6 Ct;clear hW hbW HH;go_wp2_with fail
 rw[←HW.o];refine HH2.mono ?_;rintro e w3 ⟨rfl,Ay⟩;have q0:=(Ay.block _ z4ma).trans z0;have q1:=(Ay.block _ z4ma).trans z1;obtain⟨⟨s1,s2⟩,s3⟩:=HBe w3 Ay;have qv:=(s3.block _ lv2).trans Iv;obtain⟨a,c,c0,lr,ho⟩:=HA _ w3 s1;obtain⟨g,ea,_,hcp,lg,hcell⟩:=G1 ho z4ma;subst ea;obtain⟨y0,e0⟩:=Ok (f:=Cj β) (sz:=5) ho k 0 hki z4ma;obtain⟨y1,e1⟩:=Ok (f:=Cj β) (sz:=5) ho k 1 hki z4ma;obtain⟨y2,e2⟩:=Ok (f:=Cj β) (sz:=5) ho k 2 hki z4ma;obtain⟨y3,e3⟩:=Ok (f:=Cj β) (sz:=5) ho k 3 hki z4ma;obtain⟨y4,e4⟩:=Ok (f:=Cj β) (sz:=5) ho k 4 hki z4ma;rw[Ma]at e0;have fg:∀o,w3.frozen? ⟨g,o,none⟩=false:=An0 ho;have HU3:=HU _ _ g c s1 c0;have Ba:A3 (dx D X) w w3:=Ab.trans (Ae (Ae s2));clear n0 n1 n2 n3 n4 n5 n6 n7 ln;obtain⟨u0,u1,u2,u3,u4,lu⟩:=Kg q0;obtain⟨p0,p1,p2,p3,p4,lp⟩:=Kg q1;obtain⟨v0,v1,v2,v3,v4,lv⟩:=Kg qv;have lb3:=s1.B3;clear Ay q0 q1 qv s1 s2 s3 ho hcell HBe HH2 HU HA z0 z1 Iv Ct;go_wp2;refine Jt 9 z4pa z4pa ?_;simp only[Jh,J1,Ia,Hl];iterate 9 (refine Fm (fun K' hK'=>?_);go_simp;refine hK' _ ?_;clear hK' K')
 refine Js ?_;go_wp2;go_end0;rw[←A17];exact⟨rfl,HU3.1.J6.back.back,Ba.trans ((Ae (Ae HU3.2)).trans (Eb _ _ 1))⟩
def Adc(h:C.Ms D X β w m)(i:Aa){n:Nat}(hi:i.arg=(n:Nat))(hc:500<m.cells+n)(h5:m.cells<=500):Calls Tryz.prog 161 #[.p C.mb,Ac i] w (MP C D X β w (m.fail 10 i) (.tuple #[])):=by
 obtain⟨w0,As,Av,Ag,Ao,Aw,n0,n1,n2,n3,n4,n5,n6,n7,ln,lb,C9⟩:=h.Ci i;have HR:=fun(W:World) (hb:Bw w0 W)=>C3 (A7p (Av.o.below hb).1 n i hc h5) (Ag.o.trans (Ae (Av.o.below hb).2));unfold Ac at HR;unfold Ac;rw[hi]at HR As n1 ⊢;go_in;go_wp2_with fail
 rw[←As.o];go_wp2_with fail
 refine((HR _ z4na).1).mono ?_;rintro e w2 ⟨rfl,h2,k2⟩;have Au:=A0 h2.back;have Ab:A3 (dx D X) w w2:=(HR _ z4na).2.trans (Ae k2);go_wp2;refine B9 (v:=.tuple #[]) (by simp[results,Tryz.results161,go_sem]) rfl ?_;exact z4ja
def MC.Ms.plt(h:C.Ms D X β w m):∀g,dx D X g->g<w.heap.size:=by
 obtain⟨ρ,s,x,fv,ab,lp,h⟩:=h;exact fun g hg=>(h.prot g hg).1
def MC.Ms.vvl(h:C.Ms D X β w m):∀v∈m.vals,Ca m.arr.length v:=by
 obtain⟨ρ,s,x,fv,ab,lp,h⟩:=h;exact h.vv.1
def Amv(p:Option Addr)(w:World):Calls Tryz.prog 208 #[.pointer p] w fun e w'=>e=.returned (.agg #[.i 4,.bool false,.i 0,.string ⟨#[]⟩,.pointer p])/\Bw w w':=by
 go_in;go_wp2;refine B9 (v:=.agg #[.i 4,.bool false,.i 0,.string ⟨#[]⟩,.pointer p]) (by simp[results,Tryz.results208,go_sem]) rfl ⟨rfl,?_⟩;exact z09a
def Pk(m:MS)(n:Nat):List PV:=(List.range n).map (fun(j:Nat)=>m.at' ((m.vals.length:Int)-n+j))
def Al0{m:MS}{k n:Nat}(h:∀v∈m.vals,Ca k v):∀v∈Pk m n,Ca k v:=by
 intro v hv;obtain⟨j,_,rfl⟩:=Qu.1 hv;have hz:Ca k Bb:=by show(0:Nat)≠4;omega
 unfold MS.at';split
 ·exact hz
 ·rename_i hn;cases hq:m.vals[((m.vals.length:Int)-n+j).toNat]? with
  | none=>exact hz
  | some x=>exact h x (Gl hq)
def LsR(C:MC)(D X Y:Nat->Prop)(β:Nat->Nat)(w:World)(m:MS)(n rb:Nat)(its:List PV)(k:Nat)(v:Value)(wr:World):Prop:=
 ∃j:Nat,v=.i j/\j+k=n/\C.Ms D Y β wr m/\Hz 225 5 (Cj β) rb wr n (its.take j)/\wr.heap[rb+1]?=some (.cells #[.slice (some ⟨rb,0,none⟩) n n] 356 (0,0))/\A3 (dx D X) w wr
def AL(C:MC)(D X:Nat->Prop)(β:Nat->Nat)(w:World)(k:Nat)(m':MS)(e:Ending)(w':World):Prop:=e=.returned (.tuple #[])/\∃b,C.Ms D X (Pc β k b) w' m'/\A3 (dx D X) w w'
def Ade(h:C.Ms D X β w m)(i:Aa){n:Nat}(hi:i.arg=(n:Nat))(hc:m.cells+n<=500)(hn:m.vals.length<=85000000000):Calls Tryz.prog 161 #[.p C.mb,Ac i] w (AL C D X β w m.arr.length (MS.push (Pp m.arr.length) { (MS.cut ((m.vals.length:Int)-n) { m with cells:=m.cells+n }) with arr:=m.arr++[Pk m n] })):=by
 obtain⟨w0,As,Av,Ag,Ao,Aw,n0,n1,n2,n3,n4,n5,n6,n7,ln,lb,C9⟩:=h.Ci i;have HR:=A7q Av.o n i hc;have hn5:n<=500:=by omega
 unfold Ac at HR;unfold Ac;rw[hi]at HR As n1 Aw ⊢;go_in;go_wp2_with fail
 rw[←As.o];go_wp2_with fail
 refine HR.mono ?_;rintro e w1 ⟨rfl,h1,k1⟩;have An:=(k1.block _ Ao.o).trans Aw.o;have A9:A3 (dx D X) w w1:=Ag.o.trans (Ae k1);have G4:=A0 h1.J6.len;have Bn:=h1.B3;obtain⟨n0,n1,n2,n3,n4,n5,n6,n7,ln⟩:=Bi An;have Ff:IntKind.i64.wrap ((m.vals.length:Int)-(n:Nat))=(m.vals.length:Int)-(n:Nat):=by rw[O7];omega
 go_wp2;go_region_law (refine F9 rfl 98 _ _ rfl #[.pointer (some ⟨C.mb,4,none⟩)] z4pa G4.o ?_;rintro e w2 ⟨rfl,Gh⟩;subst Gh;refine⟨_,rfl,?_⟩)
 all_goals
  obtain⟨wm,hwm⟩:∃wm,wm=w1.drew.alloc (.cells (madeCells (Value.agg #[.i 0,.bool false,.i 0,.string ⟨#[]⟩,.pointer none]).cells (n*5)) 225):=⟨_,rfl⟩;have hmk:(Instr.makeSlice 158 (.i (n:Int)) (.i (n:Int))).run Tryz.prog w1.drew=.ok (.slice (some ⟨w1.heap.size,0,none⟩) n n) wm:=by
   rw[hwm];exact Sz (P:=Tryz.prog) 158 225 (.agg #[.i 0,.bool false,.i 0,.string ⟨#[]⟩,.pointer none]) 5 48 Tryz.underlying158 Ya .i64 .i64 n z4ma z4ma w1.drew
  have hrn:Hz 225 5 (Cj β) w1.heap.size wm n ([]:List PV):=by rw[hwm];exact Hz.start (T:=225) (sz:=5) (f:=Cj β) w1.drew _ n
  have hbm:Below w1.heap.size w1.drew wm:=by rw[hwm];exact Ah (Al _ _) (show w1.heap.size<=w1.drew.heap.size from Af _) _
  have hsm:wm.heap.size=w1.heap.size+1:=by rw[hwm,K3];rfl
  clear hwm;have Bq:Bw w1 w1.drew:=⟨rfl,rfl,rfl,Af _,fun _ _=>rfl⟩;obtain⟨W,hW⟩:∃W,W=wm.alloc (.cells #[.slice (some ⟨w1.heap.size,0,none⟩) n n] 356):=⟨_,rfl⟩;have hbW:Bw w1 W:=by rw[hW];exact Ah (Bq.trans hbm) z4ma _
  have hsW:W.heap.size=w1.heap.size+2:=by rw[hW];simp;omega
  have hhd:W.heap[w1.heap.size+1]?=some (.cells #[.slice (some ⟨w1.heap.size,0,none⟩) n n] 356 (0,0)):=by rw[hW,←hsm];exact Bp wm _
  have hrW:Hz 225 5 (Cj β) w1.heap.size W n ([]:List PV):=hrn.keep (by rw[hW];exact Ck _ _ _ z4ma);have hMW:=h1.more hbW;have HRel:LsR C D X (fun g=>Dd X w g\/(w1.heap.size<=g/\g<W.heap.size)) β w { m with cells:=m.cells+n } n w1.heap.size (Pk m n) n (.i 0) W:=⟨0,rfl,by omega,hMW,by simpa using hrW,hhd,A9.trans (Ae (h1.below hbW).2)⟩;have HDl:∀g,dx D (Dd X w) g->g<w1.heap.size:=h1.plt;have hil:(Pk m n).length=n:=by simp[Pk]
  have hix:∀j,j<n->∃x,(Pk m n)[j]?=some x/\MS.at' { m with cells:=m.cells+n } ((m.vals.length:Int)-n+j)=x:=fun j hj=>⟨m.at' ((m.vals.length:Int)-n+j),by unfold Pk;rw[Qt,List.getElem?_range hj];rfl,rfl⟩;go_wp2;rw[←hW];go_loopg [30] n (fun k v wr=>LsR C D X (fun g=>Dd X w g\/(w1.heap.size<=g/\g<W.heap.size)) β w { m with cells:=m.cells+n } n w1.heap.size (Pk m n) k v wr)
  case atStart=>exact HRel
  case round=>
   obtain⟨j,rfl,hjk,hms,hrow,hhd,hbd⟩:=hrel;by_cases hlt:j<n
   ·obtain⟨x,Er,I5⟩:=hix j hlt;have hw10:IntKind.i64.wrap ((m.vals.length:Int)-(n:Nat)+(j:Nat))=(m.vals.length:Int)-(n:Nat)+(j:Nat):=by rw[O7];omega
    have hat:=hms.J6.at' ((m.vals.length:Int)-(n:Nat)+(j:Nat));rw[I5]at hat;unfold B7 at hat;have c0:=A4 hhd 0 _ rfl;have l0:=A6 hhd;have lmb:=hms.B3;have HRow:=A0 hrow;have HHd:=A0 hhd;have HBd:=A0 hbd;have hsW':=hsW;have hY0:(fun g=>Dd X w g\/(w1.heap.size<=g/\g<W.heap.size)) w1.heap.size:=.inr ⟨Af _,by omega⟩;have hY1:(fun g=>Dd X w g\/(w1.heap.size<=g/\g<W.heap.size)) (w1.heap.size+1):=.inr ⟨by omega,by omega⟩;go_wp2;go_region_law (refine F9 rfl 195 _ _ rfl #[.pointer (some ⟨C.mb,4,none⟩),.i ((m.vals.length:Int)-(n:Nat)+(j:Nat))] z4pa hat ?_;rintro e w5 ⟨rfl,h5,k5⟩;refine⟨_,rfl,?_⟩;have hhd5:=(k5.block _ (.inr hY1)).trans HHd.o;have c5:=A4 hhd5 0 _ rfl;have l5:=A6 hhd5;have hrow5:=HRow.o.keep (k5.block _ (.inr hY0));have fz5:=hrow5.frozen;obtain⟨v0,y0⟩:=hrow5.cells j 0 hlt z4ma;obtain⟨v1,y1⟩:=hrow5.cells j 1 hlt z4ma;obtain⟨v2,y2⟩:=hrow5.cells j 2 hlt z4ma;obtain⟨v3,y3⟩:=hrow5.cells j 3 hlt z4ma;obtain⟨v4,y4⟩:=hrow5.cells j 4 hlt z4ma;rw[Ma]at y0;have HMs5:=A0 h5;have HRow5:=A0 hrow5;have HHd5:=A0 hhd5;have HBd5:Hid (A3 (dx D X) w w5):=HBd.o.trans ((Eb _ wr 1).trans (k5.weak (fun _ hg=>hg.imp id (fun q=>.inl (.inl q)))));clear h5 k5 hhd5 hrow5)
    all_goals
     go_wp2;rw[←A17 w5 w1.heap.size (j*5) x β];go_roundg (gk-1)
     case measure=>omega
     case rel=>
      obtain⟨q1,q2,q3,q4,q5⟩:=N0 w1.heap.size (Cj β x) (j*5) w5;have hjl:((Pk m n).take j).length=j:=by rw[G3,hil];omega
      refine⟨j+1,rfl,by omega,HMs5.o.less (fun _ q=>q) (fun g _ hyd=>q5 g (fun e=>?_)) q4,?_,(q5 _ z4ma).trans HHd5.o,HBd5.o.trans ⟨q1,q2,q3,by omega,fun g hg=>q5 g (fun e=>?_)⟩⟩
      ·have:=HDl _ (.inl (hyd (by rw[e];exact hY0)));omega
      ·have hp:=HRow5.o.put (fun _=>rfl) (by rw[hjl];exact hlt) x;rw[hjl]at hp;rw[A3m,Er];exact hp
      ·have:=HDl g (hg.imp id .inl);omega
   ·have hjn:j=n:=by omega
    rw[Ot (by rw[hil];omega)]at hrow;have HCt:=hms.cut ((m.vals.length:Int)-(n:Nat));have hvv:=hms.vvl;have lmb:=hms.B3;have HRow:=A0 hrow;have HHd:=A0 hhd;have HBd:=A0 hbd;go_wp2_with fail
    refine HCt.mono ?_;rintro e w6 ⟨rfl,h6,k6⟩;have hY0:dx D (fun g=>Dd X w g\/(w1.heap.size<=g/\g<W.heap.size)) w1.heap.size:=.inr (.inr ⟨Af _,by omega⟩);have hY1:dx D (fun g=>Dd X w g\/(w1.heap.size<=g/\g<W.heap.size)) (w1.heap.size+1):=.inr (.inr ⟨by omega,by omega⟩);have hrow6:=(HRow.o.keep (k6.block _ hY0)).done (fun _=>rfl) hil z4ma;have hhd6:=(k6.block _ hY1).trans HHd.o;have hD:∀k,w1.heap.size<=k->¬D k/\¬Dd X w k:=fun k hk=>⟨fun q=>by have:=HDl k (.inl q);omega,fun q=>by have:=HDl k (.inr q);omega⟩;have hadd:=h6.Ack (X:=Dd X w) (b:=w1.heap.size+1) (rb:=w1.heap.size) (l:=Pk m n) (fun _ q=>.inl q) ⟨.inr ⟨by omega,by omega⟩,hD _ z4ma⟩ ⟨.inr ⟨Af _,by omega⟩,hD _ (Af _)⟩ z4ma (by rw[hil];exact hhd6) (by rw[hil]at hrow6 ⊢;exact hrow6) (Al0 hvv);have er:Bf (Pc β m.arr.length (w1.heap.size+1)) (Pp m.arr.length)=some ⟨w1.heap.size+1,0,none⟩:=by simp[Bf,Pp,Pc]
    have ep:B7 (Pc β m.arr.length (w1.heap.size+1)) (Pp m.arr.length)=.agg #[.i 4,.bool false,.i 0,.string ⟨#[]⟩,.p (w1.heap.size+1)]:=by unfold B7;rw[er];rfl
    have HP:=fun(V:World) (hb:Bw w6 V)=>(hadd.below hb).1.push (Pp m.arr.length) (by show(4:Nat)=4/\m.arr.length<(m.arr++[_]).length;simp) (by show(MS.cut _ _).vals.length+1<=90000000000;unfold MS.cut;split <;> simp <;> omega);rw[show(MS.cut ((m.vals.length:Int)-(n:Nat)) { m with cells:=m.cells+n }).arr=m.arr from rfl,ep]at HP;have HB:=fun(V:World) (hb:Bw w6 V)=>(HBd.o.trans (k6.weak (fun _ hg=>hg.imp id (fun q=>.inl (.inl q))))).trans (Ae (hadd.below hb).2);have lb6:=h6.B3;go_wp2;go_region_law (first
     | (refine F9 rfl 99 _ _ rfl #[.pointer (some ⟨C.mb,4,none⟩),.agg #[.i 4,.bool false,.i 0,.string ⟨#[]⟩,.p (w1.heap.size+1)]] z4pa Cn.o ?_;rintro e w8 ⟨rfl,h8,k8⟩;refine⟨_,rfl,?_⟩;have HS8:=A0 h8.back;have HB8:Hid (A3 (dx D X) w w8):=HB1'.o.trans (Ae k8);clear h8 k8)
     | (refine F9 rfl 208 _ _ rfl #[.p (w1.heap.size+1)] z4pa (Amv _ _) ?_;rintro e w7 ⟨rfl,hb1'⟩;refine⟨_,rfl,?_⟩;have A2:=Tx hb1';have Cn:=A0 (HP w7 A2);have HB1':=A0 (HB w7 A2);have lb7:=A2.size;clear A2 hb1'))
    all_goals go_wp2
    all_goals go_end0
    all_goals exact⟨rfl,_,HS8.o,HB8.o⟩
