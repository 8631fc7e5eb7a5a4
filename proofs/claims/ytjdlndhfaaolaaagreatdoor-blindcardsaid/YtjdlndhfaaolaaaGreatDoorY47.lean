import Derived.Test.YtjdlndhfaaolaaaGreatDoorY46
set_option maxHeartbeats 20000000
set_option linter.all false
namespace Go.Proofs.YtjdlndhfaaolaaaGreatDoor
section
set_option maxRecDepth 100000
open Go.RowKit
open Go.Deep (BT)
variable {D:Nat->Prop} {kb pb:Nat} {P:C5} {ps:List Kn} {pa:Option Addr} {pc:Nat} {w w':World} {ab:List Kn} {va:Option Addr} {vc:Nat}
def Aks(l:List Aa):F7 l=C0 Fg l:=rfl
def Gf.other(h:Gf D kb pb P ps pa pc w ab va vc){s:Nat}(hk:∀g,g<w.heap.size->g≠s->w'.heap[g]?=w.heap[g]?)(hs:w.heap.size<=w'.heap.size)(h1:s≠kb)(h2:(Value.slice va ab.length vc).ownBlock≠some s)(h3:¬D s):Gf D kb pb P ps pa pc w' ab va vc:=by
 have hkD:∀g,D g->g<w.heap.size->w'.heap[g]?=w.heap[g]?/\D g:=fun g hg hl=>⟨hk g hl (fun e=>h3 (by rw[←e];exact hg)),hg⟩;exact⟨⟨(hk kb (A6 h.st.blk) (fun e=>h1 e.symm)).trans h.st.blk,h.st.cell,Bc h.st.own (fun g hg hl=>hk g hl (fun e=>h2 (by rw[←e];exact hg))),h.st.ne⟩,h.par.keep hkD,h.prog.keep hkD,h.nd,fun g hg=>Cb (h.lo g hg) hs,h.C1⟩
structure Zn (D : Nat -> Prop) (kb pb : Nat) (P : C5) (ps : List Kn) (pa : Option Addr) (pc : Nat) (w : World) (n : Nat) (wr : World) (ab : List Kn) (va : Option Addr) (vc : Nat) (qs : List Aa) : Prop where
 mkr:Gf D kb pb P ps pa pc wr ab va vc
 row:Hz 251 8 Fg (w.heap.size+1) wr n qs
 res:wr.heap[w.heap.size]?=some (.cells #[.i 0,.slice none 0 0] 98 (0,0))
 own:∀g,(Value.slice va ab.length vc).ownBlock=some g->w.heap.size+1<g
 P3:Gm kb none w wr
def Afr{n:Nat}{wr w2:World}{qs:List Aa}(hI:Zn D kb pb P ps pa pc w n wr ab va vc qs)(lbk:kb<w.heap.size)(hlo:∀g,D g->g<w.heap.size)(hb:Bw wr w2)(hq:qs.length<n)(q u:Aa)(hu:Mo P.fns.length u)(hN:P.fns.length<=1000000)(hp:∀f∈P.fns,f.params<=5000)(hl:ab.length+1<=100000) :
  ∀W,W=w2.setCells (w.heap.size+1) (qs.length*8) (Fg q)->Calls Tryz.prog 293 #[.p kb,Ac u] W fun e w4=>e=.returned (.tuple #[])/\∃va4 vc4,Zn D kb pb P ps pa pc w n w4 (follow P ps ab u) va4 vc4 (qs++[q]):=by
 intro W hW;obtain⟨hm,hr,hs,ho,hf⟩:=hI;have lr:=hr.lt;have f5:=N0 (w.heap.size+1) (Fg q) (qs.length*8) w2;rw[←hW]at f5;obtain⟨g1,g2,g3,g4,g5⟩:=f5;have C7:Hz 251 8 Fg (w.heap.size+1) W n (qs++[q]):=by
  rw[hW];exact(hr.keep (hb.block _ lr)).put (fun _=>rfl) hq q
 have hkW:∀g,g<wr.heap.size->g≠w.heap.size+1->W.heap[g]?=wr.heap[g]?:=fun g hg hne=>(g5 g hne).trans (hb.block g hg);have hsW:wr.heap.size<=W.heap.size:=by rw[g4];exact hb.size
 have hmW:Gf D kb pb P ps pa pc W ab va vc:=hm.other hkW hsW z4ma (fun e=>by have:=ho _ e;omega) (fun hd=>by have:=hlo _ hd;omega);have hsz:w.heap.size<wr.heap.size:=A6 hs;refine(Al2 hmW u hu.1 (by have:=hu.2.1;omega) hu.2.2.2.2.2.1 hN hp hl).mono ?_;rintro e w4 ⟨rfl,va4,vc4,m4,f4,o4⟩;have hrow:∀k,k<=w.heap.size+1->(Value.slice va ab.length vc).ownBlock≠some k:=fun k hk e=>by have:=ho k e;omega
 have k4:∀k,k<W.heap.size->k≠kb->k<=w.heap.size+1->w4.heap[k]?=W.heap[k]?:=fun k h1 h2 h3=>f4.block k h1 h2 (hrow k h3);refine⟨rfl,va4,vc4,m4,C7.keep (k4 _ C7.lt z4ma (Af _)),(k4 _ z4ma z4ma z4ma).trans ((hkW _ hsz z4ma).trans hs),fun g hg=>?_,⟨f4.os.trans (g1.trans (hb.os.trans hf.os)),f4.tape.trans (g2.trans (hb.tape.trans hf.tape)),f4.output.trans (g3.trans (hb.output.trans hf.output)),Fu hf.size (Fu hsW f4.size),fun k hk h1 h2=>?_⟩⟩
 ·rcases o4 g hg with e|e
  ·exact ho g e
  ·omega
 ·have D4:k<wr.heap.size:=Cb hk hf.size;exact(k4 k z4ma h1 z4ma).trans ((hkW k D4 z4ma).trans (hf.block k hk h1 h2))
def Ahe(n:Int)(ab:List Kn):(Of n ab).length<=ab.length:=by unfold Of;split <;> simp;omega
def Ajo{i:Nat}{u:Aa}(h:ab.length<=i):(follow P ps ab u).length<=i+1:=by
 unfold follow;have:=Ahe ((ab.length:Nat)-Dv P u) ab;dsimp only;split
 ·simp only[Ds,Lw];omega
 ·omega
def z5sa {P:Prop} (h:P:=by simp only[Value.ownBlock,Cg]at hk;omega):P:=h
def Al1(h:Gf D kb pb P ps pa pc w [] none 0){bb oo slots:Nat}{st:List Aa}{sa:Option Addr}{sn sc:Nat}(hB:N8 D w bb oo slots st sa sn sc)(hst:∀i∈st,Mo P.fns.length i)(hN:P.fns.length<=1000000)(hp:∀f∈P.fns,f.params<=5000)(hl:st.length<=90000) :
  Calls Tryz.prog 277 #[.p kb,.pointer (some ⟨bb,oo,none⟩)] w fun e w'=>∃tb,e=.returned (.agg #[.n slots,.slice (some ⟨tb,0,none⟩) st.length st.length])/\w'.ownsRow 0 251 8 (.slice (some ⟨tb,0,none⟩) st.length st.length) st.length (F7 (Ix P ps [] st))/\w.heap.size<=tb/\Gm kb none w w':=by
 have hsn:sn=st.length:=(Cm hB.own.1).1;subst hsn;have c0:=hB.slots;have c1:=hB.row;have lb:=A6 h.st.blk;have lc:=O3 c0;have HM:=A0 h;have HBd:=A0 hB;clear h hB;have hmk:=Sz (P:=Tryz.prog) 96 251 (.agg #[.i 0,.i 0,.i 0,.i 0,.bool false,.i 0,.string ⟨#[]⟩,.pointer none]) 8 72 Tryz.underlying96 A1e .i64 .i64 st.length z4ma z4ma (w.alloc (.cells #[.i 0,.slice none 0 0] 98));have Bq:Bw w ((w.alloc (.cells #[.i 0,.slice none 0 0] 98)).alloc (.cells (madeCells (Value.agg #[.i 0,.i 0,.i 0,.i 0,.bool false,.i 0,.string ⟨#[]⟩,.pointer none]).cells (st.length*8)) 251)):=Ie _ _ _;have hr0:((w.alloc (.cells #[.i 0,.slice none 0 0] 98)).alloc (.cells (madeCells (Value.agg #[.i 0,.i 0,.i 0,.i 0,.bool false,.i 0,.string ⟨#[]⟩,.pointer none]).cells (st.length*8)) 251)).heap[w.heap.size]?=some (.cells #[.i 0,.slice none 0 0] 98 (0,0)):=alloc_old (Bp w _);have I4:=Hz.start (T:=251) (sz:=8) (f:=Fg) (w.alloc (.cells #[.i 0,.slice none 0 0] 98)) (Value.agg #[.i 0,.i 0,.i 0,.i 0,.bool false,.i 0,.string ⟨#[]⟩,.pointer none]).cells st.length;rw[K3]at I4 hmk;obtain⟨w0,Dk⟩:∃w0,w0=((w.alloc (.cells #[.i 0,.slice none 0 0] 98)).alloc (.cells (madeCells (Value.agg #[.i 0,.i 0,.i 0,.i 0,.bool false,.i 0,.string ⟨#[]⟩,.pointer none]).cells (st.length*8)) 251)):=⟨_,rfl⟩;rw[←Dk]at hmk Bq hr0 I4;have Ag:=A0 Bq;have HR0:=A0 hr0;have HN0:=A0 I4;have ls0:=Bq.size;have hcw:∀(k o:Nat),k<w.heap.size->w0.cell? ⟨k,o,none⟩=w.cell? ⟨k,o,none⟩:=fun k o hk=>D9 (Bq.block k hk);have e0:=(hcw _ _ lc).trans c0;have e1:=(hcw _ _ lc).trans c1;have lc0:=Cb lc ls0;clear Dk Bq hr0 I4 hcw;go_in;go_wp2;go_loopg [19] st.length (fun k v wr=>∃(i:Nat) (ab:List Kn) (va:Option Addr) (vc:Nat) (qs:List Aa),v=.i i/\i+k=st.length/\qs.length=i/\ab.length<=i/\Ix P ps [] st=qs++Ix P ps ab (st.drop i)/\Zn D kb pb P ps pa pc w st.length wr ab va vc qs)
 case atStart=>
  refine⟨0,[],none,0,[],rfl,by omega,rfl,by simp,by simp,⟨HM.o.below Ag.o,HN0.o,HR0.o,fun g hg=>by simp[Value.ownBlock]at hg,⟨Ag.o.os,Ag.o.tape,Ag.o.output,Ag.o.size,fun k hk _ _=>Ag.o.block k hk⟩⟩⟩
 case round=>
  obtain⟨i,ab,va,vc,qs,rfl,hik,hql,hal,hqe,hI⟩:=hrel;have HI:=A0 hI;have HQe:=A0 hqe;have lbr:=A6 hI.mkr.st.blk;have lrw:=hI.row.lt;have hrs:=hI.res;have lrs:=A6 hrs;clear hI hqe;by_cases hlt:i<st.length
  ·have hkD:∀g,D g->wr.heap[g]?=w.heap[g]?:=fun g hg=>HI.o.P3.block g (HM.o.lo g hg) (fun e=>HM.o.nd.1 (by rw[←e];exact hg)) z4ra;obtain⟨g,k1,_,hcap,lg,hcell⟩:=G1 HBd.o.own.1 z4ma;have hgD:=HBd.o.own.2 g (by rw[k1];rfl);subst k1;have hcr:∀o,wr.cell? ⟨g,o,none⟩=w.cell? ⟨g,o,none⟩:=fun o=>D9 (hkD g hgD);have lgr:=Cb lg HI.o.P3.size;have d0:=(hcr _).trans (hcell (i*8+0) _ ((D8 (f:=Fg) (sz:=8) (fun _=>rfl) st i 0 hlt z4ma).trans rfl));have d1:=(hcr _).trans (hcell (i*8+1) _ ((D8 (f:=Fg) (sz:=8) (fun _=>rfl) st i 1 hlt z4ma).trans rfl));have d2:=(hcr _).trans (hcell (i*8+2) _ ((D8 (f:=Fg) (sz:=8) (fun _=>rfl) st i 2 hlt z4ma).trans rfl));have d3:=(hcr _).trans (hcell (i*8+3) _ ((D8 (f:=Fg) (sz:=8) (fun _=>rfl) st i 3 hlt z4ma).trans rfl));have d4:=(hcr _).trans (hcell (i*8+4) _ ((D8 (f:=Fg) (sz:=8) (fun _=>rfl) st i 4 hlt z4ma).trans rfl));have d5:=(hcr _).trans (hcell (i*8+5) _ ((D8 (f:=Fg) (sz:=8) (fun _=>rfl) st i 5 hlt z4ma).trans rfl));have d6:=(hcr _).trans (hcell (i*8+6) _ ((D8 (f:=Fg) (sz:=8) (fun _=>rfl) st i 6 hlt z4ma).trans rfl));have d7:=(hcr _).trans (hcell (i*8+7) _ ((D8 (f:=Fg) (sz:=8) (fun _=>rfl) st i 7 hlt z4ma).trans rfl));rw[Ma]at d0;have hu:=hst _ (Ho hlt);have HStep:=fun(w2:World) (hb:Bw wr w2)=>Afr HI.o lb HM.o.lo hb z4ma (quick ps ab st[i]) st[i] hu hN hp z4ma;have HQk:=fun(W:World) (hb:Bw wr W)=>Alj (HI.o.mkr.below hb) st[i] hu.1;have HEq:Ix P ps [] st=(qs++[quick ps ab st[i]])++Ix P ps (follow P ps ab st[i]) (st.drop (i+1)):=by
    show _=_;rw[HQe.o,Gk hlt,Ix,Gv];rfl
   have HLf:(follow P ps ab st[i]).length<=i+1:=Ajo hal;have HRw:=A0 HI.o.row;clear hkD hcr hcell hu;generalize st[i]=u at *;generalize quick ps ab u=q at *;rw[hql]at HStep;unfold Ac at HStep HQk;unfold Fg at HStep;unfold KP at HQk;go_wp2_with fail
   refine(HQk _ (Mr _ _)).mono ?_;rintro e w2 ⟨rfl,Ad⟩;have hb2':=(Mr wr _).trans (Ad.mono z4ra);have Ct:=(Ad.block wr.heap.size z4ra).trans (Bp wr _);have nn:=Bi Ct;have hrw2:=HRw.o.keep (w':=w2) (hb2'.block _ lrw);obtain⟨z0,y0⟩:=hrw2.cells i 0 hlt z4ma;obtain⟨z1,y1⟩:=hrw2.cells i 1 hlt z4ma;obtain⟨z2,y2⟩:=hrw2.cells i 2 hlt z4ma;obtain⟨z3,y3⟩:=hrw2.cells i 3 hlt z4ma;obtain⟨z4,y4⟩:=hrw2.cells i 4 hlt z4ma;obtain⟨z5,y5⟩:=hrw2.cells i 5 hlt z4ma;obtain⟨z6,y6⟩:=hrw2.cells i 6 hlt z4ma;obtain⟨z7,y7⟩:=hrw2.cells i 7 hlt z4ma;replace y0:w2.cell? ⟨w.heap.size+1,i*8,none⟩=some z0:=y0;have fz:=hrw2.frozen;have lr2:=hrw2.lt;have HF:=HStep w2 hb2';clear Ad hb2' Ct hrw2 HStep HQk;generalize w.heap.size+1=sb at *;go_wp2_with fail
   refine(HF _ rfl).mono ?_;rintro e w4 ⟨rfl,va4,vc4,hI4⟩;have HI4:=A0 hI4;have lb4:=A6 hI4.mkr.st.blk;clear hI4 HF;go_wp2;go_roundg (gk-1)
   case measure=>omega
   case rel=>exact⟨i+1,_,va4,vc4,_,by simp,by omega,by simp[hql],HLf,HEq,HI4.o⟩
  ·have hqs:Ix P ps [] st=qs:=by rw[HQe.o,Pz z4ma,Ix,Lx]
   have HOw:=HI.o.row.done (fun _=>rfl) z4ma z4ma;have HQs:=A0 hqs;have HSt:=A0 HI.o.P3;have hc0:wr.cell? ⟨bb,oo,none⟩=some (.n slots):=(D9 (HI.o.P3.block bb lc (fun e=>HM.o.nd.1 (by rw[←e];exact HBd.o.kept)) z4ra)).trans c0;have lcr:=O3 hc0;obtain⟨x0,x1,fx,lx⟩:=K9 hrs;clear hrs hqs;go_wp2;refine B9 (v:=.agg #[.n slots,.slice (some ⟨w.heap.size+1,0,none⟩) st.length st.length]) (by simp[results,Tryz.results277,go_sem,x0,x1]) rfl ?_;have hset:∀k,k≠w.heap.size->((wr.setCell ⟨w.heap.size,0,none⟩ (.n slots)).setCell ⟨w.heap.size,1,none⟩ (.slice (some ⟨w.heap.size+1,0,none⟩) st.length st.length)).heap[k]?=wr.heap[k]?:=fun k hk=>(Bh _ _ _ _ z5ja).trans (Bh _ _ _ _ z5ja);refine⟨w.heap.size+1,rfl,?_,Lj _,⟨by rw[Uk,Uk];exact HSt.o.os,by rw[Um,Um];exact HSt.o.tape,by rw[Ul,Ul];exact HSt.o.output,by simp[World.setCell];exact HSt.o.size,fun k hk h1 h2=>(hset k z4ma).trans (HSt.o.block k hk h1 h2)⟩⟩;rw[HQs.o,Aks];have hln:st.length=qs.length:=by omega
   have:=Bc HOw (w':=((wr.setCell ⟨w.heap.size,0,none⟩ (.n slots)).setCell ⟨w.heap.size,1,none⟩ (.slice (some ⟨w.heap.size+1,0,none⟩) st.length st.length))) (fun k hk _=>hset k z5sa);rw[hln]at this ⊢;exact this
end
section
set_option maxRecDepth 100000
open Go.RowKit
open Go.Deep (BT)
variable {w:World}{b:Cl}{ia:Option Addr}{kc ic:Nat}
def z2za {P:Prop} (h:P:=by
  go_wp2;refine B9 (v:=Bm (E2)) (by simp[results,Tryz.results275,go_sem,Bm,E2,Bb]) rfl ⟨rfl,?_⟩;exact Ie _ _ _):P:=h
def Aev{w:World}{b:Cl}{ka ia:Option Addr}{kc ic:Nat}(i:Nat)(hi:b.kinds.length<=i):Calls Tryz.prog 275 #[.agg #[.i b.fn,.i b.after,.slice ka b.kinds.length kc,.slice ia b.ints.length ic],.n i] w (KP w (Bm E2)):=by
 have t0:((b.kinds.length:Nat):Int)<=((i:Nat):Int):=by omega
 go_in;exact z2za
def z24a {P:Prop} (h:P:=by
  exact Kq Dq (by exact Lj _) _ _ _ _ _ _ _):P:=h
def z53a {P:Prop} (h:P:=by simp[results,Tryz.results275,go_sem,Bm,Dh,r0,r1,r2,r3,r4,r5,r6]):P:=h
def Aen(i:Nat){g o:Nat}{k:Int}(hg:g<w.heap.size)(hc:w.cell? ⟨g,o+i,none⟩=some (.i k))(hi:i<b.kinds.length)(hk:k=1):Calls Tryz.prog 275 #[.agg #[.i b.fn,.i b.after,.slice (some ⟨g,o,none⟩) b.kinds.length kc,.slice ia b.ints.length ic],.n i] w (KP w (Bm (Dh 2))):=by
 subst hk;have t0:¬((b.kinds.length:Nat):Int)<=((i:Nat):Int):=by omega
 have HC:=fun(W:World)=>P1 2 W;unfold Bm Dh at HC;go_in;go_wp2_with fail
 refine(HC _).mono ?_;rintro e w1 ⟨rfl,A2⟩;have Az:=(A2.block (w.heap.size+1) z4ra).trans (Nd _ _ _ _);have Dq:Bw w w1:=(Ie _ _ _).trans (A2.mono z4qa);have r0:=A4 Az 0 _ rfl;have r1:=A4 Az 1 _ rfl;have r2:=A4 Az 2 _ rfl;have r3:=A4 Az 3 _ rfl;have r4:=A4 Az 4 _ rfl;have r5:=A4 Az 5 _ rfl;have r6:=A4 Az 6 _ rfl;have fr:=By Az;have lr:=A6 Az;go_wp2;refine B9 (v:=Bm (Dh 2)) z53a rfl ⟨rfl,?_⟩;exact z24a
def Aeo(i:Nat){g o:Nat}{k:Int}(hg:g<w.heap.size)(hc:w.cell? ⟨g,o+i,none⟩=some (.i k))(hi:i<b.kinds.length)(hk:k=2):Calls Tryz.prog 275 #[.agg #[.i b.fn,.i b.after,.slice (some ⟨g,o,none⟩) b.kinds.length kc,.slice ia b.ints.length ic],.n i] w (KP w (Bm (Dh 3))):=by
 subst hk;have t0:¬((b.kinds.length:Nat):Int)<=((i:Nat):Int):=by omega
 have HC:=fun(W:World)=>P1 3 W;unfold Bm Dh at HC;go_in;go_wp2_with fail
 refine(HC _).mono ?_;rintro e w1 ⟨rfl,A2⟩;have Az:=(A2.block (w.heap.size+1) z4ra).trans (Nd _ _ _ _);have Dq:Bw w w1:=(Ie _ _ _).trans (A2.mono z4qa);have r0:=A4 Az 0 _ rfl;have r1:=A4 Az 1 _ rfl;have r2:=A4 Az 2 _ rfl;have r3:=A4 Az 3 _ rfl;have r4:=A4 Az 4 _ rfl;have r5:=A4 Az 5 _ rfl;have r6:=A4 Az 6 _ rfl;have fr:=By Az;have lr:=A6 Az;go_wp2;refine B9 (v:=Bm (Dh 3)) z53a rfl ⟨rfl,?_⟩;exact z24a
def Aep(i:Nat){g o:Nat}{k:Int}(hg:g<w.heap.size)(hc:w.cell? ⟨g,o+i,none⟩=some (.i k))(hi:i<b.kinds.length)(hk:k=3):Calls Tryz.prog 275 #[.agg #[.i b.fn,.i b.after,.slice (some ⟨g,o,none⟩) b.kinds.length kc,.slice ia b.ints.length ic],.n i] w (KP w (Bm (Dh 1))):=by
 subst hk;have t0:¬((b.kinds.length:Nat):Int)<=((i:Nat):Int):=by omega
 have HC:=fun(W:World)=>P1 1 W;unfold Bm Dh at HC;go_in;go_wp2_with fail
 refine(HC _).mono ?_;rintro e w1 ⟨rfl,A2⟩;have Az:=(A2.block (w.heap.size+1) z4ra).trans (Nd _ _ _ _);have Dq:Bw w w1:=(Ie _ _ _).trans (A2.mono z4qa);have r0:=A4 Az 0 _ rfl;have r1:=A4 Az 1 _ rfl;have r2:=A4 Az 2 _ rfl;have r3:=A4 Az 3 _ rfl;have r4:=A4 Az 4 _ rfl;have r5:=A4 Az 5 _ rfl;have r6:=A4 Az 6 _ rfl;have fr:=By Az;have lr:=A6 Az;go_wp2;refine B9 (v:=Bm (Dh 1)) z53a rfl ⟨rfl,?_⟩;exact z24a
def Aer(i:Nat){g o:Nat}{k:Int}(hg:g<w.heap.size)(hc:w.cell? ⟨g,o+i,none⟩=some (.i k))(hi:i<b.kinds.length)(hk:k=5):Calls Tryz.prog 275 #[.agg #[.i b.fn,.i b.after,.slice (some ⟨g,o,none⟩) b.kinds.length kc,.slice ia b.ints.length ic],.n i] w (KP w (Bm (Dh 4))):=by
 subst hk;have t0:¬((b.kinds.length:Nat):Int)<=((i:Nat):Int):=by omega
 have HC:=fun(W:World)=>P1 4 W;unfold Bm Dh at HC;go_in;go_wp2_with fail
 refine(HC _).mono ?_;rintro e w1 ⟨rfl,A2⟩;have Az:=(A2.block (w.heap.size+1) z4ra).trans (Nd _ _ _ _);have Dq:Bw w w1:=(Ie _ _ _).trans (A2.mono z4qa);have r0:=A4 Az 0 _ rfl;have r1:=A4 Az 1 _ rfl;have r2:=A4 Az 2 _ rfl;have r3:=A4 Az 3 _ rfl;have r4:=A4 Az 4 _ rfl;have r5:=A4 Az 5 _ rfl;have r6:=A4 Az 6 _ rfl;have fr:=By Az;have lr:=A6 Az;go_wp2;refine B9 (v:=Bm (Dh 4)) z53a rfl ⟨rfl,?_⟩;exact z24a
def Aeq(i:Nat){g o:Nat}{k:Int}(hg:g<w.heap.size)(hc:w.cell? ⟨g,o+i,none⟩=some (.i k))(hi:i<b.kinds.length)(hk:k=4):Calls Tryz.prog 275 #[.agg #[.i b.fn,.i b.after,.slice (some ⟨g,o,none⟩) b.kinds.length kc,.slice ia b.ints.length ic],.n i] w (KP w (Bm (Lf Bb))):=by
 subst hk;have t0:¬((b.kinds.length:Nat):Int)<=((i:Nat):Int):=by omega
 have HC:=fun(W:World)=>A1k Bb W;unfold Bm Lf Bb at HC;go_in;go_wp2_with fail
 refine(HC _).mono ?_;rintro e w1 ⟨rfl,A2⟩;have Az:=(A2.block (w.heap.size+1) z4ra).trans (Nd _ _ _ _);have Dq:Bw w w1:=(Ie _ _ _).trans (A2.mono z4qa);have r0:=A4 Az 0 _ rfl;have r1:=A4 Az 1 _ rfl;have r2:=A4 Az 2 _ rfl;have r3:=A4 Az 3 _ rfl;have r4:=A4 Az 4 _ rfl;have r5:=A4 Az 5 _ rfl;have r6:=A4 Az 6 _ rfl;have fr:=By Az;have lr:=A6 Az;go_wp2;refine B9 (v:=Bm (Lf Bb)) (by simp[results,Tryz.results275,go_sem,Bm,Lf,Bb,r0,r1,r2,r3,r4,r5,r6]) rfl ⟨rfl,?_⟩;exact z24a
def Aes(i:Nat){g o:Nat}{k:Int}(hg:g<w.heap.size)(hc:w.cell? ⟨g,o+i,none⟩=some (.i k))(hi:i<b.kinds.length)(hk:k=6)(n:Int)(ha:∀W:World,Bw w W->Calls Tryz.prog 291 #[.slice ia b.ints.length ic,.n i] W fun e w'=>e=.returned (.i n)/\w'=W):Calls Tryz.prog 275 #[.agg #[.i b.fn,.i b.after,.slice (some ⟨g,o,none⟩) b.kinds.length kc,.slice ia b.ints.length ic],.n i] w (KP w (Bm (Lf (ofInt n)))):=by
 subst hk;have t0:¬((b.kinds.length:Nat):Int)<=((i:Nat):Int):=by omega
 have HO:=fun(W:World)=>Yh n W;have HC:=fun(W:World)=>A1k (ofInt n) W;unfold Bm Lf ofInt at HC;go_in;go_wp2_with fail
 refine(ha _ (Ie _ _ _)).mono ?_;rintro e w9 ⟨rfl,Ff⟩;rw[Ff];go_wp2_with fail
 refine(HO _).mono ?_;rintro e w2 ⟨rfl,Ad⟩;have Gd:=(Ad.block (w.heap.size+1) z4ra).trans (Nd _ _ _ _);have Ab:Bw w w2:=(Ie _ _ _).trans (Ad.mono z4qa);have ls2:=Ab.size;have lr2:=A6 Gd;go_wp2_with fail
 refine(HC _).mono ?_;rintro e w1 ⟨rfl,A2⟩;have Az:=(A2.block (w.heap.size+1) lr2).trans Gd;have Dq:Bw w w1:=Ab.trans (A2.mono ls2);have r0:=A4 Az 0 _ rfl;have r1:=A4 Az 1 _ rfl;have r2:=A4 Az 2 _ rfl;have r3:=A4 Az 3 _ rfl;have r4:=A4 Az 4 _ rfl;have r5:=A4 Az 5 _ rfl;have r6:=A4 Az 6 _ rfl;have fr:=By Az;have lr:=A6 Az;go_wp2;refine B9 (v:=Bm (Lf (ofInt n))) (by simp[results,Tryz.results275,go_sem,Bm,Lf,ofInt,r0,r1,r2,r3,r4,r5,r6]) rfl ⟨rfl,?_⟩;exact z24a
def Aet(i:Nat){g o:Nat}{k:Int}(hg:g<w.heap.size)(hc:w.cell? ⟨g,o+i,none⟩=some (.i k))(hi:i<b.kinds.length)(h1:k≠1)(h2:k≠2)(h3:k≠3)(h4:k≠4)(h5:k≠5)(h6:k≠6):Calls Tryz.prog 275 #[.agg #[.i b.fn,.i b.after,.slice (some ⟨g,o,none⟩) b.kinds.length kc,.slice ia b.ints.length ic],.n i] w (KP w (Bm E2)):=by
 have t0:¬((b.kinds.length:Nat):Int)<=((i:Nat):Int):=by omega
 have t1:(k==1)=false:=by rw[Am];exact h1
 have t2:(k==2)=false:=by rw[Am];exact h2
 have t3:(k==3)=false:=by rw[Am];exact h3
 have t4:(k==4)=false:=by rw[Am];exact h4
 have t5:(k==5)=false:=by rw[Am];exact h5
 have t6:(k==6)=false:=by rw[Am];exact h6
 go_in;exact z2za
def Aem{K:Nat->Prop}{w:World}{b:Cl}{ka ia:Option Addr}{kc ic:Nat}(i:Nat)(hk:Na K w (.slice ka b.kinds.length kc) (ints b.kinds))(hi:Na K w (.slice ia b.ints.length ic) (ints b.ints)):Calls Tryz.prog 275 #[.agg #[.i b.fn,.i b.after,.slice ka b.kinds.length kc,.slice ia b.ints.length ic],.n i] w (KP w (Bm (Ku b i))):=by
 unfold Ku;rcases N2 i b.kinds.length with hl|hl
 ·rw[Eh hl];obtain⟨a,c,e,hk⟩:=hk;injection e with e1 e2 e3;subst e1 e3;obtain⟨g,o,rfl,_,hg,hcell⟩:=hk (by rw[ints,Mb];omega);have hc:=hcell i (.i b.kinds[i]) (by simp[ints,hl]);dsimp only;by_cases h1:b.kinds[i]=1
  ·rw[A7 h1];exact Aen i hg hc hl h1
  rw[A1 h1];by_cases h2:b.kinds[i]=2
  ·rw[A7 h2];exact Aeo i hg hc hl h2
  rw[A1 h2];by_cases h3:b.kinds[i]=3
  ·rw[A7 h3];exact Aep i hg hc hl h3
  rw[A1 h3];by_cases h4:b.kinds[i]=4
  ·rw[A7 h4];exact Aeq i hg hc hl h4
  rw[A1 h4];by_cases h5:b.kinds[i]=5
  ·rw[A7 h5];exact Aer i hg hc hl h5
  rw[A1 h5];by_cases h6:b.kinds[i]=6
  ·rw[A7 h6];refine Aes i hg hc hl h6 _ (fun W hb=>?_);rcases N2 i b.ints.length with Gx|Gx
   ·rw[Eh Gx];obtain⟨a2,c2,e2,hi⟩:=hi;injection e2 with e1 e2 e3;subst e1 e3;obtain⟨g2,o2,rfl,_,Jw,hcell2⟩:=hi (by rw[ints,Mb];omega);exact Akt W g2 o2 b.ints.length ic i b.ints[i] Gx ((D9 (hb.block g2 Jw)).trans (hcell2 i _ (by simp[ints,Gx])))
   ·rw[N6 Gx];exact Aku W ia ic i Gx
  rw[A1 h6];exact Aet i hg hc hl h1 h2 h3 h4 h5 h6
 ·rw[N6 hl];exact Aev i hl
end
section
set_option maxRecDepth 100000
open Go.RowKit
open Go.Deep (BT)
variable {D:Nat->Prop} {w w':World}
def Alc(x:Kn):∀v∈F8 x,v.oneCell'=true:=by
 intro v hv;simp only[F8,L9,List.not_mem_nil,or_false]at hv;rcases hv with rfl|rfl|rfl|rfl|rfl|rfl|rfl <;> rfl
def z2aa {P:Prop} (h:P:=by
  go_wp2;go_roundg (gk-1)
  case measure=>omega
  case rel=>exact⟨i+1,ks',by simp,by omega,hkl,HLl.o,Bc HOr.o (fun k _ hl=>Ck _ _ _ hl),Ah HBr.o lsr _⟩):P:=h
def Alx{hb fo:Nat}{sa:Option Addr}{sn sc:Nat}{st:List Aa}{ks:List Kn}{kb2 kc:Nat}(hc:w.cell? ⟨hb,fo+3,none⟩=some (.slice sa sn sc))(hs:Dj D w 251 8 (.slice sa sn sc) st.length (F7 st))(hst:∀i∈st,0<=i.arg)(hl:st.length<=90000)(ho:w.ownsRow 0 407 7 (.slice (some ⟨kb2,0,none⟩) ks.length kc) ks.length (C0 F8 ks))(hk:ks.length<=5000) :
  Calls Tryz.prog 276 #[.pointer (some ⟨hb,fo,none⟩),.slice (some ⟨kb2,0,none⟩) ks.length kc] w fun e w'=>∃tb,e=.returned (.slice (some ⟨tb,0,none⟩) ks.length ks.length)/\w'.ownsRow 0 407 7 (.slice (some ⟨tb,0,none⟩) ks.length ks.length) ks.length (C0 F8 (Km st ks))/\(Km st ks).length=ks.length/\w.heap.size<=tb/\Bw w w':=by
 have hsn:sn=st.length:=(Cm hs.1).1;subst hsn;have lc:=O3 hc;have hmk:=Sz (P:=Tryz.prog) 379 407 (.agg #[.bool false,.bool false,.i 0,.bool false,.i 0,.string ⟨#[]⟩,.pointer none]) 7 56 Tryz.underlying379 A1g .i64 .i64 ks.length z4ma z4ma w;have I4:=Hz.start (T:=407) (sz:=7) (f:=F8) w (Value.agg #[.bool false,.bool false,.i 0,.bool false,.i 0,.string ⟨#[]⟩,.pointer none]).cells ks.length;have Bq:=Mr w (.cells (madeCells (Value.agg #[.bool false,.bool false,.i 0,.bool false,.i 0,.string ⟨#[]⟩,.pointer none]).cells (ks.length*7)) 407);obtain⟨w0,Dk⟩:∃w0,w0=w.alloc (.cells (madeCells (Value.agg #[.bool false,.bool false,.i 0,.bool false,.i 0,.string ⟨#[]⟩,.pointer none]).cells (ks.length*7)) 407):=⟨_,rfl⟩;rw[←Dk]at hmk I4 Bq;clear Dk;have hrl:=Nw (f:=F8) (sz:=7) (fun _=>rfl) ks;have hcp:=Agu (P:=Tryz.prog) w0 379 379 3 407 w.heap.size 0 ks.length ⟨kb2,0,none⟩ ks.length kc 7 (C0 F8 ks) Tryz.underlying379 z4pa hrl
  (fun j v hj=>by
   have hjl:j<(C0 F8 ks).length:=(K4.1 hj).1;obtain⟨g,k1,_,_,lg,hcell⟩:=G1 ho z4ma;injection k1 with k1;injection k1 with k1;subst k1;have:(Addr.mk kb2 0 none).add j=⟨kb2,j,none⟩:=by simp[Addr.add];omega
   rw[this,D9 (Bq.block _ lg)];exact hcell j v hj)
  (fun j hj=>by
   rw[hrl]at hj;obtain⟨v,hv⟩:=I4.cells (j / 7) (j % 7) z4ma z4ma;rw[show j / 7*7+j % 7=j by omega]at hv;rw[Tf,hv];rfl)
  (fun j _=>I4.frozen _)
  (fun v hv=>by
   simp only[C0,List.mem_flatMap]at hv;obtain⟨x,_,hx⟩:=hv;exact Alc x v hx)
 have hf0:=I4.full (xs:=ks) (fun _=>rfl) rfl z4ma;obtain⟨q1,q2,q3,q4,q5⟩:=N0 w.heap.size (C0 F8 ks) 0 w0;have A2:Bw w (w0.setCells w.heap.size 0 (C0 F8 ks)):=⟨q1.trans Bq.os,q2.trans Bq.tape,q3.trans Bq.output,by rw[q4];exact Bq.size,fun k hk=>(q5 k z4ma).trans (Bq.block k hk)⟩;generalize w0.setCells w.heap.size 0 (C0 F8 ks)=w1 at *;have Bd:=A0 hf0;have A9:=A0 A2;have c1:=(D9 (A2.block hb lc)).trans hc;have lc1:=Cb lc A2.size;have c0:=(D9 (Bq.block hb lc)).trans hc;have lc0:=Cb lc Bq.size;have HS:=A0 hs;clear I4 Bq hf0 A2 q1 q2 q3 q4 q5 ho hs hrl;go_in;go_wp2;go_loopg [20] st.length (fun k v wr=>∃(i:Nat) (ks':List Kn),v=.i i/\i+k=st.length/\ks'.length=ks.length/\Km st ks=Km (st.drop i) ks'/\wr.ownsRow 0 407 7 (.slice (some ⟨w.heap.size,0,none⟩) ks'.length ks.length) ks'.length (C0 F8 ks')/\Bw w wr)
 case atStart=>exact⟨0,ks,rfl,by omega,rfl,by simp,Bd.o,A9.o⟩
 case round=>
  obtain⟨i,ks',rfl,hik,hkl,hle,hor,hbr⟩:=hrel;have HBr:=A0 hbr;have HLe:=A0 hle;have HOr:=A0 hor;have lsr:=hbr.size;clear hle;by_cases hlt:i<st.length
  ·obtain⟨g,k1,_,hcap,lg,hcell⟩:=G1 HS.o.1 z4ma;subst k1;have hcr:∀o,wr.cell? ⟨g,o,none⟩=w.cell? ⟨g,o,none⟩:=fun o=>D9 (hbr.block g lg);have lgr:=Cb lg hbr.size;have d0:=(hcr _).trans (hcell (i*8+0) _ ((D8 (f:=Fg) (sz:=8) (fun _=>rfl) st i 0 hlt z4ma).trans rfl));have d1:=(hcr _).trans (hcell (i*8+1) _ ((D8 (f:=Fg) (sz:=8) (fun _=>rfl) st i 1 hlt z4ma).trans rfl));have d2:=(hcr _).trans (hcell (i*8+2) _ ((D8 (f:=Fg) (sz:=8) (fun _=>rfl) st i 2 hlt z4ma).trans rfl));have d3:=(hcr _).trans (hcell (i*8+3) _ ((D8 (f:=Fg) (sz:=8) (fun _=>rfl) st i 3 hlt z4ma).trans rfl));have d4:=(hcr _).trans (hcell (i*8+4) _ ((D8 (f:=Fg) (sz:=8) (fun _=>rfl) st i 4 hlt z4ma).trans rfl));have d5:=(hcr _).trans (hcell (i*8+5) _ ((D8 (f:=Fg) (sz:=8) (fun _=>rfl) st i 5 hlt z4ma).trans rfl));have d6:=(hcr _).trans (hcell (i*8+6) _ ((D8 (f:=Fg) (sz:=8) (fun _=>rfl) st i 6 hlt z4ma).trans rfl));have d7:=(hcr _).trans (hcell (i*8+7) _ ((D8 (f:=Fg) (sz:=8) (fun _=>rfl) st i 7 hlt z4ma).trans rfl));replace d0:wr.cell? ⟨g,i*8,none⟩=some (.n (st[i].op)):=d0;have hu:=hst _ (Ho hlt);have hll:=HLe.o;rw[Gk hlt,Km]at hll;clear hcr hcell hbr hor;generalize st[i]=u at *;by_cases hop:u.op=3
   ·have t3:((u.op:Int)==3)=true:=by rw[hop];rfl
    by_cases har:u.arg<(ks.length:Nat)
    ·obtain⟨j,hj⟩:∃j:Nat,u.arg=(j:Nat):=⟨u.arg.toNat,by omega⟩;rw[A7 ⟨hop,by rw[hkl];exact har⟩,hj,O8]at hll;have hjl:j<ks'.length:=by omega
     have tj:((j:Nat):Int)<((ks.length:Nat):Int):=by omega
     have hjc:j<ks.length:=by omega
     have HLl:=A0 hll;have HPut:=A1v HOr.o (fun _=>rfl) j hjl E2;obtain⟨z0,y0⟩:=Ok HOr.o j 0 hjl z4ma;obtain⟨z1,y1⟩:=Ok HOr.o j 1 hjl z4ma;obtain⟨z2,y2⟩:=Ok HOr.o j 2 hjl z4ma;obtain⟨z3,y3⟩:=Ok HOr.o j 3 hjl z4ma;obtain⟨z4,y4⟩:=Ok HOr.o j 4 hjl z4ma;obtain⟨z5,y5⟩:=Ok HOr.o j 5 hjl z4ma;obtain⟨z6,y6⟩:=Ok HOr.o j 6 hjl z4ma;replace y0:wr.cell? ⟨w.heap.size,j*7,none⟩=some z0:=y0;have fz:∀o,wr.frozen? ⟨w.heap.size,o,none⟩=false:=A7z HOr.o;have lz:=O3 y0;rw[hj]at d1;clear hll hop har hj hu;go_wp2;go_roundg (gk-1)
     case measure=>omega
     case rel=>
      obtain⟨q1,q2,q3,q4,q5⟩:=N0 w.heap.size (F8 E2) (j*7) wr;refine⟨i+1,ks'.set j E2,by simp,by omega,by simp[hkl],HLl.o,Bc HPut (fun k _ hl=>Ck _ _ _ hl),?_⟩;have hbs:Bw w (wr.setCells w.heap.size (j*7) (F8 E2)):=⟨q1.trans HBr.o.os,q2.trans HBr.o.tape,q3.trans HBr.o.output,by rw[q4];exact HBr.o.size,fun k hk=>(q5 k z4ma).trans (HBr.o.block k hk)⟩;exact Ah hbs hbs.size _
    ·rw[A1 (fun q=>har (by rw[←hkl];exact q.2))]at hll;have ta:¬u.arg<((ks.length:Nat):Int):=har;have HLl:=A0 hll;clear hll hop har hu;exact z2aa
   ·have t3:((u.op:Int)==3)=false:=by rw[Am];omega
    rw[A1 (fun q=>hop q.1)]at hll;have HLl:=A0 hll;clear hll hop hu;exact z2aa
  ·have hll:=HLe.o;rw[Pz z4ma,Km]at hll;have HLl:=A0 hll;clear hll hor hbr;go_wp2;go_ret;refine⟨w.heap.size,rfl,?_,by rw[HLl.o];exact hkl,Af _,HBr.o⟩;have:=HOr.o;rw[HLl.o];rw[hkl]at this;exact this
def Apo{P:C5}{ps:List Kn}:∀(st:List Aa) (ab:List Kn),(Ix P ps ab st).length=st.length:=by
 intro st;induction st with
 | nil=>intro ab;rfl
 | cons i r ih=>intro ab;rw[Ix,Il,ih,Il]
structure Ve (w : World) (n : Nat) (bet : Array Value) (wr : World) (qs : List Kn) : Prop where
 row:Hz 407 7 F8 (w.heap.size+1) wr n qs
 form:wr.heap[w.heap.size+2]?=some (.cells #[.i 0,.slice none 0 0,.slice (some ⟨w.heap.size+1,0,none⟩) n n] 381 (0,0))
 bet:wr.heap[w.heap.size]?=some (.cells bet 41 (0,0))
 Fv:Bw w wr
def Ve.put{n:Nat}{bet:Array Value}{wr w3:World}{qs:List Kn}(h:Ve w n bet wr qs)(hb:Bw wr w3)(hq:qs.length<n)(x:Kn):Ve w n bet (w3.setCells (w.heap.size+1) (qs.length*7) (F8 x)) (qs++[x]):=by
 obtain⟨g1,g2,g3,g4,g5⟩:=N0 (w.heap.size+1) (F8 x) (qs.length*7) w3;have l1:=A6 h.form;have l2:=A6 h.bet;exact⟨(h.row.keep (hb.block _ h.row.lt)).put (fun _=>rfl) hq x,(g5 _ z4ma).trans ((hb.block _ l1).trans h.form),(g5 _ z4ma).trans ((hb.block _ l2).trans h.bet),⟨g1.trans (hb.os.trans h.Fv.os),g2.trans (hb.tape.trans h.Fv.tape),g3.trans (hb.output.trans h.Fv.output),by rw[g4];exact Fu h.Fv.size hb.size,fun k hk=>(g5 k z4ma).trans ((hb.block k (Cb hk h.Fv.size)).trans (h.Fv.block k hk))⟩⟩
def Ajj{K:Nat->Prop}{pb:Nat}{P:C5}(hp:M0 D w pb P)(hlo:∀g,D g->g<w.heap.size){b:Cl}{j:Nat}(hj:b.fn=(j:Nat)){f:Fn}(hf:P.fns[j]?=some f){ka ia:Option Addr}{kc ic:Nat}(hkv:Na K w (.slice ka b.kinds.length kc) (ints b.kinds))(hiv:Na K w (.slice ia b.ints.length ic) (ints b.ints))(hfit:∀f∈P.fns,Q4 P.fns.length 5000 f)(hst:f.steps.length<=90000)(hN:P.fns.length<=1000000) :
  Calls Tryz.prog 246 #[.p pb,.agg #[.i b.fn,.i b.after,.slice ka b.kinds.length kc,.slice ia b.ints.length ic]] w fun e w'=>∃fb E,e=.returned (.p fb)/\Oa E w' (some ⟨fb,0,none⟩) (some (G8 P b f))/\(∀g,E g->w.heap.size<=g/\g<w'.heap.size)/\Bw w w':=by
 rw[hj];have HJ:=A0 hj;clear hj;have hff:=hfit f (Gl hf);have hpar:f.params<=5000:=by have:=hff.1;have:=hff.2.1;omega
 obtain⟨hb,hc,sa,sn,sc,p3,hcc,hDp,hDb,lp,lh,hlt,e1,e2,e3,hown⟩:=hp.Y5 hf;have Bq:=Mr w (.cells #[.n j,.i b.after,.slice ka b.kinds.length kc,.slice ia b.ints.length ic] 41);have hq0:=Bp w (.cells #[.n j,.i b.after,.slice ka b.kinds.length kc,.slice ia b.ints.length ic] 41);obtain⟨w0,Dk⟩:∃w0,w0=w.alloc (.cells #[.n j,.i b.after,.slice ka b.kinds.length kc,.slice ia b.ints.length ic] 41):=⟨_,rfl⟩;have It:w0.heap.size=w.heap.size+1:=by rw[Dk];simp
 rw[←Dk]at Bq hq0;have hcw:∀(k o:Nat),k<w.heap.size->w0.cell? ⟨k,o,none⟩=w.cell? ⟨k,o,none⟩:=fun k o hk=>D9 (Bq.block k hk);have p3':=(hcw _ _ lp).trans p3;have e1':=(hcw _ _ lh).trans e1;have n0:=A4 hq0 0 _ rfl;have As:=A0 Dk;have lp0:=Cb lp Bq.size;have lh0:=Cb lh Bq.size;have lq0:=A6 hq0;have hb0':=Bq;have hq0':=hq0;clear hcw;obtain⟨w1,Fe⟩:∃w1,w1=w0.drew:=⟨_,rfl⟩;have A2:Bw w w1:=by rw[Fe];exact B8 Bq
 have hq1:w1.heap[w.heap.size]?=some (.cells #[.n j,.i b.after,.slice ka b.kinds.length kc,.slice ia b.ints.length ic] 41 (0,0)):=by rw[Fe];exact hq0
 have Ax:w1.heap.size=w.heap.size+1:=by rw[Fe];exact It
 have HW1:=A0 Fe;have hmk:=Sz (P:=Tryz.prog) 379 407 (.agg #[.bool false,.bool false,.i 0,.bool false,.i 0,.string ⟨#[]⟩,.pointer none]) 7 56 Tryz.underlying379 A1g .i64 .i64 f.params z4ma z4ma w1;have I4:=Hz.start (T:=407) (sz:=7) (f:=F8) w1 (Value.agg #[.bool false,.bool false,.i 0,.bool false,.i 0,.string ⟨#[]⟩,.pointer none]).cells f.params;have Ad:Bw w (w1.alloc (.cells (madeCells (Value.agg #[.bool false,.bool false,.i 0,.bool false,.i 0,.string ⟨#[]⟩,.pointer none]).cells (f.params*7)) 407)):=Ah A2 A2.size _;have Gd:=alloc_old (o':=.cells (madeCells (Value.agg #[.bool false,.bool false,.i 0,.bool false,.i 0,.string ⟨#[]⟩,.pointer none]).cells (f.params*7)) 407) hq1;have Bj:(w1.alloc (.cells (madeCells (Value.agg #[.bool false,.bool false,.i 0,.bool false,.i 0,.string ⟨#[]⟩,.pointer none]).cells (f.params*7)) 407)).heap.size=w.heap.size+2:=by simp[Ax]
 rw[Ax]at hmk I4;obtain⟨w2,Gh⟩:∃w2,w2=w1.alloc (.cells (madeCells (Value.agg #[.bool false,.bool false,.i 0,.bool false,.i 0,.string ⟨#[]⟩,.pointer none]).cells (f.params*7)) 407):=⟨_,rfl⟩;rw[←Gh]at hmk I4 Ad Gd Bj;clear Gh;have p31:=(D9 (A2.block pb lp)).trans p3;have e11:=(D9 (A2.block hb lh)).trans e1;have lp1:=Cb lp A2.size;have lh1:=Cb lh A2.size;have HN2:=A0 I4;have Ab:=A0 Ad;have HQ2:=A0 Gd;have Au:=A0 Bj;have HPr:=A0 hp;clear Dk Fe I4 Ad Gd Bq hq0 hb0' hq0' It Ax hq1 A2 Bj hp;go_in;go_wp2;rw[←As.o];refine Jt 7 z4pa z4pa ?_;simp only[Jh,J1,Ia,Hl];iterate 7 (refine Fm (fun K' hK'=>?_);go_simp;refine hK' _ ?_;clear hK' K')
 refine Js ?_;show wpList _ _ _ _ _ w0.drew;rw[←HW1.o];clear p3' e1' n0 lp0 lh0 lq0;go_wp2;rw[Au.o];have hI0:Ve w f.params #[.n j,.i b.after,.slice ka b.kinds.length kc,.slice ia b.ints.length ic] (w2.alloc (.cells #[.i 0,.slice none 0 0,.slice (some ⟨w.heap.size+1,0,none⟩) f.params f.params] 381)) []:=by
  refine⟨HN2.o.keep (Ck _ _ _ HN2.o.lt),?_,alloc_old HQ2.o,Ah Ab.o Ab.o.size _⟩;rw[←Au.o];exact Bp _ _
 have Aw:=A0 hI0;clear hI0 HN2 HQ2 Ab;go_loopg [28] f.params (fun k v wr=>∃i:Nat,v=.i i/\i+k=f.params/\Ve w f.params #[.n j,.i b.after,.slice ka b.kinds.length kc,.slice ia b.ints.length ic] wr ((List.range i).map (Ku b)))
 case atStart=>exact⟨0,rfl,by omega,Aw.o⟩
 case round=>
  obtain⟨i,rfl,hik,hI⟩:=hrel;have HI:=A0 hI;have f2:=A4 hI.form 2 _ rfl;have lf:=A6 hI.form;have m0:=A4 hI.bet 0 _ rfl;have m1:=A4 hI.bet 1 _ rfl;have m2:=A4 hI.bet 2 _ rfl;have m3:=A4 hI.bet 3 _ rfl;have lm:=A6 hI.bet;by_cases hlt:i<f.params
  ·have hbd:Bw w wr.drew:=B8 hI.Fv;have HBt:=Aem (w:=wr.drew) (b:=b) i (hkv.keep (K':=K) (fun g hg hl=>⟨hbd.block g hl,hg⟩) hbd.size) (hiv.keep (K':=K) (fun g hg hl=>⟨hbd.block g hl,hg⟩) hbd.size);rw[HJ.o]at HBt;have hql:((List.range i).map (Ku b)).length=i:=by simp
   have HPut:=fun(w3:World) (hb:Bw wr w3)=>HI.o.put hb (by rw[hql];exact hlt) (Ku b i);rw[hql]at HPut;have HRg:(List.range i).map (Ku b)++[Ku b i]=(List.range (i+1)).map (Ku b):=by show _=_;rw[List.range_succ,V0];rfl
   rw[HRg]at HPut;have HRw:=A0 hI.row;have lrw:=hI.row.lt;unfold KP Bm at HBt;unfold F8 at HPut;generalize Ku b i=x at *;clear hI hbd hql;have HFm:=A0 HI.o.form;go_wp2;go_region_law (refine F9 rfl 275 _ _ rfl #[.agg #[.n j,.i b.after,.slice ka b.kinds.length kc,.slice ia b.ints.length ic],.n i] z4pa HBt ?_;rintro e w3 ⟨rfl,Ay⟩;refine⟨_,rfl,?_⟩;have hb3':Bw wr w3:=Ib (b:=wr.drew) ⟨rfl,rfl,rfl,Af _,fun _ _=>rfl⟩ Ay;have hrw3:=HRw.o.keep (w':=w3) (hb3'.block _ lrw);have hfm3:=(hb3'.block _ lf).trans HFm.o;have f23:=A4 hfm3 2 _ rfl;have lf3:=A6 hfm3;obtain⟨z0,y0⟩:=hrw3.cells i 0 hlt z4ma;obtain⟨z1,y1⟩:=hrw3.cells i 1 hlt z4ma;obtain⟨z2,y2⟩:=hrw3.cells i 2 hlt z4ma;obtain⟨z3,y3⟩:=hrw3.cells i 3 hlt z4ma;obtain⟨z4,y4⟩:=hrw3.cells i 4 hlt z4ma;obtain⟨z5,y5⟩:=hrw3.cells i 5 hlt z4ma;obtain⟨z6,y6⟩:=hrw3.cells i 6 hlt z4ma;replace y0:w3.cell? ⟨w.heap.size+1,i*7,none⟩=some z0:=y0;have fz:=hrw3.frozen;have lr3:=hrw3.lt;have HNx:=A0 (HPut w3 hb3');clear Ay hb3' hrw3 hfm3)
   all_goals
    go_wp2;go_roundg (gk-1)
    case measure=>omega
    case rel=>exact⟨i+1,by simp,by omega,HNx.o⟩
  ·have hi:i=f.params:=by omega
   subst hi;have hbr:=hI.Fv;have hks:((List.range f.params).map (Ku b)).length=f.params:=by simp
   have hrow0:=hI.row.done (fun _=>rfl) hks z4ma;have hce3:=(D9 (hbr.block hb lh)).trans e3;have hce2:=(D9 (hbr.block hb lh)).trans e2;have hown':=hown.keep (D':=D) (w':=wr) (fun g hg hl=>⟨hbr.block g hl,hg⟩);have HPr':=HPr.o.keep (E':=D) (w':=wr) (fun g hg hl=>⟨hbr.block g hl,hg⟩);have HFm:=A0 hI.form;have HKr:∀x∈(List.range f.params).map (Ku b),x.like.r=none:=fun x hx=>by
    simp only[Qu]at hx;obtain⟨i,_,rfl⟩:=hx;exact p8 b i
   clear hI;have HNw:G8 P b f=⟨f.slots,Ix P (Km f.steps ((List.range f.params).map (Ku b))) [] f.steps,(List.range f.params).map (Ku b)⟩:=rfl;generalize (List.range f.params).map (Ku b)=ks at *;rw[←hks]at hrow0;have HRow:=A0 hrow0;have HLs:=Alx (w:=wr) (fo:=j*4) hce3 hown' (fun i hi=>(hff.2.2 i hi).1) hst hrow0 z4ma;rw[hks]at HLs;have lbr:=Cb lh hbr.size;have HOw:=A0 hown';clear hrow0 hown';go_wp2_with fail
   refine HLs.mono ?_;rintro e w4 ⟨tb,rfl,Cx,hl4,ht4,Bz⟩;have hfm4:=(Bz.block _ lf).trans HFm.o;have HFm4:=A0 hfm4;have lf4:=A6 hfm4;have D6:Bw w w4:=hbr.trans (Bz.mono hbr.size);have hb45:=Mr w4 (.cells #[.p pb,.slice (some ⟨tb,0,none⟩) f.params f.params,.slice none 0 0] 414);have hq45:=Bp w4 (.cells #[.p pb,.slice (some ⟨tb,0,none⟩) f.params f.params,.slice none 0 0] 414);have ltb:tb<w4.heap.size:=Bs Cx tb rfl;have hsz4:w.heap.size+2<wr.heap.size:=lf;have hkw4:∀g,D g->w4.heap[g]?=w.heap[g]?:=fun g hg=>D6.block g (hlo g hg);have hMk:Gf (fun g=>D g\/g=tb) w4.heap.size pb P (Km f.steps ks) (some ⟨tb,0,none⟩) f.params (w4.alloc (.cells #[.p pb,.slice (some ⟨tb,0,none⟩) f.params f.params,.slice none 0 0] 414)) [] none 0:=by
    have hl5:(Km f.steps ks).length=f.params:=hl4;refine⟨⟨by rw[hl5];exact hq45,rfl,⟨rfl,.inl ⟨rfl,rfl⟩⟩,by simp[Value.ownBlock]⟩,⟨?_,fun g hg=>?_⟩,HPr.o.keep (fun g hg hl=>⟨(Ck _ _ _ (Cb hl D6.size)).trans (D6.block g hl),.inl hg⟩),⟨fun hd=>?_,fun g hg=>by simp[Value.ownBlock]at hg⟩,fun g hg=>?_,⟨by simp,by rw[hl5];exact hpar⟩⟩
    ·rw[hl5];have:=Bc (w':=w4.alloc (.cells #[.p pb,.slice (some ⟨tb,0,none⟩) f.params f.params,.slice none 0 0] 414)) Cx (fun k _ hl=>Ck _ _ _ hl);exact this
    ·rw[hl5]at hg;simp only[Value.ownBlock,Cg]at hg;exact .inr hg.symm
    ·rcases hd with hd|hd
     ·have:=hlo _ hd;have:=D6.size;omega
     ·omega
    ·rw[K3];rcases hg with hg|hg
     ·have:=hlo _ hg;have:=D6.size;omega
     ·omega
   have hBd:N8 (fun g=>D g\/g=tb) (w4.alloc (.cells #[.p pb,.slice (some ⟨tb,0,none⟩) f.params f.params,.slice none 0 0] 414)) hb (j*4+2) f.slots f.steps sa sn sc:=by
    have hcw:∀o,(w4.alloc (.cells #[.p pb,.slice (some ⟨tb,0,none⟩) f.params f.params,.slice none 0 0] 414)).cell? ⟨hb,o,none⟩=w.cell? ⟨hb,o,none⟩:=fun o=>D9 ((Ck _ _ _ (Cb lh D6.size)).trans (D6.block hb lh));exact⟨.inl hDb,(hcw _).trans e2,(hcw _).trans e3,hown.keep (fun g hg hl=>⟨(Ck _ _ _ (Cb hl D6.size)).trans (D6.block g hl),.inl hg⟩)⟩
   have HBy:=Al1 hMk hBd hff.2.2 hN (fun g hg=>by have:=(hfit g hg).1;have:=(hfit g hg).2.1;omega) hst;have Ce:=A0 Cx;have HBw4:=A0 Bz;clear hMk hBd hb45 hq45 Cx hfm4 Bz HLs;have HRow4:w4.ownsRow 0 407 7 (.slice (some ⟨w.heap.size+1,0,none⟩) f.params f.params) f.params (C0 F8 ks):=by
    have:=Bc (w':=w4) HRow.o (fun k hk hl=>HBw4.o.block k hl);rw[hks]at this;exact this
   go_wp2_with fail
   refine HBy.mono ?_;rintro e w5 ⟨tb2,rfl,Fc,ht5,hf5⟩;rw[K3]at ht5;have hsz5:=hf5.size;rw[K3]at hsz5;have hk5:∀k,k<w4.heap.size->w5.heap[k]?=w4.heap[k]?:=fun k hk=>(hf5.block k (by rw[K3];omega) z4ma z4ra).trans (Ck _ _ _ hk);have hfm5:=(hk5 _ lf4).trans HFm4.o;have HFm5:=A0 hfm5;have s0:=A4 hfm5 0 _ rfl;have s1:=A4 hfm5 1 _ rfl;have s2:=A4 hfm5 2 _ rfl;have fs:=By hfm5;have lf5:=A6 hfm5;have ltb2:tb2<w5.heap.size:=Bs Fc tb2 rfl;have Cq:=A0 Fc;have HR5:=Bc (w':=w5) HRow4 (fun k hk hl=>hk5 k hl);have Ez:Bw w w5:=⟨hf5.os.trans D6.os,hf5.tape.trans D6.tape,hf5.output.trans D6.output,by have:=D6.size;omega,fun k hk=>(hk5 k z4ma).trans (D6.block k hk)⟩;have ls4:=D6.size;clear hfm5 Fc hf5 hk5 HBy;go_wp2;go_ret;have hset:∀k,k≠w.heap.size+2->((w5.setCell ⟨w.heap.size+2,0,none⟩ (.n f.slots)).setCell ⟨w.heap.size+2,1,none⟩ (.slice (some ⟨tb2,0,none⟩) f.steps.length f.steps.length)).heap[k]?=w5.heap[k]?:=fun k hk=>(Bh _ _ _ _ z5ja).trans (Bh _ _ _ _ z5ja);have hfin:((w5.setCell ⟨w.heap.size+2,0,none⟩ (.n f.slots)).setCell ⟨w.heap.size+2,1,none⟩ (.slice (some ⟨tb2,0,none⟩) f.steps.length f.steps.length)).heap[w.heap.size+2]?=some (.cells #[.n f.slots,.slice (some ⟨tb2,0,none⟩) f.steps.length f.steps.length,.slice (some ⟨w.heap.size+1,0,none⟩) f.params f.params] 381 (0,0)):=heap_set (j:=1) (heap_set (j:=0) HFm5.o _) _;have hsz9:((w5.setCell ⟨w.heap.size+2,0,none⟩ (.n f.slots)).setCell ⟨w.heap.size+2,1,none⟩ (.slice (some ⟨tb2,0,none⟩) f.steps.length f.steps.length)).heap.size=w5.heap.size:=by simp[World.setCell]
   refine⟨w.heap.size+2,fun g=>g=w.heap.size+2\/g=w.heap.size+1\/g=tb2,rfl,?_,?_,?_⟩
   ·rw[HNw];refine⟨w.heap.size+2,_,_,_,_,_,_,rfl,.inl rfl,hfin,⟨?_,fun g hg=>?_⟩,⟨?_,fun g hg=>?_⟩⟩
    ·have hql:(Ix P (Km f.steps ks) [] f.steps).length=f.steps.length:=Apo _ _;rw[hql];exact Bc Cq.o (fun k hk _=>hset k z5sa)
    ·simp only[Value.ownBlock,Cg]at hg;exact .inr (.inr hg.symm)
    ·have:=Bc (w':=((w5.setCell ⟨w.heap.size+2,0,none⟩ (.n f.slots)).setCell ⟨w.heap.size+2,1,none⟩ (.slice (some ⟨tb2,0,none⟩) f.steps.length f.steps.length))) HR5 (fun k hk _=>hset k z5sa);rw[hks];exact this
    ·simp only[Value.ownBlock,Cg]at hg;exact .inr (.inl hg.symm)
   ·intro g hg;rw[hsz9];rcases hg with rfl|rfl|rfl <;> omega
   ·exact B0 (B0 Ez (by exact A3h _ _) _) (by exact A3h _ _) _
