import Derived.Test.YtjdlndhfaaolaaaGreatDoorV24
set_option maxHeartbeats 20000000
namespace Go.Proofs.YtjdlndhfaaolaaaGreatDoor
section
set_option maxRecDepth 100000
open Go.RowKit
open Go.Deep (BT)
theorem Aq7(K:EC)(l:A6)(c:BT A6)(hwf:Wf 1 c)(hlp:Lp c 0)(D:Nat->Prop)(w:World)(slots:Nat)(st:List Ac)(b:Nat)(pa:Option Addr)(pn pc:Nat)(va:Option Addr)(vn vc:Nat)(ks:List Value)
  (hst:K.St [] D w ⟨[],slots,st,[]⟩) (hD:D b) (hblk:w.heap[b]?=some (.cells #[.int .i64 (l.line:Nat),.string ⟨l.s.toArray⟩,.slice pa pn pc,.slice va vn vc] 218 (0,0)))
  (hprm:Cw D w 148 2 (.slice pa pn pc) l.ps.length (Kt l.ps)) (hown:Cw D w 142 1 (.slice va vn vc) ks.length ks) (hrep:An D w c ks) (A1:l.ps.length+bsize c<=80000) :
  Calls Tryz.prog 53 #[.pointer (some ⟨K.wb,0,none⟩),.pointer (some ⟨b,0,none⟩)] w fun r w'=>∃sa sn sc,r=.returned (.agg #[.string ⟨l.s.toArray⟩,.int .i64 (l.ps.length:Nat),.int .i64 ((N3 K.fns K.gl l c).slots:Nat),.slice sa sn sc])/\
   w'.ownsRow 0 251 8 (.slice sa sn sc) (N3 K.fns K.gl l c).steps.length (Ek (N3 K.fns K.gl l c).steps)/\(∀g,(Value.slice sa sn sc).ownBlock=some g->¬D g)/\K.St [] (fun g=>D g\/(Value.slice sa sn sc).ownBlock=some g) w' ⟨[],slots,st,[]⟩/\A3 D w w':=by
 obtain⟨hlw,lcb,hncb⟩:=hst.lo;have hpn:pn=l.ps.length:=(C9 hprm.1).1;subst hpn;obtain⟨ρ,la,ln,lc,qa,qn,qc,bl,h,hlb⟩:=hst;obtain⟨sa,sn,sc,hv⟩:=h.ew;obtain⟨c0,c1,c2,c3,c4,c5,fz,lb⟩:=Tu hv.cell;obtain⟨d0,d1,d2,d3,fd,ld⟩:=E5 hblk;have hwbb:K.wb≠b:=fun e=>hncb (by rw[e];exact hD);obtain⟨w0,Cz⟩:∃w0,w0=(((w.setCell ⟨K.wb,4,none⟩ (.int .i64 0)).setCell ⟨K.wb,5,none⟩ (.slice none 0 0)).alloc (.cells #[.string ⟨#[]⟩,.int .i64 0,.int .i64 0,.slice none 0 0] 103)).alloc (.cells #[.int .i64 (slots:Nat),.slice sa sn sc] 98):=⟨_,rfl⟩;have hk0:∀g,g<w.heap.size->g≠K.wb->w0.heap[g]?=w.heap[g]?:=by
  intro g hg hne;rw[Cz,Below.heap_alloc _ _ _ (by simp[World.setCell];omega),Below.heap_alloc _ _ _ (by simp[World.setCell];omega),Below.heap_setCell _ _ _ _ z5ma,Below.heap_setCell _ _ _ _ z5ma]
 have hc0:w0.heap[K.wb]?=some (.cells #[.slice K.fa K.fn K.fc,.slice K.ga K.gn K.gc,.slice la ln lc,.slice qa qn qc,.int .i64 ((0:Nat):Int),.slice none 0 0] K.te (0,0)):=by
  rw[Cz,Below.heap_alloc _ _ _ (by simp[World.setCell];omega),Below.heap_alloc _ _ _ (by simp[World.setCell];omega)];have:=heap_set (j:=5) (heap_set (j:=4) hv.cell (.int .i64 0)) (.slice none 0 0);rw[this];simp
 have Gt:w0.heap.size=w.heap.size+2:=by rw[Cz];simp[World.setCell]
 have hR0:w0.heap[w.heap.size]?=some (.cells #[.string ⟨#[]⟩,.int .i64 0,.int .i64 0,.slice none 0 0] 103 (0,0)):=by
  rw[Cz,Below.heap_alloc _ _ _ z58a];have:=heap_alloc_new ((w.setCell ⟨K.wb,4,none⟩ (.int .i64 0)).setCell ⟨K.wb,5,none⟩ (.slice none 0 0)) (.cells #[.string ⟨#[]⟩,.int .i64 0,.int .i64 0,.slice none 0 0] 103);simpa [World.setCell]using this
 have hO0:w0.heap[w.heap.size+1]?=some (.cells #[.int .i64 (slots:Nat),.slice sa sn sc] 98 (0,0)):=by
  rw[Cz];have:=heap_alloc_new (((w.setCell ⟨K.wb,4,none⟩ (.int .i64 0)).setCell ⟨K.wb,5,none⟩ (.slice none 0 0)).alloc (.cells #[.string ⟨#[]⟩,.int .i64 0,.int .i64 0,.slice none 0 0] 103)) (.cells #[.int .i64 (slots:Nat),.slice sa sn sc] 98);simpa [World.setCell]using this
 obtain⟨⟨ρ1,h1,Bl⟩,hbd0⟩:=h.swap hv D (World.ownsRow_nil w 0 251 8) (st':=[]) (slots':=0) (fun g hg=>by simp[Value.ownBlock]at hg) (fun g hg=>⟨hg,by simp[Value.ownBlock]⟩) h.fr h.gr hc0 w.heap.size (.inr (Nat.le_refl _)) (fun g h1 h2 _=>hk0 g h1 h2) z4va (by rw[Cz];rfl) (by rw[Cz];rfl) (by rw[Cz];rfl);obtain⟨sa1,sn1,sc1,G5⟩:=h1.ew;have hc0':=G5.cell.symm.trans hc0;simp only[Option.some.injEq,Obj.cells.injEq,Array.mk.injEq,List.cons.injEq,Value.slice.injEq]at hc0';obtain⟨⟨_,_,_,_,_,⟨rfl,rfl,rfl⟩,_⟩,_⟩:=hc0';obtain⟨ρ2,h2⟩:=h1.more G5 (fun g=>g=w.heap.size\/g=w.heap.size+1) (fun g hg=>⟨by omega,Bl g z4va,by simp[Value.ownBlock]⟩);have hblE:bl=[]:=by cases bl with
  | nil=>rfl
  | cons x y=>simp at hlb
 subst hblE;have Ap:Hid (K.St [] (fun g=>(D g\/(Value.slice sa sn sc).ownBlock=some g)\/(g=w.heap.size\/g=w.heap.size+1)) w0 ⟨[],0,[],[]⟩):=⟨_,_,_,_,_,_,_,_,h2,rfl⟩;have Af:=A0 hbd0;have hSD:∀g,(Value.slice sa sn sc).ownBlock=some g->¬D g:=fun g hg hd=>(hv.D5 g hg).1 (h.dx g hd);have HSD:=A0 hSD;have HOwnS:Hid (w0.ownsRow 0 251 8 (.slice sa sn sc) st.length (Ek st)):=B4 hv.own (fun g hg hl=>hk0 g hl (hv.D5 g hg).2);have HOwnS0:=A0 hv.own;have HFr:=A0 h.fr;have HGr:=A0 h.gr;have HR0:=A0 hR0;have HO0:=A0 hO0;have HBlk:=A0 hblk;have HPrm:=A0 hprm;have HRun:=A0 (fun(W:World) (e2:Em) (hx:K.St [] (fun g=>(D g\/(Value.slice sa sn sc).ownBlock=some g)\/(g=w.heap.size\/g=w.heap.size+1)) W e2) (hbd:A3 D w W) (h1:e2.lps=[]) (h2:e2.st=[]) (h3:e2.loc.length<=l.ps.length)=>A52 K c ((A51 K c).1 hwf) [] _ W e2 va vn vc ks hx ((hown.Bq hbd).weak (fun g hg=>.inl (.inl hg))) (An.keep (fun g hg _=>⟨rfl,.inl (.inl hg)⟩) _ _ (hrep.Bq hbd)) (by rw[h1];exact hlp) (fun x hx=>by rw[h1]at hx;cases hx) (by rw[h2];simp;omega) z4va (by rw[h1];simp;omega));have Am:=A0 Cz;have hsw0:=Gt;have HD3:=A0 d3;clear hblk hprm hown hrep h hv h1 G5 h2 Bl hk0 hc0 hR0 hO0 Gt Cz hSD hbd0 hlb;go_enter Tryz.func53,Tryz.ntmps53;go_wp2;rw[←Am.o];clear Am c0 c1 c2 c3 c4 c5 fz lb d0 d1 d2 d3 fd ld;go_loopg [22] l.ps.length (fun k v wr=>∃(i:Nat),v=.int .i64 i/\i+k=l.ps.length/\K.St [] (fun g=>(D g\/(Value.slice sa sn sc).ownBlock=some g)\/(g=w.heap.size\/g=w.heap.size+1)) wr ⟨(l.ps.take i).map Prod.snd,i,[],[]⟩/\A3 (fun g=>(D g\/(Value.slice sa sn sc).ownBlock=some g)\/(g=w.heap.size\/g=w.heap.size+1)) w0 wr)
 case atStart=>exact⟨0,rfl,by omega,Ap.o,A3.refl _ _⟩
 case round=>
  clear Ap;obtain⟨i,rfl,hik,hst,hbel⟩:=hrel;have HSt:=A0 hst;have HBel:=A0 hbel;have HBD:Hid (A3 D w wr):=Af.o.trans (hbel.weak (fun g hg=>.inl (.inl hg)));clear hst hbel;by_cases hlt:i<l.ps.length
  ·obtain⟨g,rfl,hvn9,hcap,lg,hcell⟩:=Fo (HPrm.o.Bq HBD.o).1 z4va;clear hvn9;have p0:=hcell (i*2) _ (Ur l.ps i hlt).1;have p1:=hcell (i*2+1) _ (Ur l.ps i hlt).2;have hnm:(⟨(l.ps.take i).map Prod.snd,i,[],[]⟩:Em).local' l.ps[i].2=⟨(l.ps.take (i+1)).map Prod.snd,i+1,[],[]⟩:=by
    unfold Em.local';simp only[List.take_succ_eq_append_getElem hlt,List.map_append,List.map_cons,List.map_nil,List.length_map,List.length_take];congr 1
    omega
   have HNm:=A0 hnm;have HLoc:=A0 (fun(o:Obj)=>A4y (HSt.o.alloc o) z4ya l.ps[i].2);have hlo9:=HSt.o.lo.1;clear hcell hnm;have HLo9:=A0 hlo9;clear hlo9;generalize l.ps[i]=prm at *;go_wp2_with fail
   refine(HLoc.o _).mono ?_;rintro r w7 ⟨rfl,G4,Ik⟩;rw[HNm.o]at G4;have HS7:=A0 G4;have HB7:=A0 (HBel.o.trans (((A3.refl _ wr).alloc HLo9.o _).trans Ik));clear G4 Ik;go_wp2;go_roundg (gk-1)
   case measure=>omega
   case rel=>exact⟨i+1,rfl,by omega,HS7.o,HB7.o⟩
  ·obtain rfl:i=l.ps.length:=by omega
   rw[List.take_length]at HSt;have hbk9:=(HBD.o.block b hD).trans HBlk.o;have d3:=A2 hbk9 3 _ rfl;have ld:=A5 hbk9;clear hbk9;go_wp2_with fail
   refine(HRun.o _ _ HSt.o HBD.o rfl rfl z50a).mono ?_;rintro r w1 ⟨rfl,Ak,A1⟩;have A7:=A0 Ak;have A4:=A0 (HBel.o.trans A1);have hln1:=(On K.fns K.gl c).1 ⟨l.ps.map Prod.snd,l.ps.length,[],[]⟩;simp only[List.length_nil,Nat.zero_add]at hln1;clear Ak A1 d3 ld;generalize Hu:em K.fns K.gl c 0 ⟨l.ps.map Prod.snd,l.ps.length,[],[]⟩=C0 at *;go_wp2_with fail
   refine(A7.o.step z4va 43 0 0).mono ?_;rintro r w2 ⟨rfl,B0,A8⟩;have Aa:=A0 (A4.o.trans A8);have hlb2:=B0.lo.2.1;obtain⟨ρ3,la3,ln3,lc3,pa3,pn3,pc3,bl3,h3,hlb3⟩:=B0;obtain⟨sa3,sn3,sc3,hv3⟩:=h3.ew;have HCut:=A0 (Ya (h3.Ls hv3) 0 (Nat.zero_le _) z50a);have HTo:=A0 (fun(w9:World) hp=>h3.j9 0 hv3 (w':=w9) hp);rw[hlb3]at HTo;clear h3 hv3 A8;go_wp2_with fail
   refine HCut.o.mono ?_;rintro r w3 ⟨rfl,hp⟩;obtain⟨k1,k2⟩:=HTo.o w3 hp;have Av:=A0 (Aa.o.trans k2);obtain⟨ρ4,la4,ln4,lc4,pa4,pn4,pc4,bl4,h4,hlb4⟩:=k1;obtain⟨sa4,sn4,sc4,hv4⟩:=h4.ew;have hbl4:bl4=[]:=by cases bl4 with
    | nil=>rfl
    | cons x y=>simp at hlb4
   subst hbl4;obtain⟨c0,c1,c2,c3,c4,c5,fz,lb⟩:=Tu hv4.cell;have HBD3:Hid (A3 D w w3):=Af.o.trans (Av.o.weak (fun g hg=>.inl (.inl hg)));have Ej:=(HBD3.o.block b hD).trans HBlk.o;obtain⟨d0,d1,d2,d3,fd,ld⟩:=E5 Ej;have hO3:=(Av.o.block (w.heap.size+1) (.inr (.inr rfl))).trans HO0.o;have o0:=A2 hO3 0 _ rfl;have o1:=A2 hO3 1 _ rfl;have lo:=A5 hO3;have I8:=(Av.o.block w.heap.size (.inr (.inl rfl))).trans HR0.o;obtain⟨r0,r1,r2,r3,fr,lr⟩:=E5 I8;have hle4:((C0.step 43 0 0).cut 0).lps=[]:=by have:=h4.lps.len;exact List.length_eq_zero_iff.1 this.symm
   have hend:=fun v0 v1 v2 v3 o W=>Aq6 (D:=D) (slots:=slots) h4 hv4 w.heap.size (B4 HOwnS.o (fun g hg _=>Av.o.block g (.inl (.inr hg)))) (fun g hg=>.inl (.inr hg)) HSD.o (fun g hg=>.inl (.inl hg)) (.inr (.inl rfl)) (fun hd=>by have:=hlw _ hd;omega) (fun e=>by have:=Bn HOwnS0.o _ e;omega) (HFr.o.keep HBD3.o) (HGr.o.Bq HBD3.o) v0 v1 v2 v3 o W;have hemF:N3 K.fns K.gl l c=⟨l.s,l.ps.length,((C0.step 43 0 0).cut 0).slots,((C0.step 43 0 0).cut 0).st⟩:=by unfold N3;rw[Hu];rfl
   rw[hle4,show((C0.step 43 0 0).cut 0).loc=[] from rfl]at hend;have HEnd:=A0 hend;have HSn:Hid (∀g,(Value.slice sa4 sn4 sc4).ownBlock=some g->¬D g):=fun g hg hd=>(hv4.D5 g hg).1 (h4.dx g (.inl (.inl hd)));have HEmF:=A0 hemF;clear hp k2 hend hle4 hemF HCut HTo Ej hO3 I8 h4 hv4 hlb4;go_wp2;go_region
   all_goals go_wp2
   all_goals
    refine bodyPost_ret (v:=.agg #[.string ⟨l.s.toArray⟩,.int .i64 (l.ps.length:Nat),.int .i64 (((C0.step 43 0 0).cut 0).slots:Nat),.slice sa4 sn4 sc4]) (by simp[results,Tryz.results53,go_sem,lr,r0,r1,r2,r3]) rfl ?_;rw[HEmF.o];obtain⟨q1,q2,q3⟩:=HEnd.o _ _ _ _ _ _ rfl;exact⟨sa4,sn4,sc4,rfl,q1,HSn.o,q2,HBD3.o.trans q3⟩
end
section
open Go.RowKit
open Go.Deep (BT)
variable {K:EC} {D:Nat->Prop} {w w':World} {e:Em} {ρ:Nat->Nat} {la:Option Addr} {ln lc:Nat} {pa:Option Addr} {pn pc:Nat} {bl:List LB}
theorem Aed:(Tryz.prog.info? 103).map (fun i=>(i.zero,i.size,i.bytes))=some (some (.agg #[.string ⟨#[]⟩,.int .i64 0,.int .i64 0,.slice none 0 0]),4,56):=by kernel_rfl
def Lz(D:Nat->Prop)(w:World):List Fn->List Value->Prop
 | [],cs=>cs=[]
 | f::r,cs=>∃sa sn sc rest,cs=Ld f.name::.int .i64 (f.params:Nat)::.int .i64 (f.slots:Nat)::.slice sa sn sc::rest/\Cw D w 251 8 (.slice sa sn sc) f.steps.length (Ek f.steps)/\Lz D w r rest
theorem Lz.keep{D':Nat->Prop}(hk:∀g,D g->g<w.heap.size->w'.heap[g]?=w.heap[g]?/\D' g):∀{fs:List Fn} {cs:List Value},Lz D w fs cs->Lz D' w' fs cs:=by
 intro fs;induction fs with
 | nil=>intro cs h;exact h
 | cons f r ih=>
  intro cs h;obtain⟨sa,sn,sc,rest,e1,h1,h2⟩:=h;exact⟨sa,sn,sc,rest,e1,h1.keep hk,ih h2⟩
theorem Lz.app:∀{fs:List Fn} {cs:List Value},Lz D w fs cs->∀{f:Fn} {sa:Option Addr} {sn sc:Nat},Cw D w 251 8 (.slice sa sn sc) f.steps.length (Ek f.steps)->Lz D w (fs++[f]) (cs++[Ld f.name,.int .i64 (f.params:Nat),.int .i64 (f.slots:Nat),.slice sa sn sc]):=by
 intro fs;induction fs with
 | nil=>intro cs h f sa sn sc ho;rw[Lz]at h;subst h;exact⟨sa,sn,sc,[],rfl,ho,rfl⟩
 | cons g r ih=>
  intro cs h f sa sn sc ho;obtain⟨ta,tn,tc,rest,rfl,h1,h2⟩:=h;exact⟨ta,tn,tc,rest++_,rfl,h1,ih h2 ho⟩
theorem z2ta {P:Prop} (h:P:=by
  intro g hg;rcases hD' g hg with h1|h1
  ·have:=h.prot g h1;exact⟨Nat.lt_of_lt_of_le this.1 hs,by rw[Bm this.1];exact this.2⟩
  ·exact⟨h1.2,Hj h1.1⟩):P:=h
theorem EC.Sv.zero(h:K.Sv D w e ρ la ln lc pa pn pc bl)(D':Nat->Prop)(hD':∀g,D' g->D g\/(w.heap.size<=g/\g<w'.heap.size))(hk:∀g,g<w.heap.size->¬D g->w'.heap[g]?=w.heap[g]?)(hs:w.heap.size<=w'.heap.size)
  (hfr:Ic D' w' K.fns K.fa K.fn K.fc) (hgr:Cw D' w' 9 1 (.slice K.ga K.gn K.gc) K.gl.length (Df K.gl)):K.Sv D' w' e (F2 ρ w.heap.size 0) la ln lc pa pn pc bl:=by
 obtain⟨sa,sn,sc,hv⟩:=h.ew;have hwb:=A5 hv.cell;have h4:=hv.Qy h.one.2;have hz:∀g,g<w.heap.size->ρ g≠0->w'.heap[g]?=w.heap[g]?:=fun g hg h0=>hk g hg (fun hd=>h0 (h.prot g hd).2);refine⟨⟨sa,sn,sc,(hz _ hwb z5ia).trans hv.cell,B4 hv.own (fun g hg hl=>hz g hl z5ha),fun hd=>hd.2.1 (by rw[Bm hwb];exact h.one.1),fun g hg=>⟨fun hd=>hd.2.2 (by rw[Bm (Bn hv.own g hg)];exact h4 g hg),(hv.D5 g hg).2⟩,fun g hg=>hg.1⟩,hfr,hgr,B4 h.lr (fun g hg hl=>hz g hl z6na),fun g hg=>by rw[Bm (Bn h.lr g hg)];exact h.lro g hg,
  B4 h.pr (fun g hg hl=>hz g hl z6la),fun g hg=>by rw[Bm (Bn h.pr g hg)];exact h.pro g hg,h.lps.keep bl.length (fun g hl h5 _=>⟨hz g hl z4va,Bm hl⟩) (Nat.le_refl _),?_,P4 h.one hwb z4va,h.Br⟩
 exact z2ta
theorem Np.drop:∀(i:Nat) (c:BT A6),Np c->Np (Ca i c):=by
 intro i;induction i with
 | zero=>intro c h;rw[show Ca 0 c=c from by cases c <;> rfl];exact h
 | succ i ih=>
  intro c h;cases c with
  | nil=>exact h
  | node x y l c r=>exact ih r h.2
def EC.A17(K:EC)(s:Nm)(ga:Option Addr)(gn gc:Nat):EC:=⟨K.wb,K.te,K.fns,K.fa,K.fn,K.fc,K.gl++[s],ga,gn,gc⟩
theorem EC.Sv.Yc(h:K.Sv D w e ρ la ln lc pa pn pc bl)(D':Nat->Prop)(s:Nm)(ga:Option Addr)(gn gc:Nat)(hD':∀g,D' g->D g\/(w.heap.size<=g/\g<w'.heap.size)){sa:Option Addr}{sn sc:Nat}(hv:Ho (dX w.heap.size ρ) K.wb K.te w (.slice K.fa K.fn K.fc) (.slice K.ga K.gn K.gc) (.slice la ln lc) (.slice pa pn pc) e.slots e.st sa sn sc)
  (hcell:w'.heap[K.wb]?=some (.cells #[.slice K.fa K.fn K.fc,.slice ga gn gc,.slice la ln lc,.slice pa pn pc,.int .i64 (e.slots:Nat),.slice sa sn sc] K.te (0,0))) (hk:∀g,g<w.heap.size->g≠K.wb->¬D g->w'.heap[g]?=w.heap[g]?) (hs:w.heap.size<=w'.heap.size)
  (hfr:Ic D' w' K.fns K.fa K.fn K.fc) (hgr:Cw D' w' 9 1 (.slice ga gn gc) (K.gl++[s]).length (Df (K.gl++[s]))) (hn:K.gl.length+1<=100000):(K.A17 s ga gn gc).Sv D' w' e (F2 ρ w.heap.size 0) la ln lc pa pn pc bl:=by
 have hwb:=A5 hv.cell;have h4:=hv.Qy h.one.2;have hz:∀g,g<w.heap.size->ρ g≠0->ρ g≠1->w'.heap[g]?=w.heap[g]?:=fun g hg h0 h1=>hk g hg (fun e=>h1 (by rw[e];exact h.one.1)) (fun hd=>h0 (h.prot g hd).2);refine⟨⟨sa,sn,sc,hcell,B4 hv.own (fun g hg hl=>hz g hl z5ha z5ha),fun hd=>hd.2.1 (by show F2 ρ w.heap.size 0 K.wb=1;rw[Bm hwb];exact h.one.1),fun g hg=>⟨fun hd=>hd.2.2 (by rw[Bm (Bn hv.own g hg)];exact h4 g hg),(hv.D5 g hg).2⟩,fun g hg=>hg.1⟩,hfr,hgr,B4 h.lr (fun g hg hl=>hz g hl z6na z6na),fun g hg=>by rw[Bm (Bn h.lr g hg)];exact h.lro g hg,
  B4 h.pr (fun g hg hl=>hz g hl z6la z6la),fun g hg=>by rw[Bm (Bn h.pr g hg)];exact h.pro g hg,h.lps.keep bl.length (fun g hl h5 _=>⟨hz g hl z4va z4va,Bm hl⟩) (Nat.le_refl _),?_,P4 (K:=K) h.one hwb z4va,⟨h.Br.1,by show(K.gl++[s]).length<=_;simp;omega⟩⟩
 exact z2ta
theorem EC.Sv.start(hfr:Ic D w K.fns K.fa K.fn K.fc)(hg:K.gl=[]/\K.ga=none/\K.gn=0/\K.gc=0)(hc:w.heap[K.wb]?=some (.cells #[.slice K.fa K.fn K.fc,.slice none 0 0,.slice none 0 0,.slice none 0 0,.int .i64 ((0:Nat):Int),.slice none 0 0] K.te (0,0)))(hD:∀g,D g->g<w.heap.size/\g≠K.wb) :
  K.St [] D w ⟨[],0,[],[]⟩:=by
 refine⟨fun g=>if g=K.wb then 1 else 0,none,0,0,none,0,0,[],⟨⟨none,0,0,?_,World.ownsRow_nil _ _ _ _,fun hd=>hd.2.1 (if_pos rfl),fun g hg=>by simp[Value.ownBlock]at hg,fun g hg=>hg.1⟩,hfr,?_,World.ownsRow_nil _ _ _ _,fun g hg=>by simp[Value.ownBlock]at hg,World.ownsRow_nil _ _ _ _,fun g hg=>by simp[Value.ownBlock]at hg,trivial,fun g hg=>⟨(hD g hg).1,if_neg (hD g hg).2⟩,⟨if_pos rfl,fun g hg=>?_⟩,?_⟩,rfl⟩
 ·rw[hc,hg.2.1,hg.2.2.1,hg.2.2.2]
 ·rw[hg.1,hg.2.1,hg.2.2.1,hg.2.2.2];exact P6 _ _ _ _
 ·have hg':(if g=K.wb then 1 else 0)=1:=hg;split at hg'
  ·assumption
  ·cases hg'
 ·rw[hg.1];exact⟨Nat.zero_le _,Nat.zero_le _⟩
end
section
open Go.RowKit
open Go.Deep (BT)
def eK(n:Nat)(σ:Nat->Nat):Nat->Prop:=fun g=>g<n/\σ g<5
theorem Abx{σ:Nat->Nat}{n n':Nat}(h:n<=n'):eK n' (F2 σ n 9)=eK n σ:=by
 funext g
 apply propext;unfold eK;by_cases hg:g<n
 ·rw[Bm hg];exact⟨fun⟨_,h1⟩=>⟨hg,h1⟩,fun⟨_,h1⟩=>⟨by omega,h1⟩⟩
 ·rw[Hj z4va];exact⟨fun⟨_,h1⟩=>by omega,fun⟨h1,_⟩=>absurd h1 hg⟩
structure M3 (D : Nat -> Prop) (pb : Nat) (K : EC) (w : World) (e : Em) (σ : Nat -> Nat) (fs : List Fn) (ms : List Value) (ha : Option Addr) (hn hc : Nat) : Prop where
 st:K.St [] (eK w.heap.size σ) w e
 fr:Ic D w K.fns K.fa K.fn K.fc
 dz:∀g,D g->g<w.heap.size/\σ g=0
 gr:w.ownsRow 0 9 1 (.slice K.ga K.gn K.gc) K.gl.length (Df K.gl)
 gro:∀g,(Value.slice K.ga K.gn K.gc).ownBlock=some g->σ g=3
 pbc:w.heap[pb]?=some (.cells #[.int .i64 0,.int .i64 0,.slice none 0 0,.slice ha hn hc] 101 (0,0))
 pbo:σ pb=1
 hr:w.ownsRow 0 103 4 (.slice ha hn hc) fs.length ms
 hro:∀g,(Value.slice ha hn hc).ownBlock=some g->σ g=2
 fns:Lz (fun g=>σ g=4) w fs ms
variable {D:Nat->Prop} {pb:Nat} {K:EC} {w w':World} {e e':Em} {σ:Nat->Nat} {fs:List Fn} {ms:List Value} {ha:Option Addr} {hn hc:Nat}
theorem z5ta {P:Prop} (h:P:=by rw[h.pbo];omega):P:=h
theorem M3.next(h:M3 D pb K w e σ fs ms ha hn hc)(hs:K.St [] (eK w.heap.size σ) w' e')(hb:A3 (eK w.heap.size σ) w w'):M3 D pb K w' e' (F2 σ w.heap.size 9) fs ms ha hn hc:=by
 have hbd:A3 D w w':=hb.weak (fun g hg=>⟨(h.dz g hg).1,by rw[(h.dz g hg).2];omega⟩);have hk:∀g,g<w.heap.size->σ g<5->w'.heap[g]?=w.heap[g]?:=fun g h1 h2=>hb.block g ⟨h1,h2⟩;have lp:=A5 h.pbc;refine⟨by rw[Abx hb.size];exact hs,h.fr.keep hbd,fun g hg=>⟨Nat.lt_of_lt_of_le (h.dz g hg).1 hb.size,by rw[Bm (h.dz g hg).1];exact(h.dz g hg).2⟩,B4 h.gr (fun g hg hl=>hk g hl (by rw[h.gro g hg];omega)),fun g hg=>by rw[Bm (Bn h.gr g hg)];exact h.gro g hg,(hk pb lp z5ta).trans h.pbc,by rw[Bm lp];exact h.pbo,B4 h.hr (fun g hg hl=>hk g hl (by rw[h.hro g hg];omega)),fun g hg=>by rw[Bm (Bn h.hr g hg)];exact h.hro g hg,h.fns.keep (fun g hg hl=>⟨hk g hl (by rw[hg];omega),?_⟩)⟩;show F2 σ w.heap.size 9 g=4;rw[Bm hl];exact hg
theorem z5fa {P:Prop} (h:P:=by rw[(h.dz k hk).2];omega):P:=h
theorem z5ya {P:Prop} (h:P:=by rw[hk];omega):P:=h
theorem z5za {P:Prop} (h:P:=by rw[h.gro k hk];omega):P:=h
theorem M3.func(h:M3 D pb K w e σ fs ms ha hn hc){w1 w2:World}{f:Fn}{sa:Option Addr}{sn sc:Nat}(hs:K.St [] (fun g=>eK w.heap.size σ g\/(Value.slice sa sn sc).ownBlock=some g) w1 e)(hb:A3 (eK w.heap.size σ) w w1)
  (hrow:w1.ownsRow 0 251 8 (.slice sa sn sc) f.steps.length (Ek f.steps)) (hne:∀g,(Value.slice sa sn sc).ownBlock=some g->¬eK w.heap.size σ g) {g cap:Nat}
  (hown:w2.ownsRow 0 103 4 (.slice (some ⟨g,0,none⟩) (fs.length+1) cap) (fs.length+1) (ms++[Ld f.name,.int .i64 (f.params:Nat),.int .i64 (f.slots:Nat),.slice sa sn sc])) (hgr:w1.grownBy w2 (Value.slice ha hn hc).ownBlock) (hat:(Value.slice ha hn hc).ownBlock=some g\/w1.heap.size<=g) :
  (∃σ',M3 D pb K (w2.setCell ⟨pb,3,none⟩ (.slice (some ⟨g,0,none⟩) (fs.length+1) cap)) e σ' (fs++[f]) (ms++[Ld f.name,.int .i64 (f.params:Nat),.int .i64 (f.slots:Nat),.slice sa sn sc]) (some ⟨g,0,none⟩) (fs.length+1) cap)/\A3 D w (w2.setCell ⟨pb,3,none⟩ (.slice (some ⟨g,0,none⟩) (fs.length+1) cap)):=by
 classical
 have lp:=A5 h.pbc;have lp1:pb<w1.heap.size:=Nat.lt_of_lt_of_le lp hb.size;have hk1:∀k,k<w.heap.size->σ k<5->w1.heap[k]?=w.heap[k]?:=fun k h1 h2=>hb.block k ⟨h1,h2⟩;have hgl:g<w2.heap.size:=Bn hown g rfl;have hgpb:g≠pb:=by
  rcases hat with h1|h1
  ·intro e1;have:=h.hro g h1;rw[e1,h.pbo]at this;omega
  ·omega
 have hS:∀k,(Value.slice sa sn sc).ownBlock=some k->k<w1.heap.size:=fun k hk=>Bn hrow k hk;have hk3:∀k,k<w1.heap.size->k≠pb->(Value.slice ha hn hc).ownBlock≠some k->(w2.setCell ⟨pb,3,none⟩ (.slice (some ⟨g,0,none⟩) (fs.length+1) cap)).heap[k]?=w1.heap[k]?:=fun k h1 h2 h3=>(Below.heap_setCell _ _ _ _ (by exact h2)).trans (hgr.block k h1 (fun e=>h3 e.symm));obtain⟨σ',hσ⟩:∃σ':Nat->Nat,σ'=fun k=>if k=g then 2 else if(Value.slice sa sn sc).ownBlock=some k then 4 else if k<w.heap.size then σ k else 9:=⟨_,rfl⟩;have hgE:∀k,k<w.heap.size->σ k<5->σ k≠2->σ' k=σ k:=by
  intro k hk h5 h2;rw[hσ];show(if k=g then 2 else _)=σ k;rw[if_neg (fun e=>by rcases hat with h1|h1;exact h2 (by rw[e];exact h.hro g h1);have:=hb.size;omega),if_neg (fun e=>hne k e ⟨hk,h5⟩),if_pos hk]
 have Hv:σ' g=2:=by rw[hσ];exact if_pos rfl
 have hgS:∀k,(Value.slice sa sn sc).ownBlock=some k->k≠g:=by
  intro k hk e1;subst e1;rcases hat with h1|h1
  ·exact hne k hk ⟨Bn h.hr k h1,by rw[h.hro k h1];omega⟩
  ·have:=hS k hk;omega
 have hS4:∀k,(Value.slice sa sn sc).ownBlock=some k->σ' k=4:=by
  intro k hk;rw[hσ];show(if k=g then 2 else _)=4;rw[if_neg (hgS k hk),if_pos hk]
 have hpb1:σ' pb=1:=(hgE pb lp z5ta z5ta).trans h.pbo;have hsz:=hgr.size;have hW:(w2.setCell ⟨pb,3,none⟩ (.slice (some ⟨g,0,none⟩) (fs.length+1) cap)).heap.size=w2.heap.size:=by simp[World.setCell]
 have hkeep:∀k,k<w.heap.size->σ k<5->σ k≠1->σ k≠2->(w2.setCell ⟨pb,3,none⟩ (.slice (some ⟨g,0,none⟩) (fs.length+1) cap)).heap[k]?=w.heap[k]?:=fun k h1 h5 h2 h3=>(hk3 k (Nat.lt_of_lt_of_le h1 hb.size) (fun e=>h2 (by rw[e];exact h.pbo)) (fun e=>h3 (h.hro k e))).trans (hk1 k h1 h5);have hbd:A3 D w (w2.setCell ⟨pb,3,none⟩ (.slice (some ⟨g,0,none⟩) (fs.length+1) cap)):=⟨hgr.os.trans hb.os,hgr.tape.trans hb.tape,hgr.output.trans hb.output,by rw[hW];have:=hb.size;omega,fun k hk=>hkeep k (h.dz k hk).1 z5fa z5fa z5fa⟩;have hdz:∀k,D k->k<(w2.setCell ⟨pb,3,none⟩ (.slice (some ⟨g,0,none⟩) (fs.length+1) cap)).heap.size/\σ' k=0:=fun k hk=>⟨by rw[hW];have:=(h.dz k hk).1;have:=hb.size;omega,(hgE k (h.dz k hk).1 z5fa z5fa).trans (h.dz k hk).2⟩;have hgr3:(w2.setCell ⟨pb,3,none⟩ (.slice (some ⟨g,0,none⟩) (fs.length+1) cap)).ownsRow 0 9 1 (.slice K.ga K.gn K.gc) K.gl.length (Df K.gl):=B4 h.gr (fun k hk hl=>hkeep k hl z5za z5za z5za);have hgro:∀k,(Value.slice K.ga K.gn K.gc).ownBlock=some k->σ' k=3:=fun k hk=>(hgE k (Bn h.gr k hk) z5za z5za).trans (h.gro k hk);refine⟨⟨σ',?_,h.fr.keep hbd,hdz,hgr3,hgro,?_,hpb1,?_,?_,?_⟩,hbd⟩
 ·obtain⟨ρ,la,ln,lc,pa,pn,pc,bl,hv,hlb⟩:=hs;refine⟨_,_,_,_,_,_,_,_,hv.zero _ ?_ ?_ (by rw[hW];exact hsz) ((h.fr.keep hbd).weak (fun k hk=>⟨(hdz k hk).1,by rw[(hdz k hk).2];omega⟩)) ⟨hgr3,fun k hk=>⟨Bn hgr3 k hk,by rw[hgro k hk];omega⟩⟩,hlb⟩
  ·intro k hk;obtain⟨k1,k2⟩:=hk;by_cases hl:k<w1.heap.size
   ·left;rw[hσ]at k2;replace k2:(if k=g then 2 else if(Value.slice sa sn sc).ownBlock=some k then 4 else if k<w.heap.size then σ k else 9)<5:=k2;split at k2
    ·rename_i e1;rcases hat with h1|h1
     ·exact .inl ⟨by rw[e1];exact Bn h.hr g h1,by rw[e1,h.hro g h1];omega⟩
     ·omega
    ·split at k2
     ·exact .inr (by assumption)
     ·split at k2
      ·exact .inl ⟨by assumption,k2⟩
      ·omega
   ·exact .inr ⟨by omega,k1⟩
  ·intro k hk hn;refine hk3 k hk (fun e1=>hn (.inl ⟨by rw[e1];exact lp,by rw[e1,h.pbo];omega⟩)) (fun e1=>hn (.inl ⟨Bn h.hr k e1,by rw[h.hro k e1];omega⟩))
 ·have h1:w2.heap[pb]?=w1.heap[pb]?:=hgr.block pb lp1 (fun e=>by have:=h.hro pb e.symm;rw[h.pbo]at this;omega);rw[heap_set ((h1.trans (hk1 pb lp z5ta)).trans h.pbc)];simp
 ·rw[List.length_append];exact Uo hown _ _ (by simp only[Value.ownBlock,ne_eq,Option.some.injEq];exact hgpb)
 ·intro k hk;simp only[Value.ownBlock,Option.some.injEq]at hk;rw[←hk];exact Hv
 ·refine Lz.app (h.fns.keep (fun k hk hl=>⟨hkeep k hl z5ya z5ya z5ya,?_⟩)) ⟨?_,fun k hk=>hS4 k hk⟩
  ·exact(hgE k hl z5ya z5ya).trans hk
  ·exact B4 hrow (fun k hk hl=>hk3 k hl (fun e1=>hne k hk ⟨by rw[e1];exact lp,by rw[e1,h.pbo];omega⟩) (fun e1=>hne k hk ⟨Bn h.hr k e1,by rw[h.hro k e1];omega⟩))
theorem M3.Ae6(h:M3 D pb K w e σ fs ms ha hn hc){w2:World}(s:Nm){g cap:Nat}(Di:K.gl.length+1<=100000)
  (hown:w2.ownsRow 0 9 1 (.slice (some ⟨g,0,none⟩) (K.gl.length+1) cap) (K.gl.length+1) (Df K.gl++[O4 s])) (hgr:w.grownBy w2 (Value.slice K.ga K.gn K.gc).ownBlock) (hat:(Value.slice K.ga K.gn K.gc).ownBlock=some g\/w.heap.size<=g) :
  (∃σ',M3 D pb (K.A17 s (some ⟨g,0,none⟩) (K.gl.length+1) cap) (w2.setCell ⟨K.wb,1,none⟩ (.slice (some ⟨g,0,none⟩) (K.gl.length+1) cap)) e σ' fs ms ha hn hc)/\A3 D w (w2.setCell ⟨K.wb,1,none⟩ (.slice (some ⟨g,0,none⟩) (K.gl.length+1) cap)):=by
 have lp:=A5 h.pbc;have hlo:=h.st.lo;have hwbE:¬eK w.heap.size σ K.wb:=hlo.2.2;have hgl:g<w2.heap.size:=Bn hown g rfl;have hgw:g≠K.wb:=by
  rcases hat with h1|h1
  ·intro e1;exact hwbE ⟨hlo.2.1,by rw[←e1,h.gro g h1];omega⟩
  ·have:=hlo.2.1;omega
 obtain⟨σ',hσ⟩:∃σ':Nat->Nat,σ'=fun k=>if k=g then 3 else if k<w.heap.size then σ k else 9:=⟨_,rfl⟩;have hgE:∀k,k<w.heap.size->σ k≠3->σ' k=σ k:=by
  intro k hk h2;rw[hσ];show(if k=g then 3 else _)=σ k;rw[if_neg (fun e=>by rcases hat with h1|h1;exact h2 (by rw[e];exact h.gro g h1);omega),if_pos hk]
 have hg3:σ' g=3:=by rw[hσ];exact if_pos rfl
 have hsz:=hgr.size;have hW:(w2.setCell ⟨K.wb,1,none⟩ (.slice (some ⟨g,0,none⟩) (K.gl.length+1) cap)).heap.size=w2.heap.size:=by simp[World.setCell]
 have hk3:∀k,k<w.heap.size->k≠K.wb->(Value.slice K.ga K.gn K.gc).ownBlock≠some k->(w2.setCell ⟨K.wb,1,none⟩ (.slice (some ⟨g,0,none⟩) (K.gl.length+1) cap)).heap[k]?=w.heap[k]?:=fun k h1 h2 h3=>(Below.heap_setCell _ _ _ _ (by exact h2)).trans (hgr.block k h1 (fun e=>h3 e.symm));have hkeep:∀k,k<w.heap.size->σ k<5->σ k≠3->(w2.setCell ⟨K.wb,1,none⟩ (.slice (some ⟨g,0,none⟩) (K.gl.length+1) cap)).heap[k]?=w.heap[k]?:=fun k h1 h5 h2=>hk3 k h1 (fun e=>hwbE ⟨hlo.2.1,by rw[←e];exact h5⟩) (fun e=>h2 (h.gro k e));have hbd:A3 D w (w2.setCell ⟨K.wb,1,none⟩ (.slice (some ⟨g,0,none⟩) (K.gl.length+1) cap)):=⟨hgr.os,hgr.tape,hgr.output,by rw[hW];exact hsz,fun k hk=>hkeep k (h.dz k hk).1 z5fa z5fa⟩;have hdz:∀k,D k->k<(w2.setCell ⟨K.wb,1,none⟩ (.slice (some ⟨g,0,none⟩) (K.gl.length+1) cap)).heap.size/\σ' k=0:=fun k hk=>⟨by rw[hW];have:=(h.dz k hk).1;omega,(hgE k (h.dz k hk).1 z5fa).trans (h.dz k hk).2⟩;have hnm:Df (K.gl++[s])=Df K.gl++[O4 s]:=by simp[Df]
 have hgr3:(w2.setCell ⟨K.wb,1,none⟩ (.slice (some ⟨g,0,none⟩) (K.gl.length+1) cap)).ownsRow 0 9 1 (.slice (some ⟨g,0,none⟩) (K.gl.length+1) cap) (K.gl++[s]).length (Df (K.gl++[s])):=by
  rw[hnm,List.length_append];exact Uo hown _ _ z6oa
 have hgro:∀k,(Value.slice (some ⟨g,0,none⟩) (K.gl.length+1) cap).ownBlock=some k->σ' k=3:=by
  intro k hk;simp only[Value.ownBlock,Option.some.injEq]at hk;rw[←hk];exact hg3
 refine⟨⟨σ',?_,h.fr.keep hbd,hdz,hgr3,hgro,?_,?_,?_,?_,?_⟩,hbd⟩
 ·obtain⟨ρ,la,ln,lc,pa,pn,pc,bl,hv,hlb⟩:=h.st;obtain⟨sa,sn,sc,hvv⟩:=hv.ew;refine⟨_,_,_,_,_,_,_,_,hv.Yc _ s _ _ _ ?_ hvv ?_ ?_ (by rw[hW];exact hsz) ((h.fr.keep hbd).weak (fun k hk=>⟨(hdz k hk).1,by rw[(hdz k hk).2];omega⟩)) ⟨hgr3,fun k hk=>⟨Bn hgr3 k hk,by rw[hgro k hk];omega⟩⟩ Di,hlb⟩
  ·intro k hk;obtain⟨k1,k2⟩:=hk;by_cases hl:k<w.heap.size
   ·left;rw[hσ]at k2;replace k2:(if k=g then 3 else if k<w.heap.size then σ k else 9)<5:=k2;split at k2
    ·rename_i e1;rcases hat with h1|h1
     ·exact⟨hl,by rw[e1,h.gro g h1];omega⟩
     ·omega
    ·exact⟨hl,by simpa [hl]using k2⟩
   ·exact .inr ⟨by omega,k1⟩
  ·have h1:w2.heap[K.wb]?=w.heap[K.wb]?:=hgr.block K.wb hlo.2.1 (fun e=>hwbE ⟨hlo.2.1,by rw[h.gro K.wb e.symm];omega⟩);rw[heap_set (h1.trans hvv.cell)];simp
  ·intro k hk hne hnE;exact hk3 k hk hne (fun e1=>hnE ⟨hk,by rw[h.gro k e1];omega⟩)
 ·exact(hkeep pb lp z5ta z5ta).trans h.pbc
 ·exact(hgE pb lp z5ta).trans h.pbo
 ·exact B4 h.hr (fun k hk hl=>hkeep k hl (by rw[h.hro k hk];omega) (by rw[h.hro k hk];omega))
 ·intro k hk;exact(hgE k (Bn h.hr k hk) (by rw[h.hro k hk];omega)).trans (h.hro k hk)
 ·refine h.fns.keep (fun k hk hl=>⟨hkeep k hl z5ya z5ya,?_⟩);exact(hgE k hl z5ya).trans hk
end
section
set_option maxRecDepth 100000
open Go.RowKit
open Go.Deep (BT)
def A5d(D:Nat->Prop)(c:BT A6)(nk:Nat)(w0:World)(wb pb:Nat)(fa:Option Addr)(fn fc:Nat)(k:Nat)(v:Value)(wr:World):Prop:=
 ∃(i:Nat) (gl:List Nm) (ga:Option Addr) (gn gc:Nat) (fs:List Fn) (slots:Nat) (st:List Ac) (ms:List Value) (ha:Option Addr) (hn hc:Nat) (σ:Nat->Nat),v=.int .i64 i/\i+k=nk/\
  M3 D pb ⟨wb,137,Cr c,fa,fn,fc,gl,ga,gn,gc⟩ wr ⟨[],slots,st,[]⟩ σ fs ms ha hn hc/\Jv (Cr c) (Ca i c) gl fs ⟨[],slots,st,[]⟩=Ny c/\st.length+2*bsize (Ca i c)<=700000/\gl.length<=i/\fs.length<=i/\A3 D w0 wr
def K3(D:Nat->Prop)(w:World)(pb:Nat)(P:D7):Prop:=∃sa sn sc ha hn hc ms,D pb/\w.heap[pb]?=some (.cells #[.int .i64 (P.globals:Nat),.int .i64 (P.slots:Nat),.slice sa sn sc,.slice ha hn hc] 101 (0,0))/\
 Cw D w 251 8 (.slice sa sn sc) P.main.length (Ek P.main)/\Cw D w 103 4 (.slice ha hn hc) P.fns.length ms/\Lz D w P.fns ms
theorem Ai5{kd:Nat}(h:22<=kd/\kd<=30):Cg kd≠145:=by
 have h9:kd=22\/kd=23\/kd=24\/kd=25\/kd=26\/kd=27\/kd=28\/kd=29\/kd=30:=by omega
 rcases h9 with e|e|e|e|e|e|e|e|e <;> (subst e;decide)
theorem Wf.Agv{x y:Nat}{l:A6}{c r:BT A6}(h:Wf 4 (.node x y l c r))(h20:l.kd≠20):Wf 1 (nd l c):=by
 refine⟨trivial,?_⟩;rcases h.2 with⟨h0,_⟩|⟨h0,_⟩|⟨h0,_⟩|⟨_,h1,h2⟩|⟨_,h1,h2⟩|⟨_,h1,h2⟩|⟨_,h1,_⟩
 ·omega
 ·omega
 ·omega
 ·exact .inr (.inr (.inr (.inl ⟨.inl rfl,h1,h2⟩)))
 ·exact .inr (.inr (.inr (.inr (.inl ⟨.inl rfl,h1,h2⟩))))
 ·exact .inr (.inr (.inr (.inr (.inr (.inl ⟨.inl rfl,h1,h2⟩)))))
 ·exact absurd h1 h20
theorem Wf.kd4{x y:Nat}{l:A6}{c r:BT A6}(h:Wf 4 (.node x y l c r))(h20:l.kd≠20)(h21:l.kd≠21):22<=l.kd/\l.kd<=30:=by
 rcases h.2 with⟨h0,_⟩|⟨h0,_⟩|⟨h0,_⟩|⟨_,h1,h2⟩|⟨_,h1,h2⟩|⟨_,h1,h2⟩|⟨_,h1,_⟩
 ·omega
 ·omega
 ·omega
 ·omega
 ·omega
 ·exact z3ta
 ·omega
theorem Acz(c:BT A6)(D:Nat->Prop)(w:World)(fa:Option Addr)(fn fc:Nat)(hfr:Ic D w (Cr c) fa fn fc)(hD:∀g,D g->g<w.heap.size)(W:World)(hW:W=(w.alloc (.cells #[.slice fa fn fc,.slice none 0 0,.slice none 0 0,.slice none 0 0,.int .i64 0,.slice none 0 0] 137)).alloc (.cells #[.int .i64 0,.int .i64 0,.slice none 0 0,.slice none 0 0] 101)) :
  (∃σ,M3 D (w.heap.size+1) ⟨w.heap.size,137,Cr c,fa,fn,fc,[],none,0,0⟩ W ⟨[],0,[],[]⟩ σ [] [] none 0 0)/\A3 D w W:=by
 have hsz:W.heap.size=w.heap.size+2:=by rw[hW];simp
 have hk:∀g,g<w.heap.size->W.heap[g]?=w.heap[g]?:=by
  intro g hg;rw[hW,Below.heap_alloc _ _ _ z4ya,Below.heap_alloc _ _ _ hg]
 have hbd:A3 D w W:=⟨by rw[hW];rfl,by rw[hW];rfl,by rw[hW];rfl,by omega,fun k hk'=>hk k (hD k hk')⟩;have hc1:W.heap[w.heap.size]?=some (.cells #[.slice fa fn fc,.slice none 0 0,.slice none 0 0,.slice none 0 0,.int .i64 0,.slice none 0 0] 137 (0,0)):=by
  rw[hW,Below.heap_alloc _ _ _ z50a];exact heap_alloc_new w _
 have He:W.heap[w.heap.size+1]?=some (.cells #[.int .i64 0,.int .i64 0,.slice none 0 0,.slice none 0 0] 101 (0,0)):=by
  have:=heap_alloc_new (w.alloc (.cells #[.slice fa fn fc,.slice none 0 0,.slice none 0 0,.slice none 0 0,.int .i64 0,.slice none 0 0] 137)) (.cells #[.int .i64 0,.int .i64 0,.slice none 0 0,.slice none 0 0] 101);rw[hW];simpa using this
 have hσ:∀g,D g->(if g=w.heap.size+1 then 1 else if g<w.heap.size then 0 else 9)=0:=fun g hg=>by have:=hD g hg;rw[if_neg z4va,if_pos this]
 refine⟨⟨fun g=>if g=w.heap.size+1 then 1 else if g<w.heap.size then 0 else 9,?_,hfr.keep hbd,fun g hg=>⟨by have:=hD g hg;omega,hσ g hg⟩,World.ownsRow_nil _ _ _ _,fun g hg=>by simp[Value.ownBlock]at hg,He,if_pos rfl,World.ownsRow_nil _ _ _ _,fun g hg=>by simp[Value.ownBlock]at hg,rfl⟩,hbd⟩;refine EC.Sv.start ((hfr.keep hbd).weak (fun g hg=>⟨by have:=hD g hg;omega,by show(if g=w.heap.size+1 then 1 else if g<w.heap.size then 0 else 9)<5;rw[hσ g hg];omega⟩)) ⟨rfl,rfl,rfl,rfl⟩ hc1 (fun g hg=>⟨hg.1,fun e=>?_⟩);have h2:(if g=w.heap.size+1 then 1 else if g<w.heap.size then 0 else 9)<5:=hg.2;have e':g=w.heap.size:=e;rw[e',if_neg z4va,if_neg z4va]at h2;omega
theorem Acy{D:Nat->Prop}{pb:Nat}{K:EC}{w:World}{slots:Nat}{st:List Ac}{σ:Nat->Nat}{fs:List Fn}{ms:List Value}{ha:Option Addr}{hn hc:Nat}(h:M3 D pb K w ⟨[],slots,st,[]⟩ σ fs ms ha hn hc){ρ:Nat->Nat}{la:Option Addr}{ln lc:Nat}{pa:Option Addr}{pn pc:Nat}{bl:List LB}(hs:K.Sv (eK w.heap.size σ) w ⟨[],slots,st,[]⟩ ρ la ln lc pa pn pc bl)
  {sa:Option Addr} {sn sc:Nat} (hv:Ho (dX w.heap.size ρ) K.wb K.te w (.slice K.fa K.fn K.fc) (.slice K.ga K.gn K.gc) (.slice la ln lc) (.slice pa pn pc) slots st sa sn sc) (W:World) (hW:W=((w.setCell ⟨pb,1,none⟩ (.int .i64 (slots:Nat))).setCell ⟨pb,2,none⟩ (.slice sa sn sc)).setCell ⟨pb,0,none⟩ (.int .i64 (K.gl.length:Nat))) :
  ∃E:Nat->Prop,K3 E W pb ⟨K.gl.length,slots,st,fs⟩/\(∀g,E g->¬D g/\g<W.heap.size)/\A3 D w W:=by
 have lp:=A5 h.pbc;have hsz:W.heap.size=w.heap.size:=by rw[hW];simp[World.setCell]
 have hk:∀g,g≠pb->W.heap[g]?=w.heap[g]?:=by
  intro g hg;rw[hW,Below.heap_setCell _ _ _ _ (by exact hg),Below.heap_setCell _ _ _ _ (by exact hg),Below.heap_setCell _ _ _ _ (by exact hg)]
 have hpbc:W.heap[pb]?=some (.cells #[.int .i64 (K.gl.length:Nat),.int .i64 (slots:Nat),.slice sa sn sc,.slice ha hn hc] 101 (0,0)):=by
  rw[hW];have:=heap_set (j:=0) (heap_set (j:=2) (heap_set (j:=1) h.pbc (.int .i64 (slots:Nat))) (.slice sa sn sc)) (.int .i64 (K.gl.length:Nat));rw[this];simp
 have h4:=hv.Qy hs.one.2;have hSE:∀g,(Value.slice sa sn sc).ownBlock=some g->¬eK w.heap.size σ g:=fun g hg he=>by
  have:=(hs.prot g he).2;rw[h4 g hg]at this;cases this
 have hpbE:eK w.heap.size σ pb:=⟨lp,by rw[h.pbo];omega⟩;refine⟨fun g=>g<w.heap.size/\(g=pb\/(Value.slice sa sn sc).ownBlock=some g\/σ g=2\/σ g=4),⟨sa,sn,sc,ha,hn,hc,ms,⟨lp,.inl rfl⟩,hpbc,⟨?_,?_⟩,⟨?_,?_⟩,?_⟩,?_,?_⟩
 ·exact B4 hv.own (fun g hg _=>hk g (fun e=>hSE g hg (by rw[e];exact hpbE)))
 ·intro g hg;exact⟨Bn hv.own g hg,.inr (.inl hg)⟩
 ·exact B4 h.hr (fun g hg _=>hk g (fun e=>by have:=h.hro g hg;rw[e,h.pbo]at this;omega))
 ·intro g hg;exact⟨Bn h.hr g hg,.inr (.inr (.inl (h.hro g hg)))⟩
 ·exact h.fns.keep (fun g hg hl=>⟨hk g (fun e=>by rw[e,h.pbo]at hg;omega),hl,.inr (.inr (.inr hg))⟩)
 ·intro g hg;refine⟨fun hd=>?_,by rw[hsz];exact hg.1⟩;have h0:=h.dz g hd;rcases hg.2 with e1|e1|e1|e1
  ·rw[e1,h.pbo]at h0;omega
  ·exact hSE g e1 ⟨h0.1,by rw[h0.2];omega⟩
  ·omega
  ·omega
 ·exact⟨by rw[hW];rfl,by rw[hW];rfl,by rw[hW];rfl,by omega,fun g hg=>hk g (fun e=>by have:=(h.dz g hg).2;rw[e,h.pbo]at this;omega)⟩
theorem Aby(c:BT A6)(hwf:Wf 4 c)(hlp:Np c)(D:Nat->Prop)(w:World)(tb:Nat)(va:Option Addr)(vn vc:Nat)(ks:List Value)(hD:D tb)(hDl:∀g,D g->g<w.heap.size)(hpb:w.heap[tb]?=some (.cells #[.slice va vn vc] 140 (0,0)))
  (hown:Cw D w 142 1 (.slice va vn vc) ks.length ks) (hrep:An D w c ks) (A1:bsize c<=50000) :
  Calls Tryz.prog 38 #[.pointer (some ⟨tb,0,none⟩)] w fun r w'=>∃pb E,r=.returned (.pointer (some ⟨pb,0,none⟩))/\K3 E w' pb (Ny c)/\(∀g,E g->¬D g/\g<w'.heap.size)/\A3 D w w':=by
 have hvn:vn=ks.length:=(C9 hown.1).1;subst hvn;have HF:=A0 (A12 c hwf D w tb va ks.length vc ks hpb hown hrep z4va);have HPb:=A0 hpb;have HOwn:=A0 hown;have HRep:=A0 hrep;have hlen:=hrep.len;have HLen:=A0 hlen;have hls:=Nt c;have hkl:ks.length<=50000:=by omega
 have HWf:=A0 hwf;have HLp:=A0 hlp;clear hown hrep hlen hwf hpb hlp;go_enter Tryz.func38,Tryz.ntmps38;go_wp2_with fail
 refine HF.o.mono ?_;rintro r w1 ⟨fa,fn,fc,rfl,hb1',hfr1,hfo1⟩;have hpb1:=(hb1'.block tb (hDl tb hD)).trans HPb.o;have c0:=A2 hpb1 0 _ rfl;have lt:=A5 hpb1;have HFr1:=A0 hfr1;have HFo1:=A0 hfo1;have A4:=A0 hb1';have hsz1:=hb1'.size;clear hpb1 hfr1 hfo1 hb1';obtain⟨w2,Fk⟩:∃w2,w2=(w1.alloc (.cells #[.slice fa fn fc,.slice none 0 0,.slice none 0 0,.slice none 0 0,.int .i64 0,.slice none 0 0] 137)).alloc (.cells #[.int .i64 0,.int .i64 0,.slice none 0 0,.slice none 0 0] 101):=⟨_,rfl⟩;obtain⟨⟨σ0,hp0⟩,hbd0⟩:=Acz c (fun g=>D g\/(Value.slice fa fn fc).ownBlock=some g) w1 fa fn fc HFr1.o (fun g hg=>hg.elim (fun h=>Nat.lt_of_lt_of_le (hDl g h) hsz1) (fun h=>(HFo1.o g h).2)) w2 Fk;have HP0:=A0 hp0;have HW2:=A0 Fk;have Aa:Hid (A3 D w w2):=A3.trans ⟨A4.o.os,A4.o.tape,A4.o.output,A4.o.size,fun g hg=>A4.o.block g (hDl g hg)⟩ (hbd0.weak (fun g hg=>.inl hg));clear hp0 hbd0 Fk;go_wp2;rw[←HW2.o];clear HW2 c0 lt;go_loopg [21] ks.length (fun k v wr=>A5d (fun g=>D g\/(Value.slice fa fn fc).ownBlock=some g) c ks.length w2 w1.heap.size (w1.heap.size+1) fa fn fc k v wr)
 case atStart=>exact⟨0,[],none,0,0,[],0,[],[],none,0,0,σ0,rfl,by omega,HP0.o,rfl,by rw[show Ca 0 c=c from by cases c <;> rfl];simp;omega,Nat.le_refl _,Nat.le_refl _,A3.refl _ _⟩
 case round=>
  clear HP0;obtain⟨i,gl,ga,gn,gc,fs,slots,st,ms,ha,hn,hc,σ,rfl,hik,hpg,hem,hsi,hgi,hfi,hbel⟩:=hrel;have HPg:=A0 hpg;have HEm:=A0 hem;have HBel:=A0 hbel;have HBD:Hid (A3 D w wr):=Aa.o.trans (hbel.weak (fun g hg=>.inl hg));clear hpg hem hbel;by_cases hlt:i<ks.length
  ·have hr:=HRep.o.Bq HBD.o;obtain⟨x,y,l,cc,r,hd,v,ks',hv,hnn,hrk⟩:=An.at' i c ks hr z5ga;obtain⟨g,rfl,hvn9,hcap,lg,hcell⟩:=Fo (HOwn.o.Bq HBD.o).1 z4va;clear hvn9;have d0:=hcell i v hv;have hwf1:=Wf.drop 4 i c HWf.o;rw[hd]at hwf1;have hlp1:=Np.drop i c HLp.o;rw[hd]at hlp1;have hdn:=Om i c x y l cc r hd;have hz:bsize (Ca i c)=bsize (nd l cc)+bsize r:=by rw[hd,Cj,bsize]
   have hem1:=HEm.o;rw[hd,Jv]at hem1;have hnds:=Cj l cc;have hdz:bsize (Ca i c)<=bsize c:=Wj i c;clear hcell hv hd;by_cases h20:l.kd=20
   ·rw[if_pos h20]at hem1;have hlpx:=hlp1.1;rw[if_pos h20]at hlpx;have hwf2:Wf 1 cc:=by
     rcases hwf1.2 with⟨h0,_⟩|⟨h0,_⟩|⟨h0,_⟩|⟨_,h1,h2⟩|⟨_,h1,h2⟩|⟨_,h1,h2⟩|⟨_,_,h2⟩
     ·omega
     ·omega
     ·omega
     ·omega
     ·omega
     ·rw[h20]at h1;cases h1
     ·exact h2
    unfold Bs at hnn;rw[if_neg z4va]at hnn;obtain⟨b,cs,rfl,hDb,hbb,hll⟩:=hnn;have e1:Cg l.kd=143:=by rw[h20];rfl
    have e2:Dk l.kd=218:=by rw[h20];rfl
    rw[e1]at d0;rw[e2]at hbb;unfold Cv at hll;simp only[h20]at hll;obtain⟨ps,sl,rfl,ho,hp⟩:=hll;obtain⟨va2,vn2,vc2,rfl⟩:∃va vn vc,sl=.slice va vn vc:=O5 ho.1;obtain⟨pa2,pn2,pc2,rfl⟩:∃va vn vc,ps=.slice va vn vc:=O5 hp.1;have hpd:=HPg.o.next (HPg.o.st.drewN 1) (Dw _ wr 1);have hEK:∀g,(D g\/(Value.slice fa fn fc).ownBlock=some g)->eK (wr.drewN 1).heap.size (F2 σ wr.heap.size 9) g:=fun g hg=>⟨(hpd.dz g hg).1,by rw[(hpd.dz g hg).2];omega⟩;have HFun:=A0 (Aq7 ⟨w1.heap.size,137,Cr c,fa,fn,fc,gl,ga,gn,gc⟩ l cc hwf2 hlpx _ (wr.drewN 1) slots st b pa2 pn2 pc2 va2 vn2 vc2 ks' hpd.st (hEK b (.inl hDb)) hbb ((hp.Bq (Dw D wr 1)).weak (fun g hg=>hEK g (.inl hg))) ((ho.Bq (Dw D wr 1)).weak (fun g hg=>hEK g (.inl hg))) (An.keep (w:=wr) (w':=wr.drewN 1) (fun g hg _=>⟨rfl,hEK g (.inl hg)⟩) _ _ hrk) z4va);have HPd:=A0 hpd;have HEK:=A0 hEK;have q3:=A2 hpd.pbc 3 _ rfl;have lq:=A5 hpd.pbc;have lqw:w1.heap.size+1<wr.heap.size:=lq;have hhn:hn=fs.length:=(C9 hpd.hr).1;have q3':wr.cell? ⟨w1.heap.size+1,3,none⟩=some (.slice ha hn hc):=q3;have hfl:fs.length<=60000:=by omega
    have Dg:=All;have HEm1:=A0 hem1;have HDn:=A0 hdn;have hsn:st.length+2*bsize (Ca (i+1) c)<=700000:=by rw[hdn];omega
    have HSn:=A0 hsn;have HHr:=A0 hpd.hr;have HPbE:Hid (eK (wr.drewN 1).heap.size (F2 σ wr.heap.size 9) (w1.heap.size+1)):=⟨lq,by rw[hpd.pbo];omega⟩;have HHE:Hid (∀g,(Value.slice ha hn hc).ownBlock=some g->eK (wr.drewN 1).heap.size (F2 σ wr.heap.size 9) g):=fun g hg=>⟨Bn hpd.hr g hg,by rw[hpd.hro g hg];omega⟩;have HPbN:Hid ((Value.slice ha hn hc).ownBlock≠some (w1.heap.size+1)):=fun e=>by have:=hpd.hro _ e;rw[hpd.pbo]at this;omega
    have HPbc:=A0 hpd.pbc;subst hhn;clear hrk hr hem1 hdn hsn hwf1 hlp1 hlpx hwf2 hbb ho hp hpd hEK e1 e2 q3 h20;unfold Cc at *;go_wp2;go_region_law (first
     | (refine Nc _ w5.heap.size #[.string ⟨l.s.toArray⟩,.int .i64 (l.ps.length:Nat),.int .i64 ((N3 (Cr c) gl l cc).slots:Nat),.slice sa5 sn5 sc5] 103 (heap_alloc_new w5 (.cells #[.string ⟨l.s.toArray⟩,.int .i64 (l.ps.length:Nat),.int .i64 ((N3 (Cr c) gl l cc).slots:Nat),.slice sa5 sn5 sc5] 103)) rfl (.tmp 36) (.tmp 40) 99 rfl 0 4 56 _ Tryz.underlying99 Aed rfl z4va (.slice ha fs.length hc) fs.length ms rfl rfl (hown5.alloc _) rfl (fun u hu=>by simp at hu;rcases hu with rfl|rfl|rfl|rfl <;> rfl) z4va z4va (Nat.zero_le _) ?_;intro g6 cap6 w6 hown6 hgrow6' hat6' hg6;have hgrow6:w5.grownBy w6 (Value.slice ha fs.length hc).ownBlock:=M5 (World.grownBy_alloc w5 (.cells #[.string ⟨l.s.toArray⟩,.int .i64 (l.ps.length:Nat),.int .i64 ((N3 (Cr c) gl l cc).slots:Nat),.slice sa5 sn5 sc5] 103) none) hgrow6';have hat6:(Value.slice ha fs.length hc).ownBlock=some g6\/w5.heap.size<=g6:=(hat6'.imp id (fun e=>by rw[e];simp));have hl6:=(hgrow6.block (w1.heap.size+1) (A5 hpb5) (fun e=>HPbN.o e.symm)).trans hpb5;have z6:=A2 hl6 3 _ rfl;have fq:=Bd hl6;have lq6:=A5 hl6;clear hl6 hgrow6' hat6')
     | (refine Eo rfl 53 _ _ rfl #[.pointer (some ⟨w1.heap.size,0,none⟩),.pointer (some ⟨b,0,none⟩)] (by kernel_rfl) HFun.o ?_;rintro r5 w5 ⟨sa5,sn5,sc5,rfl,hrow5,hne5,Cm,Ch⟩;refine⟨_,rfl,?_⟩;have hpb5:=(Ch.block _ HPbE.o).trans HPbc.o;have hown5:w5.ownsRow 0 103 4 (.slice ha fs.length hc) fs.length ms:=B4 HHr.o (fun k hk hl=>Ch.block k (HHE.o k hk));have z3:=A2 hpb5 3 _ rfl;have l5:=A5 hpb5;have HRow5:=A0 hrow5;have HNe5:=A0 hne5;have Gp:=A0 Cm;have E4:=A0 Ch;clear hrow5 hne5 Cm Ch))
    all_goals go_wp2
    all_goals
     obtain⟨⟨σ7,hp7⟩,hbq⟩:=HPd.o.func (f:=N3 (Cr c) gl l cc) Gp.o E4.o HRow5.o HNe5.o hown6 hgrow6 hat6;have Ik:A3 (fun g=>D g\/(Value.slice fa fn fc).ownBlock=some g) w2 (w6.setCell ⟨w1.heap.size+1,3,none⟩ (.slice (some ⟨g6,0,none⟩) (fs.length+1) cap6)):=HBel.o.trans ((Dw _ wr 1).trans hbq);go_roundg (gk-1)
     case measure=>omega
     case rel=>exact⟨i+1,gl,ga,gn,gc,_,slots,st,_,_,_,_,σ7,rfl,by omega,hp7,by rw[HDn.o];exact HEm1.o,HSn.o,by omega,by simp;omega,Ik⟩
   ·by_cases h21:l.kd=21
    ·rw[if_neg h20,if_pos h21]at hem1;have hwf2:Wf 0 cc:=by
      rcases hwf1.2 with⟨h0,_⟩|⟨h0,_⟩|⟨h0,_⟩|⟨_,h1,h2⟩|⟨_,h1,h2⟩|⟨_,h1,h2⟩|⟨_,h1,h2⟩
      ·omega
      ·omega
      ·omega
      ·omega
      ·omega
      ·exact h2
      ·omega
     unfold Bs at hnn;rw[if_neg z4va]at hnn;obtain⟨b,cs,rfl,hDb,hbb,hll⟩:=hnn;have e1:Cg l.kd=145:=by rw[h21];rfl
     have e2:Dk l.kd=152:=by rw[h21];rfl
     rw[e1]at d0;rw[e2]at hbb;unfold Cv at hll;simp only[h21]at hll;obtain⟨a,rfl,rfl⟩:=hll;obtain⟨x1,y1,l1,c1,r1,Dd,rfl,Bl,At,Hw⟩:=hrk.cons';obtain rfl:=Hw.nil';have hxs:=hwf2.exs;have By:bsize (.node x1 y1 l1 c1 .nil)=bsize (nd l1 c1):=by rw[Cj,bsize];rfl
     have hsm:=Nx (Cr c) gl l1 c1 hxs.1 hxs.2.1 ⟨[],slots,st,[]⟩;have hst1:=Gj (Cr c) gl l1 c1 ⟨[],slots,st,[]⟩;rw[Ii,em]at hem1;have hEK:∀g,(D g\/(Value.slice fa fn fc).ownBlock=some g)->eK wr.heap.size σ g:=fun g hg=>⟨(HPg.o.dz g hg).1,by rw[(HPg.o.dz g hg).2];omega⟩;have HC:=A0 (HPg.o.st.expr hxs.1 hxs.2.1 (Bl.weak (fun g hg=>hEK g (.inl hg))) (An.keep (fun g hg _=>⟨rfl,hEK g (.inl hg)⟩) _ _ At) (by simp only;omega));generalize Hu:Ar (Cr c) gl l1 (Ax c1) (em (Cr c) gl c1) ⟨[],slots,st,[]⟩=C0 at *;obtain⟨Gv,sl1,st1,lp1⟩:=C0;obtain⟨Ak,B0,C6⟩:=hsm;simp only at Ak B0 C6 hst1;subst Ak B0 C6;have d2:=A2 hbb 2 a rfl;have ld:=A5 hbb;have HBb:=A0 hbb;have Dg:=A44 145 z4wa;have Dz:=A3u;have HEm1:=A0 hem1;have HDn:=A0 hdn;have hsn:(st1++[(⟨4,(gl.length:Nat),0,Ag⟩:Ac)]).length+2*bsize (Ca (i+1) c)<=700000:=by rw[hdn];simp;omega
     have HSn:=A0 hsn;have HEK:=A0 hEK;clear hr hem1 hdn hsn hwf1 hlp1 hwf2 hbb Bl At Hw hrk hEK e1 e2 hxs Hu h20 h21;unfold Cc at *;go_wp2_with fail
     refine HC.o.mono ?_;rintro r9 w5 ⟨rfl,Cm,Ch⟩;have hp5:=HPg.o.next Cm Ch;have hB5:A3 (fun g=>D g\/(Value.slice fa fn fc).ownBlock=some g) w2 w5:=HBel.o.trans (Ch.weak (fun g hg=>HEK.o g hg));have hbk5:=(Ch.block b (HEK.o b (.inl hDb))).trans HBb.o;have HBb5:=A0 hbk5;have Ey:=A0 hp5;have E4:=A0 hB5;obtain⟨ρ5,la5,ln5,lc5,pa5,pn5,pc5,bl5,h5,_⟩:=hp5.st;obtain⟨sa5,sn5,sc5,Im⟩:=h5.ew;have g1:=A2 Im.cell 1 _ rfl;have lg1:=A5 Im.cell;have hgn:gn=gl.length:=(C9 hp5.gr).1;simp only at g1 lg1;have hgl9:gl.length<=60000:=by omega
     subst hgn;have HStp:=A0 (hp5.st.step (by simp only;omega) 4 (gl.length:Nat) 0);clear Cm Ch hp5 hB5 h5 Im d2 ld hbk5;go_wp2_with fail
     refine HStp.o.mono ?_;rintro r9 w6 ⟨rfl,Eb,Ix⟩;have hp6:=Ey.o.next Eb Ix;have J7:Hid (A3 (fun g=>D g\/(Value.slice fa fn fc).ownBlock=some g) w2 w6):=E4.o.trans (Ix.weak (fun g hg=>⟨(Ey.o.dz g hg).1,by rw[(Ey.o.dz g hg).2];omega⟩));have hbk6:=(Ix.block b ⟨(Ey.o.dz b (.inl hDb)).1,by rw[(Ey.o.dz b (.inl hDb)).2];omega⟩).trans HBb5.o;have d1:w6.cell? ⟨b,1,none⟩=some (.string ⟨l.s.toArray⟩):=A2 hbk6 1 _ rfl;have ld:=A5 hbk6;obtain⟨ρ6,la6,ln6,lc6,pa6,pn6,pc6,bl6,h6,_⟩:=hp6.st;obtain⟨sa6,sn6,sc6,hv6⟩:=h6.ew;have hcw6:=hv6.cell;have g1:=A2 hv6.cell 1 _ rfl;have lg1:=A5 hv6.cell;simp only at g1 lg1;have hown6:w6.drew.ownsRow 0 9 1 (.slice ga gl.length gc) gl.length (Df gl):=B4 hp6.gr (fun _ _ _=>rfl);have hnb:(Value.slice ga gl.length gc).ownBlock≠some w1.heap.size:=fun e=>hp6.st.lo.2.2 ⟨hp6.st.lo.2.1,by show F2 _ _ _ w1.heap.size<5;rw[hp6.gro _ e];omega⟩;have HCw6:=A0 hcw6;have HNb:=A0 hnb;have HP6:=A0 hp6;clear Eb Ix hp6 h6 hv6 hbk6 hcw6 hnb;go_wp2;go_region_law (refine Nc _ w6.heap.size #[.string ⟨l.s.toArray⟩] 9 (heap_alloc_new w6.drew (.cells #[.string ⟨l.s.toArray⟩] 9)) rfl (.tmp 64) (.tmp 70) 37 rfl 0 1 16 (.string ⟨#[]⟩) Tryz.underlying37 Xf rfl z4va (.slice ga gl.length gc) gl.length (Df gl) rfl rfl (hown6.alloc _) rfl (fun u hu=>by simp at hu;rw[hu];rfl) z4va z4va (Nat.zero_le _) ?_;intro g7 cap7 w7 hown7 hgrow7' hat7' hg7;have hgrow7:w6.drew.grownBy w7 (Value.slice ga gl.length gc).ownBlock:=M5 (World.grownBy_alloc w6.drew (.cells #[.string ⟨l.s.toArray⟩] 9) none) hgrow7';have hat7:(Value.slice ga gl.length gc).ownBlock=some g7\/w6.drew.heap.size<=g7:=(hat7'.imp id (fun e=>by rw[e];simp));have hl7:=(hgrow7.block w1.heap.size lg1 (fun e=>HNb.o e.symm)).trans HCw6.o;have z7:=A2 hl7 1 _ rfl;have fq:=Bd hl7;have lq7:=A5 hl7;clear hl7 hgrow7' hat7')
     all_goals go_wp2
     all_goals
      obtain⟨⟨σ8,hp8⟩,hb8⟩:=(HP6.o.next (HP6.o.st.drewN 1) (Dw _ w6 1)).Ae6 l.s (by show gl.length+1<=_;omega) hown7 hgrow7 hat7;have hbq:A3 (fun g=>D g\/(Value.slice fa fn fc).ownBlock=some g) w2 (w7.setCell ⟨w1.heap.size,1,none⟩ (.slice (some ⟨g7,0,none⟩) (gl.length+1) cap7)):=J7.o.trans ((Dw _ w6 1).trans hb8);go_roundg (gk-1)
      case measure=>omega
      case rel=>exact⟨i+1,gl++[l.s],_,_,_,fs,_,_,ms,ha,hn,hc,σ8,rfl,by omega,hp8,by rw[HDn.o];exact HEm1.o,HSn.o,by simp;omega,by omega,hbq⟩
    ·rw[if_neg h20,if_neg h21,A0d]at hem1;have hlpx:=hlp1.1;rw[if_neg h20]at hlpx;have Fu:=hwf1.Agv h20;have hkd:=hwf1.kd4 h20 h21;obtain⟨slots',st',hE⟩:=Ac6 (Cr c) gl l cc Fu h21 ⟨[],slots,st,[]⟩ rfl rfl;have hst1:=Gj (Cr c) gl l cc ⟨[],slots,st,[]⟩;rw[hE]at hst1 hem1;have hE':=A0 hE;have hEK:∀g,(D g\/(Value.slice fa fn fc).ownBlock=some g)->eK wr.heap.size σ g:=fun g hg=>⟨(HPg.o.dz g hg).1,by rw[(HPg.o.dz g hg).2];omega⟩;have HC:=A0 (((A51 ⟨w1.heap.size,137,Cr c,fa,fn,fc,gl,ga,gn,gc⟩ (nd l cc)).1 Fu).1 [] _ wr ⟨[],slots,st,[]⟩ v ks' HPg.o.st (hnn.weak (fun g hg=>hEK g (.inl hg))) (An.keep (fun g hg _=>⟨rfl,hEK g (.inl hg)⟩) _ _ hrk) hlpx (fun x hx=>by cases hx) (by simp only;omega) z6fa z6fa);unfold Bs at hnn;rw[if_neg z4va]at hnn;obtain⟨b,cs,rfl,_,_,_⟩:=hnn;have Dg:=A44 (Cg l.kd) (A3e (.inl hkd));have Dz:=Na (Cg l.kd) (Ai5 hkd);have HEm1:=A0 hem1;have HDn:=A0 hdn;have hsn:st'.length+2*bsize (Ca (i+1) c)<=700000:=by rw[hdn];simp only at hst1;omega
     have HSn:=A0 hsn;have HEK:=A0 hEK;clear hrk hr hem1 hdn hsn hwf1 hlp1 hlpx Fu hE hEK;generalize Cg l.kd=tt at *;unfold Cc at *;go_wp2_with fail
     refine HC.o.mono ?_;rintro r9 w9 ⟨rfl,Fg,Db⟩;have hs9':(⟨w1.heap.size,137,Cr c,fa,fn,fc,gl,ga,gn,gc⟩:EC).St [] (eK wr.heap.size σ) w9 ⟨[],slots',st',[]⟩:=by rw[←hE'.out];exact Fg
     have HPg9:=A0 (HPg.o.next hs9' Db);have D9:Hid (A3 (fun g=>D g\/(Value.slice fa fn fc).ownBlock=some g) w2 w9):=HBel.o.trans (Db.weak (fun g hg=>HEK.o g hg));clear Fg hs9' Db;go_wp2;go_roundg (gk-1)
     case measure=>omega
     case rel=>exact⟨i+1,gl,ga,gn,gc,fs,slots',st',ms,ha,hn,hc,_,rfl,by omega,HPg9.o,by rw[HDn.o];exact HEm1.o,HSn.o,by omega,by omega,D9.o⟩
  ·have h0:Ca i c=.nil:=by
    exact z1wa
   have hem1:=HEm.o;rw[h0,Jv]at hem1;have HEm1:=A0 hem1;have hpg:=HPg.o;obtain⟨ρ5,la5,ln5,lc5,pa5,pn5,pc5,bl5,h5,_⟩:=hpg.st;obtain⟨sa5,sn5,sc5,Im⟩:=h5.ew;obtain⟨c0,c1,c2,c3,c4,c5,fz,lb⟩:=Tu Im.cell;obtain⟨q0,q1,q2,q3,fq,lq⟩:=E5 hpg.pbc;have hgn:gn=gl.length:=(C9 hpg.gr).1;simp only at c0 c1 c2 c3 c4 c5 fz lb;subst hgn;have hgl9:gl.length<=60000:=by omega
   have hne:w1.heap.size≠w1.heap.size+1:=by omega
   have HV5:=A0 Im;have H5:=A0 h5;clear hem1 h0 hpg h5 Im;go_wp2;go_ret;obtain⟨E,k1,k2,k3⟩:=Acy HPg.o H5.o HV5.o _ rfl;rw[HEm1.o]at k1;exact⟨_,rfl,E,k1,fun g hg=>⟨fun hd=>(k2 g hg).1 (.inl hd),(k2 g hg).2⟩,HBD.o.trans (k3.weak (fun g hg=>.inl hg))⟩
end
end Go.Proofs.YtjdlndhfaaolaaaGreatDoor
