import Derived.Test.YtjdlndhfaaolaaaGreatDoorX27
set_option maxHeartbeats 20000000
namespace Go.Proofs.YtjdlndhfaaolaaaGreatDoor
section
set_option maxRecDepth 100000
open Go.RowKit
open Go.Deep (BT)
def A5l(D:Nat->Prop)(c:BT A3)(nk:Nat)(w0:World)(wb pb:Nat)(fa:Option Addr)(fn fc:Nat)(k:Nat)(v:Value)(wr:World):Prop:=
 ∃(i:Nat) (gl:List Nm) (ga:Option Addr) (gn gc:Nat) (fs:List Fn) (slots:Nat) (st:List Af) (ms:List Value) (ha:Option Addr) (hn hc:Nat) (σ:Nat->Nat),v=.int .i64 i/\i+k=nk/\
  Ly D pb ⟨wb,137,Bx c,fa,fn,fc,gl,ga,gn,gc⟩ wr ⟨[],slots,st,[]⟩ σ fs ms ha hn hc/\H9 (Bx c) (C2 i c) gl fs ⟨[],slots,st,[]⟩=Ga c/\st.length+2*bsize (C2 i c)<=700000/\gl.length<=i/\fs.length<=i/\A2 D w0 wr
def Ki(D:Nat->Prop)(w:World)(pb:Nat)(P:D5):Prop:=∃sa sn sc ha hn hc ms,D pb/\w.heap[pb]?=some (.cells #[.int .i64 (P.globals:Nat),.int .i64 (P.slots:Nat),.slice sa sn sc,.slice ha hn hc] 101 (0,0))/\
 Cr D w 251 8 (.slice sa sn sc) P.main.length (Ez P.main)/\Cr D w 103 4 (.slice ha hn hc) P.fns.length ms/\Lv D w P.fns ms
theorem Ah5{kd:Nat}(h:22<=kd/\kd<=30):Cc kd≠145:=by
 have h9:kd=22\/kd=23\/kd=24\/kd=25\/kd=26\/kd=27\/kd=28\/kd=29\/kd=30:=by omega
 rcases h9 with e|e|e|e|e|e|e|e|e <;> (subst e;decide)
theorem Wf.Afk{x y:Nat}{l:A3}{c r:BT A3}(h:Wf 4 (.node x y l c r))(h20:l.kd≠20):Wf 1 (nd l c):=by
 refine⟨trivial,?_⟩;rcases h.2 with⟨h0,_⟩|⟨h0,_⟩|⟨h0,_⟩|⟨_,h1,h2⟩|⟨_,h1,h2⟩|⟨_,h1,h2⟩|⟨_,h1,_⟩
 ·omega
 ·omega
 ·omega
 ·exact .inr (.inr (.inr (.inl ⟨.inl rfl,h1,h2⟩)))
 ·exact .inr (.inr (.inr (.inr (.inl ⟨.inl rfl,h1,h2⟩))))
 ·exact .inr (.inr (.inr (.inr (.inr (.inl ⟨.inl rfl,h1,h2⟩)))))
 ·exact absurd h1 h20
theorem Wf.kd4{x y:Nat}{l:A3}{c r:BT A3}(h:Wf 4 (.node x y l c r))(h20:l.kd≠20)(h21:l.kd≠21):22<=l.kd/\l.kd<=30:=by
 rcases h.2 with⟨h0,_⟩|⟨h0,_⟩|⟨h0,_⟩|⟨_,h1,h2⟩|⟨_,h1,h2⟩|⟨_,h1,h2⟩|⟨_,h1,_⟩
 ·omega
 ·omega
 ·omega
 ·omega
 ·omega
 ·exact z3ja
 ·omega
theorem Ace(c:BT A3)(D:Nat->Prop)(w:World)(fa:Option Addr)(fn fc:Nat)(hfr:Ik D w (Bx c) fa fn fc)(hD:∀g,D g->g<w.heap.size)(W:World)(hW:W=(w.alloc (.cells #[.slice fa fn fc,.slice none 0 0,.slice none 0 0,.slice none 0 0,.int .i64 0,.slice none 0 0] 137)).alloc (.cells #[.int .i64 0,.int .i64 0,.slice none 0 0,.slice none 0 0] 101)) :
  (∃σ,Ly D (w.heap.size+1) ⟨w.heap.size,137,Bx c,fa,fn,fc,[],none,0,0⟩ W ⟨[],0,[],[]⟩ σ [] [] none 0 0)/\A2 D w W:=by
 have hsz:W.heap.size=w.heap.size+2:=by rw[hW];simp
 have hk:∀g,g<w.heap.size->W.heap[g]?=w.heap[g]?:=by
  intro g hg;rw[hW,Below.heap_alloc _ _ _ z4za,Below.heap_alloc _ _ _ hg]
 have hbd:A2 D w W:=⟨by rw[hW];rfl,by rw[hW];rfl,by rw[hW];rfl,by omega,fun k hk'=>hk k (hD k hk')⟩;have hc1:W.heap[w.heap.size]?=some (.cells #[.slice fa fn fc,.slice none 0 0,.slice none 0 0,.slice none 0 0,.int .i64 0,.slice none 0 0] 137 (0,0)):=by
  rw[hW,Below.heap_alloc _ _ _ z4wa];exact heap_alloc_new w _
 have hc2:W.heap[w.heap.size+1]?=some (.cells #[.int .i64 0,.int .i64 0,.slice none 0 0,.slice none 0 0] 101 (0,0)):=by
  have:=heap_alloc_new (w.alloc (.cells #[.slice fa fn fc,.slice none 0 0,.slice none 0 0,.slice none 0 0,.int .i64 0,.slice none 0 0] 137)) (.cells #[.int .i64 0,.int .i64 0,.slice none 0 0,.slice none 0 0] 101);rw[hW];simpa using this
 have hσ:∀g,D g->(if g=w.heap.size+1 then 1 else if g<w.heap.size then 0 else 9)=0:=fun g hg=>by have:=hD g hg;rw[if_neg z4sa,if_pos this]
 refine⟨⟨fun g=>if g=w.heap.size+1 then 1 else if g<w.heap.size then 0 else 9,?_,hfr.keep hbd,fun g hg=>⟨by have:=hD g hg;omega,hσ g hg⟩,World.ownsRow_nil _ _ _ _,fun g hg=>by simp[Value.ownBlock]at hg,hc2,if_pos rfl,World.ownsRow_nil _ _ _ _,fun g hg=>by simp[Value.ownBlock]at hg,rfl⟩,hbd⟩;refine EC.Sv.start ((hfr.keep hbd).weak (fun g hg=>⟨by have:=hD g hg;omega,by show(if g=w.heap.size+1 then 1 else if g<w.heap.size then 0 else 9)<5;rw[hσ g hg];omega⟩)) ⟨rfl,rfl,rfl,rfl⟩ hc1 (fun g hg=>⟨hg.1,fun e=>?_⟩);have h2:(if g=w.heap.size+1 then 1 else if g<w.heap.size then 0 else 9)<5:=hg.2;have e':g=w.heap.size:=e;rw[e',if_neg z4sa,if_neg z4sa]at h2;omega
theorem Acd{D:Nat->Prop}{pb:Nat}{K:EC}{w:World}{slots:Nat}{st:List Af}{σ:Nat->Nat}{fs:List Fn}{ms:List Value}{ha:Option Addr}{hn hc:Nat}(h:Ly D pb K w ⟨[],slots,st,[]⟩ σ fs ms ha hn hc){ρ:Nat->Nat}{la:Option Addr}{ln lc:Nat}{pa:Option Addr}{pn pc:Nat}{bl:List LB}(hs:K.Sv (eK w.heap.size σ) w ⟨[],slots,st,[]⟩ ρ la ln lc pa pn pc bl)
  {sa:Option Addr} {sn sc:Nat} (hv:Hq (dX w.heap.size ρ) K.wb K.te w (.slice K.fa K.fn K.fc) (.slice K.ga K.gn K.gc) (.slice la ln lc) (.slice pa pn pc) slots st sa sn sc) (W:World) (hW:W=((w.setCell ⟨pb,1,none⟩ (.int .i64 (slots:Nat))).setCell ⟨pb,2,none⟩ (.slice sa sn sc)).setCell ⟨pb,0,none⟩ (.int .i64 (K.gl.length:Nat))) :
  ∃E:Nat->Prop,Ki E W pb ⟨K.gl.length,slots,st,fs⟩/\(∀g,E g->¬D g/\g<W.heap.size)/\A2 D w W:=by
 have lp:=A6 h.pbc;have hsz:W.heap.size=w.heap.size:=by rw[hW];simp[World.setCell]
 have hk:∀g,g≠pb->W.heap[g]?=w.heap[g]?:=by
  intro g hg;rw[hW,Below.heap_setCell _ _ _ _ (by exact hg),Below.heap_setCell _ _ _ _ (by exact hg),Below.heap_setCell _ _ _ _ (by exact hg)]
 have hpbc:W.heap[pb]?=some (.cells #[.int .i64 (K.gl.length:Nat),.int .i64 (slots:Nat),.slice sa sn sc,.slice ha hn hc] 101 (0,0)):=by
  rw[hW];have:=heap_set (j:=0) (heap_set (j:=2) (heap_set (j:=1) h.pbc (.int .i64 (slots:Nat))) (.slice sa sn sc)) (.int .i64 (K.gl.length:Nat));rw[this];simp
 have h4:=hv.Qm hs.one.2;have hSE:∀g,(Value.slice sa sn sc).ownBlock=some g->¬eK w.heap.size σ g:=fun g hg he=>by
  have:=(hs.prot g he).2;rw[h4 g hg]at this;cases this
 have hpbE:eK w.heap.size σ pb:=⟨lp,by rw[h.pbo];omega⟩;refine⟨fun g=>g<w.heap.size/\(g=pb\/(Value.slice sa sn sc).ownBlock=some g\/σ g=2\/σ g=4),⟨sa,sn,sc,ha,hn,hc,ms,⟨lp,.inl rfl⟩,hpbc,⟨?_,?_⟩,⟨?_,?_⟩,?_⟩,?_,?_⟩
 ·exact B2 hv.own (fun g hg _=>hk g (fun e=>hSE g hg (by rw[e];exact hpbE)))
 ·intro g hg;exact⟨Bg hv.own g hg,.inr (.inl hg)⟩
 ·exact B2 h.hr (fun g hg _=>hk g (fun e=>by have:=h.hro g hg;rw[e,h.pbo]at this;omega))
 ·intro g hg;exact⟨Bg h.hr g hg,.inr (.inr (.inl (h.hro g hg)))⟩
 ·exact h.fns.keep (fun g hg hl=>⟨hk g (fun e=>by rw[e,h.pbo]at hg;omega),hl,.inr (.inr (.inr hg))⟩)
 ·intro g hg;refine⟨fun hd=>?_,by rw[hsz];exact hg.1⟩;have h0:=h.dz g hd;rcases hg.2 with e1|e1|e1|e1
  ·rw[e1,h.pbo]at h0;omega
  ·exact hSE g e1 ⟨h0.1,by rw[h0.2];omega⟩
  ·omega
  ·omega
 ·exact⟨by rw[hW];rfl,by rw[hW];rfl,by rw[hW];rfl,by omega,fun g hg=>hk g (fun e=>by have:=(h.dz g hg).2;rw[e,h.pbo]at this;omega)⟩
theorem Ab7(c:BT A3)(hwf:Wf 4 c)(hlp:Nf c)(D:Nat->Prop)(w:World)(tb:Nat)(va:Option Addr)(vn vc:Nat)(ks:List Value)(hD:D tb)(hDl:∀g,D g->g<w.heap.size)(hpb:w.heap[tb]?=some (.cells #[.slice va vn vc] 140 (0,0)))
  (hown:Cr D w 142 1 (.slice va vn vc) ks.length ks) (hrep:Al D w c ks) (A1:bsize c<=50000) :
  Calls Tryz.prog 38 #[.pointer (some ⟨tb,0,none⟩)] w fun r w'=>∃pb E,r=.returned (.pointer (some ⟨pb,0,none⟩))/\Ki E w' pb (Ga c)/\(∀g,E g->¬D g/\g<w'.heap.size)/\A2 D w w':=by
 have hvn:vn=ks.length:=(Cf hown.1).1;subst hvn;have HF:=A0 (A12 c hwf D w tb va ks.length vc ks hpb hown hrep z4sa);have HPb:=A0 hpb;have HOwn:=A0 hown;have HRep:=A0 hrep;have hlen:=hrep.len;have HLen:=A0 hlen;have hls:=Ni c;have hkl:ks.length<=50000:=by omega
 have HWf:=A0 hwf;have HLp:=A0 hlp;clear hown hrep hlen hwf hpb hlp;go_enter Tryz.func38,Tryz.ntmps38;go_wp2_with fail
 refine HF.o.mono ?_;rintro r w1 ⟨fa,fn,fc,rfl,hb1',hfr1,hfo1⟩;have hpb1:=(hb1'.block tb (hDl tb hD)).trans HPb.o;have c0:=A7 hpb1 0 _ rfl;have lt:=A6 hpb1;have HFr1:=A0 hfr1;have HFo1:=A0 hfo1;have A4:=A0 hb1';have hsz1:=hb1'.size;clear hpb1 hfr1 hfo1 hb1';obtain⟨w2,Fx⟩:∃w2,w2=(w1.alloc (.cells #[.slice fa fn fc,.slice none 0 0,.slice none 0 0,.slice none 0 0,.int .i64 0,.slice none 0 0] 137)).alloc (.cells #[.int .i64 0,.int .i64 0,.slice none 0 0,.slice none 0 0] 101):=⟨_,rfl⟩;obtain⟨⟨σ0,hp0⟩,hbd0⟩:=Ace c (fun g=>D g\/(Value.slice fa fn fc).ownBlock=some g) w1 fa fn fc HFr1.o (fun g hg=>hg.elim (fun h=>Nat.lt_of_lt_of_le (hDl g h) hsz1) (fun h=>(HFo1.o g h).2)) w2 Fx;have HP0:=A0 hp0;have HW2:=A0 Fx;have Aa:Hid (A2 D w w2):=A2.trans ⟨A4.o.os,A4.o.tape,A4.o.output,A4.o.size,fun g hg=>A4.o.block g (hDl g hg)⟩ (hbd0.weak (fun g hg=>.inl hg));clear hp0 hbd0 Fx;go_wp2;rw[←HW2.o];clear HW2 c0 lt;go_loopg [21] ks.length (fun k v wr=>A5l (fun g=>D g\/(Value.slice fa fn fc).ownBlock=some g) c ks.length w2 w1.heap.size (w1.heap.size+1) fa fn fc k v wr)
 case atStart=>exact⟨0,[],none,0,0,[],0,[],[],none,0,0,σ0,rfl,by omega,HP0.o,rfl,by rw[show C2 0 c=c from by cases c <;> rfl];simp;omega,Nat.le_refl _,Nat.le_refl _,A2.refl _ _⟩
 case round=>
  clear HP0;obtain⟨i,gl,ga,gn,gc,fs,slots,st,ms,ha,hn,hc,σ,rfl,hik,hpg,hem,hsi,hgi,hfi,hbel⟩:=hrel;have HPg:=A0 hpg;have HEm:=A0 hem;have HBel:=A0 hbel;have HBD:Hid (A2 D w wr):=Aa.o.trans (hbel.weak (fun g hg=>.inl hg));clear hpg hem hbel;by_cases hlt:i<ks.length
  ·have hr:=HRep.o.Bf HBD.o;obtain⟨x,y,l,cc,r,hd,v,ks',hv,hnn,hrk⟩:=Al.at' i c ks hr z5ca;obtain⟨g,rfl,hvn9,hcap,lg,hcell⟩:=Hg (HOwn.o.Bf HBD.o).1 z4sa;clear hvn9;have d0:=hcell i v hv;have hwf1:=Wf.drop 4 i c HWf.o;rw[hd]at hwf1;have hlp1:=Nf.drop i c HLp.o;rw[hd]at hlp1;have hdn:=O8 i c x y l cc r hd;have hz:bsize (C2 i c)=bsize (nd l cc)+bsize r:=by rw[hd,Br,bsize]
   have hem1:=HEm.o;rw[hd,H9]at hem1;have hnds:=Br l cc;have hdz:bsize (C2 i c)<=bsize c:=Wb i c;clear hcell hv hd;by_cases h20:l.kd=20
   ·rw[if_pos h20]at hem1;have hlpx:=hlp1.1;rw[if_pos h20]at hlpx;have hwf2:Wf 1 cc:=by
     rcases hwf1.2 with⟨h0,_⟩|⟨h0,_⟩|⟨h0,_⟩|⟨_,h1,h2⟩|⟨_,h1,h2⟩|⟨_,h1,h2⟩|⟨_,_,h2⟩
     ·omega
     ·omega
     ·omega
     ·omega
     ·omega
     ·rw[h20]at h1;cases h1
     ·exact h2
    unfold Bh at hnn;rw[if_neg z4sa]at hnn;obtain⟨b,cs,rfl,hDb,hbb,hll⟩:=hnn;have e1:Cc l.kd=143:=by rw[h20];rfl
    have e2:D8 l.kd=218:=by rw[h20];rfl
    rw[e1]at d0;rw[e2]at hbb;unfold Cm at hll;simp only[h20]at hll;obtain⟨ps,sl,rfl,ho,hp⟩:=hll;obtain⟨va2,vn2,vc2,rfl⟩:∃va vn vc,sl=.slice va vn vc:=Nu ho.1;obtain⟨pa2,pn2,pc2,rfl⟩:∃va vn vc,ps=.slice va vn vc:=Nu hp.1;have hpd:=HPg.o.next (HPg.o.st.drewN 1) (Dk _ wr 1);have hEK:∀g,(D g\/(Value.slice fa fn fc).ownBlock=some g)->eK (wr.drewN 1).heap.size (Et σ wr.heap.size 9) g:=fun g hg=>⟨(hpd.dz g hg).1,by rw[(hpd.dz g hg).2];omega⟩;have HFun:=A0 (Anh ⟨w1.heap.size,137,Bx c,fa,fn,fc,gl,ga,gn,gc⟩ l cc hwf2 hlpx _ (wr.drewN 1) slots st b pa2 pn2 pc2 va2 vn2 vc2 ks' hpd.st (hEK b (.inl hDb)) hbb ((hp.Bf (Dk D wr 1)).weak (fun g hg=>hEK g (.inl hg))) ((ho.Bf (Dk D wr 1)).weak (fun g hg=>hEK g (.inl hg))) (Al.keep (w:=wr) (w':=wr.drewN 1) (fun g hg _=>⟨rfl,hEK g (.inl hg)⟩) _ _ hrk) z4sa);have HPd:=A0 hpd;have HEK:=A0 hEK;have q3:=A7 hpd.pbc 3 _ rfl;have lq:=A6 hpd.pbc;have lqw:w1.heap.size+1<wr.heap.size:=lq;have hhn:hn=fs.length:=(Cf hpd.hr).1;have q3':wr.cell? ⟨w1.heap.size+1,3,none⟩=some (.slice ha hn hc):=q3;have hfl:fs.length<=60000:=by omega
    have D4:=Ajz;have HEm1:=A0 hem1;have HDn:=A0 hdn;have hsn:st.length+2*bsize (C2 (i+1) c)<=700000:=by rw[hdn];omega
    have HSn:=A0 hsn;have HHr:=A0 hpd.hr;have HPbE:Hid (eK (wr.drewN 1).heap.size (Et σ wr.heap.size 9) (w1.heap.size+1)):=⟨lq,by rw[hpd.pbo];omega⟩;have HHE:Hid (∀g,(Value.slice ha hn hc).ownBlock=some g->eK (wr.drewN 1).heap.size (Et σ wr.heap.size 9) g):=fun g hg=>⟨Bg hpd.hr g hg,by rw[hpd.hro g hg];omega⟩;have HPbN:Hid ((Value.slice ha hn hc).ownBlock≠some (w1.heap.size+1)):=fun e=>by have:=hpd.hro _ e;rw[hpd.pbo]at this;omega
    have HPbc:=A0 hpd.pbc;subst hhn;clear hrk hr hem1 hdn hsn hwf1 hlp1 hlpx hwf2 hbb ho hp hpd hEK e1 e2 q3 h20;unfold C3 at *;go_wp2;go_region_law (first
     | (refine Nw _ w5.heap.size #[.string ⟨l.s.toArray⟩,.int .i64 (l.ps.length:Nat),.int .i64 ((K4 (Bx c) gl l cc).slots:Nat),.slice sa5 sn5 sc5] 103 (heap_alloc_new w5 (.cells #[.string ⟨l.s.toArray⟩,.int .i64 (l.ps.length:Nat),.int .i64 ((K4 (Bx c) gl l cc).slots:Nat),.slice sa5 sn5 sc5] 103)) rfl (.tmp 36) (.tmp 40) 99 rfl 0 4 56 _ Tryz.underlying99 Adj rfl z4sa (.slice ha fs.length hc) fs.length ms rfl rfl (hown5.alloc _) rfl (fun u hu=>by simp at hu;rcases hu with rfl|rfl|rfl|rfl <;> rfl) z4sa z4sa (Nat.zero_le _) ?_;intro g6 cap6 w6 hown6 hgrow6' hat6' hg6;have hgrow6:w5.grownBy w6 (Value.slice ha fs.length hc).ownBlock:=Md (World.grownBy_alloc w5 (.cells #[.string ⟨l.s.toArray⟩,.int .i64 (l.ps.length:Nat),.int .i64 ((K4 (Bx c) gl l cc).slots:Nat),.slice sa5 sn5 sc5] 103) none) hgrow6';have hat6:(Value.slice ha fs.length hc).ownBlock=some g6\/w5.heap.size<=g6:=(hat6'.imp id (fun e=>by rw[e];simp));have hl6:=(hgrow6.block (w1.heap.size+1) (A6 hpb5) (fun e=>HPbN.o e.symm)).trans hpb5;have z6:=A7 hl6 3 _ rfl;have fq:=Ci hl6;have lq6:=A6 hl6;clear hl6 hgrow6' hat6')
     | (refine Fg rfl 53 _ _ rfl #[.pointer (some ⟨w1.heap.size,0,none⟩),.pointer (some ⟨b,0,none⟩)] (by kernel_rfl) HFun.o ?_;rintro r5 w5 ⟨sa5,sn5,sc5,rfl,hrow5,hne5,Ch,Dd⟩;refine⟨_,rfl,?_⟩;have hpb5:=(Dd.block _ HPbE.o).trans HPbc.o;have hown5:w5.ownsRow 0 103 4 (.slice ha fs.length hc) fs.length ms:=B2 HHr.o (fun k hk hl=>Dd.block k (HHE.o k hk));have z3:=A7 hpb5 3 _ rfl;have l5:=A6 hpb5;have HRow5:=A0 hrow5;have HNe5:=A0 hne5;have Hs:=A0 Ch;have Ek:=A0 Dd;clear hrow5 hne5 Ch Dd))
    all_goals go_wp2
    all_goals
     obtain⟨⟨σ7,hp7⟩,hbq⟩:=HPd.o.func (f:=K4 (Bx c) gl l cc) Hs.o Ek.o HRow5.o HNe5.o hown6 hgrow6 hat6;have He:A2 (fun g=>D g\/(Value.slice fa fn fc).ownBlock=some g) w2 (w6.setCell ⟨w1.heap.size+1,3,none⟩ (.slice (some ⟨g6,0,none⟩) (fs.length+1) cap6)):=HBel.o.trans ((Dk _ wr 1).trans hbq);go_roundg (gk-1)
     case measure=>omega
     case rel=>exact⟨i+1,gl,ga,gn,gc,_,slots,st,_,_,_,_,σ7,rfl,by omega,hp7,by rw[HDn.o];exact HEm1.o,HSn.o,by omega,by simp;omega,He⟩
   ·by_cases h21:l.kd=21
    ·rw[if_neg h20,if_pos h21]at hem1;have hwf2:Wf 0 cc:=by
      rcases hwf1.2 with⟨h0,_⟩|⟨h0,_⟩|⟨h0,_⟩|⟨_,h1,h2⟩|⟨_,h1,h2⟩|⟨_,h1,h2⟩|⟨_,h1,h2⟩
      ·omega
      ·omega
      ·omega
      ·omega
      ·omega
      ·exact h2
      ·omega
     unfold Bh at hnn;rw[if_neg z4sa]at hnn;obtain⟨b,cs,rfl,hDb,hbb,hll⟩:=hnn;have e1:Cc l.kd=145:=by rw[h21];rfl
     have e2:D8 l.kd=152:=by rw[h21];rfl
     rw[e1]at d0;rw[e2]at hbb;unfold Cm at hll;simp only[h21]at hll;obtain⟨a,rfl,rfl⟩:=hll;obtain⟨x1,y1,l1,c1,r1,Cx,rfl,B9,B8,Gt⟩:=hrk.cons';obtain rfl:=Gt.nil';have hxs:=hwf2.exs;have Bq:bsize (.node x1 y1 l1 c1 .nil)=bsize (nd l1 c1):=by rw[Br,bsize];rfl
     have hsm:=Nn (Bx c) gl l1 c1 hxs.1 hxs.2.1 ⟨[],slots,st,[]⟩;have hst1:=Gh (Bx c) gl l1 c1 ⟨[],slots,st,[]⟩;rw[Ib,em]at hem1;have hEK:∀g,(D g\/(Value.slice fa fn fc).ownBlock=some g)->eK wr.heap.size σ g:=fun g hg=>⟨(HPg.o.dz g hg).1,by rw[(HPg.o.dz g hg).2];omega⟩;have HC:=A0 (HPg.o.st.expr hxs.1 hxs.2.1 (B9.weak (fun g hg=>hEK g (.inl hg))) (Al.keep (fun g hg _=>⟨rfl,hEK g (.inl hg)⟩) _ _ B8) (by simp only;omega));generalize I0:Am (Bx c) gl l1 (Ak c1) (em (Bx c) gl c1) ⟨[],slots,st,[]⟩=Bu at *;obtain⟨Gu,sl1,st1,lp1⟩:=Bu;obtain⟨Ai,Az,C0⟩:=hsm;simp only at Ai Az C0 hst1;subst Ai Az C0;have d2:=A7 hbb 2 a rfl;have ld:=A6 hbb;have HBb:=A0 hbb;have D4:=A43 145 z4ta;have Dp:=A3t;have HEm1:=A0 hem1;have HDn:=A0 hdn;have hsn:(st1++[(⟨4,(gl.length:Nat),0,Bp⟩:Af)]).length+2*bsize (C2 (i+1) c)<=700000:=by rw[hdn];simp;omega
     have HSn:=A0 hsn;have HEK:=A0 hEK;clear hr hem1 hdn hsn hwf1 hlp1 hwf2 hbb B9 B8 Gt hrk hEK e1 e2 hxs I0 h20 h21;unfold C3 at *;go_wp2_with fail
     refine HC.o.mono ?_;rintro r9 w5 ⟨rfl,Ch,Dd⟩;have hp5:=HPg.o.next Ch Dd;have hB5:A2 (fun g=>D g\/(Value.slice fa fn fc).ownBlock=some g) w2 w5:=HBel.o.trans (Dd.weak (fun g hg=>HEK.o g hg));have hbk5:=(Dd.block b (HEK.o b (.inl hDb))).trans HBb.o;have HBb5:=A0 hbk5;have Ep:=A0 hp5;have Ek:=A0 hB5;obtain⟨ρ5,la5,ln5,lc5,pa5,pn5,pc5,bl5,h5,_⟩:=hp5.st;obtain⟨sa5,sn5,sc5,Ir⟩:=h5.ew;have g1:=A7 Ir.cell 1 _ rfl;have lg1:=A6 Ir.cell;have hgn:gn=gl.length:=(Cf hp5.gr).1;simp only at g1 lg1;have hgl9:gl.length<=60000:=by omega
     subst hgn;have HStp:=A0 (hp5.st.step (by simp only;omega) 4 (gl.length:Nat) 0);clear Ch Dd hp5 hB5 h5 Ir d2 ld hbk5;go_wp2_with fail
     refine HStp.o.mono ?_;rintro r9 w6 ⟨rfl,Dy,hb6⟩;have hp6:=Ep.o.next Dy hb6;have Jh:Hid (A2 (fun g=>D g\/(Value.slice fa fn fc).ownBlock=some g) w2 w6):=Ek.o.trans (hb6.weak (fun g hg=>⟨(Ep.o.dz g hg).1,by rw[(Ep.o.dz g hg).2];omega⟩));have hbk6:=(hb6.block b ⟨(Ep.o.dz b (.inl hDb)).1,by rw[(Ep.o.dz b (.inl hDb)).2];omega⟩).trans HBb5.o;have d1:w6.cell? ⟨b,1,none⟩=some (.string ⟨l.s.toArray⟩):=A7 hbk6 1 _ rfl;have ld:=A6 hbk6;obtain⟨ρ6,la6,ln6,lc6,pa6,pn6,pc6,bl6,h6,_⟩:=hp6.st;obtain⟨sa6,sn6,sc6,hv6⟩:=h6.ew;have hcw6:=hv6.cell;have g1:=A7 hv6.cell 1 _ rfl;have lg1:=A6 hv6.cell;simp only at g1 lg1;have hown6:w6.drew.ownsRow 0 9 1 (.slice ga gl.length gc) gl.length (Cz gl):=B2 hp6.gr (fun _ _ _=>rfl);have hnb:(Value.slice ga gl.length gc).ownBlock≠some w1.heap.size:=fun e=>hp6.st.lo.2.2 ⟨hp6.st.lo.2.1,by show Et _ _ _ w1.heap.size<5;rw[hp6.gro _ e];omega⟩;have HCw6:=A0 hcw6;have HNb:=A0 hnb;have HP6:=A0 hp6;clear Dy hb6 hp6 h6 hv6 hbk6 hcw6 hnb;go_wp2;go_region_law (refine Nw _ w6.heap.size #[.string ⟨l.s.toArray⟩] 9 (heap_alloc_new w6.drew (.cells #[.string ⟨l.s.toArray⟩] 9)) rfl (.tmp 64) (.tmp 70) 37 rfl 0 1 16 (.string ⟨#[]⟩) Tryz.underlying37 Xq rfl z4sa (.slice ga gl.length gc) gl.length (Cz gl) rfl rfl (hown6.alloc _) rfl (fun u hu=>by simp at hu;rw[hu];rfl) z4sa z4sa (Nat.zero_le _) ?_;intro g7 cap7 w7 hown7 hgrow7' hat7' hg7;have hgrow7:w6.drew.grownBy w7 (Value.slice ga gl.length gc).ownBlock:=Md (World.grownBy_alloc w6.drew (.cells #[.string ⟨l.s.toArray⟩] 9) none) hgrow7';have hat7:(Value.slice ga gl.length gc).ownBlock=some g7\/w6.drew.heap.size<=g7:=(hat7'.imp id (fun e=>by rw[e];simp));have hl7:=(hgrow7.block w1.heap.size lg1 (fun e=>HNb.o e.symm)).trans HCw6.o;have z7:=A7 hl7 1 _ rfl;have fq:=Ci hl7;have lq7:=A6 hl7;clear hl7 hgrow7' hat7')
     all_goals go_wp2
     all_goals
      obtain⟨⟨σ8,hp8⟩,hb8⟩:=(HP6.o.next (HP6.o.st.drewN 1) (Dk _ w6 1)).Ad9 l.s (by show gl.length+1<=_;omega) hown7 hgrow7 hat7;have hbq:A2 (fun g=>D g\/(Value.slice fa fn fc).ownBlock=some g) w2 (w7.setCell ⟨w1.heap.size,1,none⟩ (.slice (some ⟨g7,0,none⟩) (gl.length+1) cap7)):=Jh.o.trans ((Dk _ w6 1).trans hb8);go_roundg (gk-1)
      case measure=>omega
      case rel=>exact⟨i+1,gl++[l.s],_,_,_,fs,_,_,ms,ha,hn,hc,σ8,rfl,by omega,hp8,by rw[HDn.o];exact HEm1.o,HSn.o,by simp;omega,by omega,hbq⟩
    ·rw[if_neg h20,if_neg h21,A0d]at hem1;have hlpx:=hlp1.1;rw[if_neg h20]at hlpx;have Jd:=hwf1.Afk h20;have hkd:=hwf1.kd4 h20 h21;obtain⟨slots',st',hE⟩:=Abj (Bx c) gl l cc Jd h21 ⟨[],slots,st,[]⟩ rfl rfl;have hst1:=Gh (Bx c) gl l cc ⟨[],slots,st,[]⟩;rw[hE]at hst1 hem1;have hE':=A0 hE;have hEK:∀g,(D g\/(Value.slice fa fn fc).ownBlock=some g)->eK wr.heap.size σ g:=fun g hg=>⟨(HPg.o.dz g hg).1,by rw[(HPg.o.dz g hg).2];omega⟩;have HC:=A0 (((A5a ⟨w1.heap.size,137,Bx c,fa,fn,fc,gl,ga,gn,gc⟩ (nd l cc)).1 Jd).1 [] _ wr ⟨[],slots,st,[]⟩ v ks' HPg.o.st (hnn.weak (fun g hg=>hEK g (.inl hg))) (Al.keep (fun g hg _=>⟨rfl,hEK g (.inl hg)⟩) _ _ hrk) hlpx (fun x hx=>by cases hx) (by simp only;omega) z63a z63a);unfold Bh at hnn;rw[if_neg z4sa]at hnn;obtain⟨b,cs,rfl,_,_,_⟩:=hnn;have D4:=A43 (Cc l.kd) (A33 (.inl hkd));have Dp:=N8 (Cc l.kd) (Ah5 hkd);have HEm1:=A0 hem1;have HDn:=A0 hdn;have hsn:st'.length+2*bsize (C2 (i+1) c)<=700000:=by rw[hdn];simp only at hst1;omega
     have HSn:=A0 hsn;have HEK:=A0 hEK;clear hrk hr hem1 hdn hsn hwf1 hlp1 hlpx Jd hE hEK;generalize Cc l.kd=tt at *;unfold C3 at *;go_wp2_with fail
     refine HC.o.mono ?_;rintro r9 w9 ⟨rfl,F7,Dl⟩;have hs9':(⟨w1.heap.size,137,Bx c,fa,fn,fc,gl,ga,gn,gc⟩:EC).St [] (eK wr.heap.size σ) w9 ⟨[],slots',st',[]⟩:=by rw[←hE'.out];exact F7
     have HPg9:=A0 (HPg.o.next hs9' Dl);have Gx:Hid (A2 (fun g=>D g\/(Value.slice fa fn fc).ownBlock=some g) w2 w9):=HBel.o.trans (Dl.weak (fun g hg=>HEK.o g hg));clear F7 hs9' Dl;go_wp2;go_roundg (gk-1)
     case measure=>omega
     case rel=>exact⟨i+1,gl,ga,gn,gc,fs,slots',st',ms,ha,hn,hc,_,rfl,by omega,HPg9.o,by rw[HDn.o];exact HEm1.o,HSn.o,by omega,by omega,Gx.o⟩
  ·have h0:C2 i c=.nil:=by
    exact z1qa
   have hem1:=HEm.o;rw[h0,H9]at hem1;have HEm1:=A0 hem1;have hpg:=HPg.o;obtain⟨ρ5,la5,ln5,lc5,pa5,pn5,pc5,bl5,h5,_⟩:=hpg.st;obtain⟨sa5,sn5,sc5,Ir⟩:=h5.ew;obtain⟨c0,c1,c2,c3,c4,c5,fz,lb⟩:=T7 Ir.cell;obtain⟨q0,q1,q2,q3,fq,lq⟩:=Dt hpg.pbc;have hgn:gn=gl.length:=(Cf hpg.gr).1;simp only at c0 c1 c2 c3 c4 c5 fz lb;subst hgn;have hgl9:gl.length<=60000:=by omega
   have hne:w1.heap.size≠w1.heap.size+1:=by omega
   have HV5:=A0 Ir;have H5:=A0 h5;clear hem1 h0 hpg h5 Ir;go_wp2;go_ret;obtain⟨E,k1,k2,k3⟩:=Acd HPg.o H5.o HV5.o _ rfl;rw[HEm1.o]at k1;exact⟨_,rfl,E,k1,fun g hg=>⟨fun hd=>(k2 g hg).1 (.inl hd),(k2 g hg).2⟩,HBD.o.trans (k3.weak (fun g hg=>.inl hg))⟩
end
end Go.Proofs.YtjdlndhfaaolaaaGreatDoor
