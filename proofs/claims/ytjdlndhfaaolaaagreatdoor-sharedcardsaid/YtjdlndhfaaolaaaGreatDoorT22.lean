import Derived.Test.YtjdlndhfaaolaaaGreatDoorT21
set_option maxHeartbeats 20000000
namespace Go.Proofs.YtjdlndhfaaolaaaGreatDoor
section
set_option maxRecDepth 100000
open Go.RowKit
open Go.Deep (BT)
theorem z3wa {P:Prop} (h:P:=by
  unfold Po at h1;simp only[Bool.or_eq_true,Bool.and_eq_true,decide_eq_true_eq,beq_iff_eq]at h1;omega):P:=h
theorem Wf.top{x y:Nat}{l:A6}{c r:BT A6}(h:Wf 4 (.node x y l c r)):(l.kd=20->Wf 1 c)/\(l.kd≠20->Wf 1 (nd l c)/\((22<=l.kd/\l.kd<=30)\/l.kd=21)):=by
 rcases h.2 with⟨h0,_⟩|⟨h0,_⟩|⟨h0,_⟩|⟨_,h1,h2⟩|⟨_,h1,h2⟩|⟨_,h1,h2⟩|⟨_,h1,h2⟩
 ·omega
 ·omega
 ·omega
 ·exact⟨fun e=>by omega,fun _=>⟨⟨trivial,.inr (.inr (.inr (.inl ⟨.inl rfl,h1,h2⟩)))⟩,by omega⟩⟩
 ·exact⟨fun e=>by omega,fun _=>⟨⟨trivial,.inr (.inr (.inr (.inr (.inl ⟨.inl rfl,h1,h2⟩))))⟩,by omega⟩⟩
 ·refine⟨fun e=>(by rw[e]at h1;cases h1),fun _=>⟨⟨trivial,.inr (.inr (.inr (.inr (.inr (.inl ⟨.inl rfl,h1,h2⟩)))))⟩,?_⟩⟩;exact z3wa
 ·exact⟨fun _=>h2,fun e=>absurd h1 e⟩
theorem z3va {P:Prop} (h:P:=by
  exact⟨rfl,A7.o,A4.o⟩):P:=h
theorem Aaq(K:CC)(l:A6)(c:BT A6)(hk:l.kd=20)(hok:D8 (K4 K) c)(D:Nat->Prop)(w:World)(cur:List Nm)(f:Cw)(rc:Nat)(v:Value)(ks:List Value)(hst:K.St D w cur [0] 0 false f rc)(hrc:rc<K.fns.length)(hn:Bx D w l v ks)(hr:Ao D w c ks)(A1:cur.length+l.ps.length+bsize c<=600000) :
  Calls Tryz.prog 192 #[.pointer (some ⟨K.cb,0,none⟩),v] w fun e w'=>e=.returned (.tuple #[])/\K.St D w' cur [0] 0 false (By K.fns c cur (J4 l.ps [] (Ed (decide (l.s∈(K.fns.take rc).map (·.1))) 3 l.line f)).1 0 true (J4 l.ps [] (Ed (decide (l.s∈(K.fns.take rc).map (·.1))) 3 l.line f)).2).2 (rc+1)/\A3 D w w':=by
 obtain⟨hlo,lcb,hncb⟩:=hst.lo;unfold Bx at hn;rw[if_neg z51a]at hn;obtain⟨b,cs,rfl,hD,hb,hl⟩:=hn;have e1:Ck l.kd=143:=by rw[hk];rfl
 have e2:Dn l.kd=218:=by rw[hk];rfl
 rw[e1];rw[e2]at hb;unfold Cy at hl;simp only[hk]at hl;obtain⟨ps,sl,rfl,ho,hpo⟩:=hl;obtain⟨va,vn,vc,rfl⟩:∃va vn vc,sl=.slice va vn vc:=Nw ho.1;obtain⟨pa,pn,pc,rfl⟩:∃va vn vc,ps=.slice va vn vc:=Nw hpo.1;have HC:=A0 (Aa1 K l c hok D w cur f rc b pa pn pc va vn vc ks hst hrc hD hb hpo ho hr A1);have ld:=A5 hb;have Dh:=fun(v:Value) (w:World)=>E3 (P:=Tryz.prog) (xT:=142) Tryz.underlying143 v w;clear hst hb e1 e2 hk hr ho hpo;unfold Ch;go_enter Tryz.func192,Tryz.ntmps192;go_wp2_with fail
 refine HC.o.mono ?_;rintro e w1 ⟨rfl,Al,A1⟩;have A7:=A0 Al;have A4:=A0 A1;clear Al A1;go_wp2;go_end0;exact z3va
theorem z6ma {P:Prop} (h:P:=by simp only[List.length_nil];omega):P:=h
theorem Aaz(K:CC)(c:BT A6)(hwf:Wf 4 c)(hfns:K.fns=Cu c)(D:Nat->Prop)(w:World)(f:Cw)(va:Option Addr)(vn vc:Nat)(ks:List Value)
  (hst:K.St D w [] [0] 0 false f 0) (hown:Cz D w 142 1 (.slice va vn vc) ks.length ks) (hrep:Ao D w c ks) (A1:bsize c<=400000) :
  Calls Tryz.prog 134 #[.pointer (some ⟨K.cb,0,none⟩),.slice va vn vc] w fun e w'=>e=.returned (.tuple #[])/\(∃cn rc,K.St D w' cn [0] 0 false (Et K.fns c [] [] f) rc)/\A3 D w w':=by
 have hvn:vn=ks.length:=(Cg hown.1).1;subst hvn;have HSt0:=A0 hst;have HOwn:=A0 hown;have HRep:=A0 hrep;have hlen:=hrep.len;have HLen:=A0 hlen;have hls:=Nk c;have hkl:ks.length<=700000:=by omega
 have HFns:=A0 hfns;have HWf:=A0 hwf;clear hst hown hrep hlen hfns hwf;go_enter Tryz.func134,Tryz.ntmps134;go_wp2;go_loopg [8] ks.length (fun k v wr=>∃(i n:Nat) (cn:List Nm) (fl:Cw),v=.int .i64 i/\i+k=ks.length/\cn.length+bsize (Cd i c)<=bsize c/\K.St D wr cn [0] 0 false fl n/\K.fns.drop n=Cu (Cd i c)/\Et K.fns (Cd i c) ((K.fns.take n).map (·.1)) cn fl=Et K.fns c [] [] f/\A3 D w wr)
 case atStart=>exact⟨0,0,[],f,rfl,by omega,by rw[show Cd 0 c=c from by cases c <;> rfl];simp,HSt0.o,HFns.o,rfl,A3.refl _ _⟩
 case round=>
  clear HSt0;obtain⟨i,n,cn,fl,rfl,hik,hcn,hst,hdr,hse,hbel⟩:=hrel;have HSt:=A0 hst;have HSe:=A0 hse;have HBel:=A0 hbel;have HDr:=A0 hdr;clear hst hse hbel hdr;by_cases hlt:i<ks.length
  ·have hr:=HRep.o.Bv HBel.o;obtain⟨x,y,l,cc,r,hd,v,ks',hv,hn,hrk⟩:=Ao.at' i c ks hr z5na;obtain⟨g,rfl,_,hcap,lg,hcell⟩:=G2 (HOwn.o.Bv HBel.o).1 z51a;have d0:=hcell i v hv;have hdn:=W8 i c;have hsz:bsize (Cd i c)=bsize (nd l cc)+bsize r:=by rw[hd,Co,bsize]
   have hnds:=Co l cc;have hds:=Oc i c x y l cc r hd;have HDs:=A0 hds;have hw4:Wf 4 (.node x y l cc r):=by have:=Wf.drop 4 i c HWf.o;rw[hd]at this;exact this
   by_cases h20:l.kd=20
   ·obtain⟨hnl,hnf,hdr',htk⟩:=Ad5 (HDr.o.trans ((congrArg Cu hd).trans (A0l x y l cc r h20)));have HDr':=A0 hdr';have HC:=A0 (Aaq K l cc h20 ((A43 K cc z51a).1 (hw4.top.1 h20)) D wr cn fl n v ks' HSt.o hnl hn hrk z51a);have HNx:=A0 ((congrArg (fun q=>Et K.fns q ((K.fns.take n).map (·.1)) cn fl) hd).symm.trans HSe.o);have HFn:=A0 (Akf K.fns x y l cc r ((K.fns.take n).map (·.1)) cn fl h20);have HTk:=A0 htk;clear hr hd hv hn hrk hcell hds hw4 hnf hdr' htk;go_wp2_with fail
    refine HC.o.mono ?_;rintro e w1 ⟨rfl,Al,A1⟩;have A7:=A0 Al;have A4:Hid (A3 D w w1):=HBel.o.trans A1;clear Al A1;go_wp2;go_roundg (gk-1)
    case measure=>omega
    case rel=>exact⟨i+1,n+1,cn,_,rfl,by omega,by rw[HDs.o];omega,A7.o,by rw[HDs.o];exact HDr'.o,by rw[HDs.o,HTk.o,<-HNx.o,HFn.o],A4.o⟩
   ·have Fx:=(hw4.top.2 h20).1;have HC:=A0 (((A43 K (nd l cc) z51a).1 Fx).1 D wr [] cn [] 0 false fl n v ks' HSt.o hn hrk (by simp only[List.nil_append];omega) z6ma z51a);have hnil:By K.fns (.node x y l cc .nil) [] cn 0 false fl=By K.fns (nd l cc) [] cn 0 false fl:=Jt K.fns x y l cc [] cn 0 false fl;have hsx:=((congrArg (fun q=>Et K.fns q ((K.fns.take n).map (·.1)) cn fl) hd).symm.trans HSe.o);rw[Akh K.fns x y l cc r _ cn fl h20,hnil]at hsx;have HSx:=A0 hsx;have HF2:=A0 ((HDr.o.trans (congrArg Cu hd)).trans (A0m x y l cc r h20));have hcl:=A3k K.fns (nd l cc) [] cn 0 false fl;clear hr hd hv hn hrk hcell hds hw4 Fx hnil hsx;go_wp2_with fail
    refine HC.o.mono ?_;rintro e w1 ⟨rfl,Al,A1⟩;have A7:=A0 Al;have A4:Hid (A3 D w w1):=HBel.o.trans A1;clear Al A1;go_wp2;go_roundg (gk-1)
    case measure=>omega
    case rel=>exact⟨i+1,n,(By K.fns (nd l cc) [] cn 0 false fl).1,_,rfl,by omega,by rw[HDs.o];omega,A7.o,by rw[HDs.o];exact HF2.o,by rw[HDs.o];exact HSx.o,A4.o⟩
  ·have HE:Hid (fl=Et K.fns c [] [] f):=by
    exact z0sa
   go_wp2;go_end0;rw[<-HE.o];exact⟨rfl,⟨cn,n,HSt.o⟩,HBel.o⟩
theorem A9p(K:CC)(c:BT A6)(hwf:Wf 4 c)(hfns:K.fns=Cu c)(D:Nat->Prop)(w:World)(f:Cw)(va:Option Addr)(vn vc:Nat)(ks:List Value)
  (hst:K.St D w [] [] 0 false f 0) (hown:Cz D w 142 1 (.slice va vn vc) ks.length ks) (hrep:Ao D w c ks) (A1:bsize c<=400000) :
  Calls Tryz.prog 80 #[.pointer (some ⟨K.cb,0,none⟩),.slice va vn vc] w fun e w'=>e=.returned (.tuple #[])/\(∃cn bk rc,K.St D w' cn bk 0 false (Et K.fns c [] [] f) rc)/\A3 D w w':=by
 have HO:=A0 (Tl hst.st z56a);have HSt:=A0 hst;have HRun:=A0 (fun(W:World) (hs:K.St D W [] [0] 0 false f 0) (hbd:A3 D w W)=>Aaz K c hwf hfns D W f va vn vc ks hs (hown.Bv hbd) (hrep.Bv hbd) A1);clear hst hown hrep;go_enter Tryz.func80,Tryz.ntmps80;go_wp2_with fail
 refine HO.o.mono ?_;rintro e w1 ⟨rfl,Al,A1⟩;have A7:=A0 (HSt.o.next Al A1);have A4:=A0 A1;clear Al A1;go_wp2_with fail
 refine(HRun.o _ A7.o A4.o).mono ?_;rintro e w2 ⟨rfl,⟨cn,rc,B5⟩,A8⟩;have Aj:=A0 B5;have Aa:Hid (A3 D w w2):=A4.o.trans A8;clear B5 A8;go_wp2_with fail
 refine(Th (bk:=[]) (p:=0) Aj.o.st (Nat.zero_le _)).mono ?_;rintro e w3 ⟨rfl,Ca,Ak⟩;have Bg:=A0 (Aj.o.next Ca Ak);have Ay:Hid (A3 D w w3):=Aa.o.trans Ak;clear Ca Ak;go_wp2;go_end0;exact⟨rfl,⟨_,_,_,Bg.o⟩,Ay.o⟩
theorem Adx:(Tryz.prog.info? 143).map (fun i=>(i.zero,i.size,i.bytes))=some (some (.pointer none),1,8):=by kernel_rfl
def Yq(D:Nat->Prop)(w:World)(p:Nm×Nat)(v:Value):Prop:=∃pb pa pc,v=.pointer (some ⟨pb,0,none⟩)/\D pb/\pb<w.heap.size/\w.cell? ⟨pb,1,none⟩=some (.string ⟨p.1.toArray⟩)/\w.cell? ⟨pb,2,none⟩=some (.slice pa p.2 pc)
def A5a(D:Nat->Prop)(c:BT A6)(nk:Nat)(w:World)(k:Nat)(v3 v13:Value)(wr:World):Prop:=
 ∃(i:Nat) (fs:List (Nm×Nat)) (fa:Option Addr) (fn fc:Nat) (ps:List Value),v3=.slice fa fn fc/\v13=.int .i64 i/\i+k=nk/\Cu c=fs++Cu (Cd i c)/\fs.length<=i/\wr.ownsRow 0 143 1 (.slice fa fn fc) ps.length ps/\ps.length=fs.length/\
  (∀j (h:j<fs.length),∃v,ps[j]?=some v/\Yq D w fs[j] v)/\(∀g,(Value.slice fa fn fc).ownBlock=some g->w.heap.size<=g)/\Below w.heap.size w wr
def A59(D:Nat->Prop)(c:BT A6)(w:World)(e:Ending)(w':World):Prop:=
 ∃fa fn fc,e=.returned (.slice fa fn fc)/\Below w.heap.size w w'/\I7 (fun g=>D g\/(Value.slice fa fn fc).ownBlock=some g) w' (Cu c) fa fn fc/\(∀g,(Value.slice fa fn fc).ownBlock=some g->w.heap.size<=g/\g<w'.heap.size)
theorem A33{kd:Nat}(h:(22<=kd/\kd<=30)\/kd=21):Ck kd≠143:=by
 have h9:kd=21\/kd=22\/kd=23\/kd=24\/kd=25\/kd=26\/kd=27\/kd=28\/kd=29\/kd=30:=by omega
 rcases h9 with e|e|e|e|e|e|e|e|e|e <;> (subst e;decide)
theorem A0s(c:BT A6)(hwf:Wf 4 c)(D:Nat->Prop)(w:World)(pb:Nat)(va:Option Addr)(vn vc:Nat)(ks:List Value)(hpb:w.heap[pb]?=some (.cells #[.slice va vn vc] 140 (0,0)))
  (hown:Cz D w 142 1 (.slice va vn vc) ks.length ks) (hrep:Ao D w c ks) (A1:bsize c<=90000) :
  Calls Tryz.prog 52 #[.pointer (some ⟨pb,0,none⟩)] w (A59 D c w):=by
 have hvn:vn=ks.length:=(Cg hown.1).1;subst hvn;have c0:=A2 hpb 0 _ rfl;have lp:=A5 hpb;have HOwn:=A0 hown;have HRep:=A0 hrep;have hlen:=hrep.len;have HLen:=A0 hlen;have hls:=Nk c;have hkl:ks.length<=90000:=by omega
 have HWf:=A0 hwf;clear hown hrep hlen hwf hpb;go_enter Tryz.func52,Tryz.ntmps52;go_wp2;go_loopg [3,13] ks.length (fun k v3 v13 wr=>A5a D c ks.length w k v3 v13 wr)
 case atStart=>exact⟨0,[],none,0,0,[],rfl,rfl,by omega,rfl,Nat.le_refl _,World.ownsRow_nil _ _ _ _,rfl,fun j h=>by simp at h,by simp[Value.ownBlock],Below.refl _ _⟩
 case round=>
  obtain⟨i,fs,fa,fn,fc,ps,rfl,rfl,hik,hfs,hfl,hro,hpl,hat,hlo,hbel⟩:=hrel;have HFs:=A0 hfs;have HRo:=A0 hro;have HAt:=A0 hat;have HLo:=A0 hlo;have HBel:=A0 hbel;have HPl:=A0 hpl;clear hfs hro hat hlo hbel;by_cases hlt:i<ks.length
  ·obtain⟨x,y,l,cc,r,hd,v,ks',hv,hn,hrk⟩:=Ao.at' i c ks HRep.o z5na;obtain⟨g,rfl,_,hcap,lg,hcell⟩:=G2 HOwn.o.1 z51a;have d0:=(World.cell?_of_block (HBel.o.block g lg)).trans (hcell i v hv);have lg2:g<wr.heap.size:=Nat.lt_of_lt_of_le lg HBel.o.size;have hds:=Oc i c x y l cc r hd;have HDs:=A0 hds;have hw4:Wf 4 (.node x y l cc r):=by have:=Wf.drop 4 i c HWf.o;rw[hd]at this;exact this
   by_cases h20:l.kd=20
   ·unfold Bx at hn;rw[if_neg z51a]at hn;obtain⟨b,cs,rfl,hD,hb,hl⟩:=hn;have e1:Ck l.kd=143:=by rw[h20];rfl
    rw[e1]at d0;unfold Cy at hl;simp only[h20]at hl;obtain⟨pp,sl,rfl,_,hpo⟩:=hl;obtain⟨pa,pn,pc,rfl⟩:∃va vn vc,pp=.slice va vn vc:=Nw hpo.1;have hpn:pn=l.ps.length:=(Cg hpo.1).1;have HFnA:Hid (Yq D w (l.s,l.ps.length) (.pointer (some ⟨b,0,none⟩))):=by
     refine⟨b,pa,pc,rfl,hD,A5 hb,A2 hb 1 _ rfl,?_⟩;have:=A2 hb 2 _ rfl;rw[hpn]at this;exact this
    have HFx:Hid (Cu c=(fs++[(l.s,l.ps.length)])++Cu (Cd (i+1) c)):=by
     show _=_;rw[HFs.o,hd,A0l x y l cc r h20,hds];simp
    have ta:=fun(v:Value) (w:World)=>E3 (P:=Tryz.prog) (xT:=142) Tryz.underlying143 v w;have hrow:=HRo.o;have hpl2:ps.length<=90000:=by omega
    clear hcell hd hv hrk hds hw4 e1 h20 hb hpo hpn hpl;unfold Ch at d0;go_wp2_with (at_builtin;refine Kb wr #[.pointer (some ⟨b,0,none⟩)] 143 rfl (.tmp 23) (.tmp 25) 129 rfl 0 1 8 (.pointer none) Tryz.underlying129 Adx rfl z51a (.slice fa fn fc) ps.length ps rfl rfl hrow rfl (fun u hu=>by simp at hu;rw[hu];rfl) z51a z51a (Nat.zero_le _) ?_;intro g2 cap2 w2 hown2 hgrow2 hat2 Ht)
    have hsz:=HBel.o.size;go_roundg (gk-1)
    case measure=>omega
    case rel=>
     refine⟨i+1,fs++[(l.s,l.ps.length)],some ⟨g2,0,none⟩,ps.length+1,cap2,ps++[.pointer (some ⟨b,0,none⟩)],rfl,rfl,by omega,HFx.o,by simp;omega,by simpa using hown2,by simp[HPl.o],?_,?_,?_⟩
     ·intro j hj;by_cases hjl:j<fs.length
      ·obtain⟨v,k1,k2⟩:=HAt.o j hjl;refine⟨v,?_,by rw[List.getElem_append_left hjl];exact k2⟩;rw[List.getElem?_append_left (by rw[HPl.o];exact hjl)];exact k1
      ·have hje:j=fs.length:=by simp at hj;omega
       subst hje;refine⟨_,?_,by rw[List.getElem_append_right (Nat.le_refl _)];simpa using HFnA.o⟩;rw[List.getElem?_append_right (by rw[HPl.o];exact Nat.le_refl _),HPl.o];simp
     ·intro k hk;simp only[Value.ownBlock,Option.some.injEq]at hk;rw[<-hk];rcases hat2 with h|h
      ·exact HLo.o g2 h
      ·omega
     ·exact⟨hgrow2.os.trans HBel.o.os,hgrow2.tape.trans HBel.o.tape,hgrow2.output.trans HBel.o.output,Nat.le_trans hsz hgrow2.size,fun k hk=>(hgrow2.block k z51a (fun e=>by have:=HLo.o k e.symm;omega)).trans (HBel.o.block k hk)⟩
   ·have hk:=(hw4.top.2 h20).2;unfold Bx at hn;rw[if_neg z51a]at hn;obtain⟨b,cs,rfl,hD,hb,hl⟩:=hn;have HFx:Hid (Cu c=fs++Cu (Cd (i+1) c)):=by
     show _=_;rw[HFs.o,hd,A0m x y l cc r h20,hds]
    have hpt:=A33 hk;have ta:=fun(v:Value) (w:World)=>Bl (P:=Tryz.prog) (t:=Ck l.kd) (T:=143) (xT:=142) (z:=.pointer none) Tryz.underlying143 (by kernel_rfl) hpt v w;clear hcell hd hv hrk hds hw4 h20 hb hl hk hpt hpl;generalize Ck l.kd=tt at *;go_wp2;go_roundg (gk-1)
    case measure=>omega
    case rel=>exact⟨i+1,fs,fa,fn,fc,ps,rfl,rfl,by omega,HFx.o,by omega,HRo.o,HPl.o,HAt.o,HLo.o,HBel.o⟩
  ·have hfn:fn=ps.length:=(Cg HRo.o).1;have hcp:=Agj HRo.o;have HE:Hid (Cu c=fs):=by
    show _=_;have h0:Cd i c=.nil:=by
     exact z1wa
    have:=HFs.o;rw[h0]at this;simpa [Cu]using this
   go_wp2;go_ret;refine⟨fa,fn,fc,rfl,HBel.o,?_,fun g hg=>⟨HLo.o g hg,Bs HRo.o g hg⟩⟩;rw[HE.o];refine⟨by rw[hfn,HPl.o],by omega,by omega,fun j hj=>?_⟩;obtain⟨v,k1,pb',pa,pc,rfl,k2,k3,k4,k5⟩:=HAt.o j hj;obtain⟨g,hfa,_,_,lg,hcell⟩:=G2 HRo.o z51a;have hsz:=HBel.o.size;refine⟨g,pb',pa,pc,hfa,.inr (by rw[hfa];rfl),lg,hcell j _ k1,.inl k2,by omega,(World.cell?_of_block (HBel.o.block pb' k3)).trans k4,(World.cell?_of_block (HBel.o.block pb' k3)).trans k5⟩
theorem Aa6{w:World}{fa:Option Addr}{fn fc:Nat}:Fa (fun g=>g<w.heap.size) w.heap.size 213 (w.alloc (.cells #[.slice fa fn fc,.int .i64 0,.slice none 0 0,.slice none 0 0,.slice none 0 0,.bool false,.int .i64 0,.int .i64 0] 213)) [] [] 0 false (0,0) 0 fa fn fc:=by
 refine⟨none,0,0,none,0,0,none,0,0,[],heap_alloc_new _ _,World.ownsRow_nil _ _ _ _,World.ownsRow_nil _ _ _ _,World.ownsRow_nil _ _ _ _,rfl,by omega,?_,?_,?_,by simp,fun g hg=>by simp;omega⟩;all_goals intro g hg;simp[Value.ownBlock]at hg
theorem A9m(c:BT A6)(hwf:Wf 4 c)(D:Nat->Prop)(w:World)(pb:Nat)(va:Option Addr)(vn vc:Nat)(ks:List Value)(hpb:w.heap[pb]?=some (.cells #[.slice va vn vc] 140 (0,0)))
  (hown:Cz D w 142 1 (.slice va vn vc) ks.length ks) (hrep:Ao D w c ks) (A1:bsize c<=90000) :
  Calls Tryz.prog 51 #[.pointer (some ⟨pb,0,none⟩)] w fun e w'=>e=.returned (.agg #[.int .i64 ((Et (Cu c) c [] [] (0,0)).1:Nat),.int .i64 ((Et (Cu c) c [] [] (0,0)).2:Nat)])/\Below w.heap.size w w':=by
 have lp:=A5 hpb;have hk1:∀g,D g->g<w.heap.size->(w.alloc (.cells #[.int .i64 0,.int .i64 0] 50)).heap[g]?=w.heap[g]?/\(D g/\g<w.heap.size):=fun g hg hl=>⟨Below.heap_alloc _ _ _ hl,hg,hl⟩;have HC:=A0 (A0s c hwf (fun g=>D g/\g<w.heap.size) (w.alloc (.cells #[.int .i64 0,.int .i64 0] 50)) pb va vn vc ks (alloc_old hpb) (hown.keep hk1) (Ao.keep hk1 _ _ hrep) A1);have HPb:=A0 hpb;have HOwn:=A0 hown;have HRep:=A0 hrep;have HWf:=A0 hwf;clear hpb hown hrep hwf hk1;go_enter Tryz.func51,Tryz.ntmps51;go_wp2_with fail
 refine HC.o.mono ?_;rintro e w2 ⟨fa,fn,fc,rfl,A8,hfn,hrow⟩;have Ej:=Fu A8 (heap_alloc_new w (.cells #[.int .i64 0,.int .i64 0] 50));have hP2:=Fu A8 (alloc_old (o':=.cells #[.int .i64 0,.int .i64 0] 50) HPb.o);have Aa:Hid (Below w.heap.size w w2):=Below.trans (Below.alloc (Below.refl _ _) (Nat.le_refl _) _) (A8.mono z56a);have ls2:=A8.size;rw[World.size_alloc]at ls2;have c0:=A2 hP2 0 _ rfl;have lp2:=A5 hP2;have Ci:=A0 Ej;have HK:Hid ((⟨w2.heap.size,213,Cu c,fa,fn,fc⟩:CC).St (fun g=>g<w2.heap.size) (w2.alloc (.cells #[.slice fa fn fc,.int .i64 0,.slice none 0 0,.slice none 0 0,.slice none 0 0,.bool false,.int .i64 0,.int .i64 0] 213)) [] [] 0 false (0,0) 0):=by
  refine⟨Aa6,?_⟩;have h1:I7 (fun g=>g<w2.heap.size) w2 (Cu c) fa fn fc:=by
   refine⟨hfn.len,hfn.Bw,hfn.cap,fun i hi=>?_⟩;obtain⟨g,pb',pa,pc,e1,_,e3,e4,_,e6,e7,e8⟩:=hfn.at' i hi;exact⟨g,pb',pa,pc,e1,e3,e3,e4,e6,e6,e7,e8⟩
  exact h1.keep ⟨rfl,rfl,rfl,by simp,fun k hk=>Below.heap_alloc _ _ _ hk⟩
 have Cm:∀g,D g->g<w.heap.size->(w2.alloc (.cells #[.slice fa fn fc,.int .i64 0,.slice none 0 0,.slice none 0 0,.slice none 0 0,.bool false,.int .i64 0,.int .i64 0] 213)).heap[g]?=w.heap[g]?/\g<w2.heap.size:=fun g hg hl=>⟨(Below.heap_alloc _ _ _ z51a).trans (Aa.o.block g hl),by omega⟩;have HRun:=A0 (A9p ⟨w2.heap.size,213,Cu c,fa,fn,fc⟩ c HWf.o rfl _ _ (0,0) va vn vc ks HK.o (HOwn.o.keep Cm) (Ao.keep Cm _ _ HRep.o) z51a);clear A8 hfn hrow Ej hP2 Cm HC HK;go_wp2_with fail
 refine HRun.o.mono ?_;rintro e w3 ⟨rfl,⟨cn,bk,rc,Ca⟩,Ak⟩;obtain⟨na,nn,nc,ba,bn,bc,la,ln,lc,ls,hv⟩:=Ca.st;obtain⟨y0,y1,y2,y3,y4,y5,y6,y7,fy,ly⟩:=Nl hv.cell;have I4:=(Ak.block w.heap.size z51a).trans (alloc_old (o':=.cells #[.slice fa fn fc,.int .i64 0,.slice none 0 0,.slice none 0 0,.slice none 0 0,.bool false,.int .i64 0,.int .i64 0] 213) Ci.o);obtain⟨z0,z1,fz,lz⟩:=Is I4;have ls3:=Ak.size;rw[World.size_alloc]at ls3;have Ay:Hid (Below w.heap.size w w3):=⟨Ak.os.trans Aa.o.os,Ak.tape.trans Aa.o.tape,Ak.output.trans Aa.o.output,by omega,fun k hk=>(Ak.block k z51a).trans ((Below.heap_alloc _ _ _ z51a).trans (Aa.o.block k hk))⟩;clear Ca hv I4 Ak c0;generalize hfl:Et (Cu c) c [] [] (0,0)=fl at *;have HFl:=A0 hfl;clear hfl;go_wp2;refine bodyPost_ret (v:=.agg #[.int .i64 (fl.1:Nat),.int .i64 (fl.2:Nat)]) (by simp[results,Tryz.results51,go_sem,z0,z1]) rfl ⟨by rw[HFl.o],?_⟩;repeat (first|exact Ay.o|refine Below.alloc ?_ z54a _|refine Below.setCell ?_ z56a _|refine Below.drew ?_)
end
end Go.Proofs.YtjdlndhfaaolaaaGreatDoor
