import Derived.Test.YtjdlndhfaaolaaaGreatDoorV09
import Derived.Test.YtjdlndhfaaolaaaGreatDoorV23
set_option maxHeartbeats 20000000
namespace Go.Proofs.YtjdlndhfaaolaaaGreatDoor
section
set_option maxRecDepth 100000
open Go.RowKit
open Go.Deep (BT)
variable {K:EC} {lbs:List Nat} {D:Nat->Prop} {w w':World} {e e':Em}
theorem z3ha {P:Prop} (h:P:=by
  exact⟨rfl,⟨_,_,_,_,_,_,_,_,k1,hlb⟩,k2⟩):P:=h
theorem EC.St.step(h:K.St lbs D w e)(hn:e.st.length<=900000)(op:Nat)(arg:Int)(line:Nat) :
  Calls Tryz.prog 55 #[.pointer (some ⟨K.wb,0,none⟩),.int .i64 (op:Nat),.int .i64 arg,.int .i64 (line:Nat)] w fun r w'=>r=.returned (.int .i64 (e.st.length:Nat))/\K.St lbs D w' (e.step op arg line)/\A3 D w w':=by
 obtain⟨ρ,la,ln,lc,pa,pn,pc,bl,h,hlb⟩:=h;refine(Kz h.ew hn op arg line).mono ?_;rintro r w1 ⟨rfl,h1,h2⟩;obtain⟨k1,k2⟩:=h.P2 h2 (h.Nf.next (e':=e.step op arg line) h2 h1 rfl) rfl;exact z3ha
theorem EC.St.land(h:K.St lbs D w e)(j:Nat)(hj:j<e.st.length) :
  Calls Tryz.prog 140 #[.pointer (some ⟨K.wb,0,none⟩),.int .i64 (j:Nat)] w fun r w'=>r=.returned (.tuple #[])/\K.St lbs D w' (e.land j)/\A3 D w w':=by
 obtain⟨ρ,la,ln,lc,pa,pn,pc,bl,h,hlb⟩:=h;refine(Vb h.ew j hj).mono ?_;rintro r w1 ⟨rfl,h1,h2⟩;obtain⟨k1,k2⟩:=h.P2 h2 (h.Nf.next (e':=e.land j) h2 h1 rfl) rfl;exact z3ha
theorem EC.St.here(h:K.St lbs D w e):Calls Tryz.prog 92 #[.pointer (some ⟨K.wb,0,none⟩)] w fun r w'=>r=.returned (.int .i64 (e.st.length:Nat))/\w'=w:=by
 obtain⟨ρ,la,ln,lc,pa,pn,pc,bl,h,hlb⟩:=h;exact X8 h.ew
theorem EC.St.var(h:K.St lbs D w e)(hn:e.st.length<=900000)(s:Nm)(lo gb:Nat) :
  Calls Tryz.prog 88 #[.pointer (some ⟨K.wb,0,none⟩),.string ⟨s.toArray⟩,.int .i64 (lo:Nat),.int .i64 (gb:Nat)] w fun r w'=>r=.returned (.tuple #[])/\K.St lbs D w' (e.var K.gl s lo gb)/\A3 D w w':=by
 obtain⟨ρ,la,ln,lc,pa,pn,pc,bl,h,hlb⟩:=h;refine(A53 h.Nf hn s lo gb).mono ?_;rintro r w1 ⟨rfl,h1,h2⟩;obtain⟨k1,k2⟩:=h.P2 h2 h1 (Q8 _ _ _ _ _).1;exact z3ha
theorem EC.St.expr{l:A6}{c:BT A6}{v:Value}{ks:List Value}(h:K.St lbs D w e)(hk:Iv l.kd=true)(hw:Wf 0 c)(hn:Bs D w l v ks)(hr:An D w c ks)(hsz:e.st.length+2*bsize (nd l c)<=800000) :
  Calls Tryz.prog 54 #[.pointer (some ⟨K.wb,0,none⟩),v] w fun r w'=>r=.returned (.tuple #[])/\K.St lbs D w' (Ar K.fns K.gl l (Ax c) (em K.fns K.gl c) e)/\A3 D w w':=by
 obtain⟨ρ,la,ln,lc,pa,pn,pc,bl,h,hlb⟩:=h;have hx:=(Aq2 K (nd l c) ⟨trivial,.inl ⟨.inl rfl,hk,hw⟩⟩).1;refine(hx _ w la ln lc _ e v ks h.Nf (hn.weak h.dx) (An.keep (fun g hg _=>⟨rfl,h.dx g hg⟩) _ _ hr) hsz).mono ?_;rintro r w1 ⟨rfl,h1,h2⟩;obtain⟨k1,k2⟩:=h.P2 h2 h1 (Nx K.fns K.gl l c hk hw e).1;exact z3ha
theorem EC.St.drewN(h:K.St lbs D w e)(n:Nat):K.St lbs D (w.drewN n) e:=by
 obtain⟨ρ,la,ln,lc,pa,pn,pc,bl,h,hlb⟩:=h;obtain⟨k1,k2⟩:=h.P2 (Dw _ w n) (h.Nf.drewN n) rfl;exact⟨_,_,_,_,_,_,_,_,k1,hlb⟩
theorem EC.Sv.Ls{ρ:Nat->Nat}{la:Option Addr}{ln lc:Nat}{pa:Option Addr}{pn pc:Nat}{bl:List LB}{sa:Option Addr}{sn sc:Nat}(h:K.Sv D w e ρ la ln lc pa pn pc bl)(hv:Ho (dX w.heap.size ρ) K.wb K.te w (.slice K.fa K.fn K.fc) (.slice K.ga K.gn K.gc) (.slice la ln lc) (.slice pa pn pc) e.slots e.st sa sn sc) :
  G2 9 K.wb 2 w #[.slice K.fa K.fn K.fc,.slice K.ga K.gn K.gc,.slice la ln lc,.slice pa pn pc,.int .i64 (e.slots:Nat),.slice sa sn sc] K.te la ln lc (Df e.loc):=h.Nf.stk hv
theorem EC.Sv.Q5{ρ:Nat->Nat}{la:Option Addr}{ln lc:Nat}{pa:Option Addr}{pn pc:Nat}{bl:List LB}{sa:Option Addr}{sn sc:Nat}(h:K.Sv D w e ρ la ln lc pa pn pc bl)(hv:Ho (dX w.heap.size ρ) K.wb K.te w (.slice K.fa K.fn K.fc) (.slice K.ga K.gn K.gc) (.slice la ln lc) (.slice pa pn pc) e.slots e.st sa sn sc) :
  G2 260 K.wb 3 w #[.slice K.fa K.fn K.fc,.slice K.ga K.gn K.gc,.slice la ln lc,.slice pa pn pc,.int .i64 (e.slots:Nat),.slice sa sn sc] K.te pa pn pc (bl.map fun b=>Cc b.1).reverse:=
 ⟨hv.cell,rfl,h.pr,fun e=>by have:=h.pro _ e;have:=h.one.1;omega⟩
theorem A4y(h:K.St lbs D w e)(hn:e.loc.length+1<=100000)(s:Nm) :
  Calls Tryz.prog 81 #[.pointer (some ⟨K.wb,0,none⟩),.string ⟨s.toArray⟩] w fun r w'=>r=.returned (.int .i64 (e.loc.length:Nat))/\K.St lbs D w' (e.local' s)/\A3 D w w':=by
 obtain⟨ρ,la,ln,lc,pa,pn,pc,bl,h,hlb⟩:=h;obtain⟨sa,sn,sc,hv⟩:=h.ew;have lb:=A5 hv.cell;have HL:=A0 (Rb (h.Ls hv));have HPu:=A0 (V2 (h.Ls hv) (by rw[P1];omega) ⟨s.toArray⟩ z50a);have HPL:=A0 (fun(w1:World) hp=>h.Aia s hv (w1:=w1) hn hp);rw[hlb]at HPL;rw[P1]at HL;clear h hv;go_enter Tryz.func81,Tryz.ntmps81;go_wp2_with fail
 refine HL.o.mono ?_;rintro r w ⟨rfl,rfl⟩;go_wp2_with fail
 refine HPu.o.mono ?_;rintro r w1 ⟨rfl,hp⟩;have Bv:=A0 (HPL.o w1 hp);obtain⟨g,cap,Ak,_,_⟩:=hp;have Fi:=A0 (Rb (w:=w1.drew) ⟨Ak.blk,Ak.cell,B4 Ak.own (fun _ _ _=>rfl),Ak.ne⟩);have c4:=A2 Ak.blk 4 (.int .i64 (e.slots:Nat)) z50a;have Bj:=A5 Ak.blk;have f1:=Bd Ak.blk;rw[List.length_append,P1]at Fi;clear Ak HL HPu;go_wp2;refine Ih 11 (by kernel_rfl) (by kernel_rfl) ?_;simp only[List.take_succ_cons,List.take_zero,List.drop_succ_cons,List.drop_zero];iterate 9 (refine Ez (fun K' hK'=>?_);go_simp;refine hK' _ ?_;clear hK' K')
 refine Ez (fun K' hK'=>?_);go_simp;refine⟨_,Fi.o,hK' _ ?_⟩;clear hK' K';refine Ez (fun K' hK'=>?_);go_simp;have hmax:(if(e.slots:Int)<(e.loc.length:Int)+1 then(e.loc.length:Int)+1 else(e.slots:Int))=((max e.slots (e.loc.length+1):Nat):Int):=by
  split <;> omega
 rw[hmax];refine hK' _ ?_;clear hK' K' hmax;refine Ig ?_;go_wp2;go_ret;obtain⟨k1,k2⟩:=Bv.o;exact⟨rfl,k1.drewN 1,k2.trans (Dw D _ 1)⟩
def L1(K:EC)(l:A6)(c:BT A6):Prop:=∀(lbs:List Nat) (D:Nat->Prop) (w:World) (e:Em) (v:Value) (ks:List Value),
 K.St lbs D w e->Bs D w l v ks->An D w c ks->Lp (nd l c) e.lps.length->Dj e->e.st.length+2*bsize (nd l c)<=800000->e.loc.length+bsize (nd l c)<=90000->e.lps.length+bsize (nd l c)<=90000->
 Calls Tryz.prog 56 #[.pointer (some ⟨K.wb,0,none⟩),v] w fun r w'=>r=.returned (.tuple #[])/\K.St lbs D w' (Ar K.fns K.gl l (Ax c) (em K.fns K.gl c) e)/\A3 D w w'
theorem Lp.nd{x y:Nat}{l:A6}{c r:BT A6}{n:Nat}(h:Lp (.node x y l c r) n):Lp (nd l c) n:=⟨h.1,h.2.1,trivial⟩
theorem Lp.drop:∀(i:Nat) (c:BT A6) (n:Nat),Lp c n->Lp (Ca i c) n:=by
 intro i;induction i with
 | zero=>intro c n h;rw[show Ca 0 c=c from by cases c <;> rfl];exact h
 | succ i ih=>
  intro c n h;cases c with
  | nil=>exact h
  | node x y l c r=>exact ih r n h.2.2
end
section
set_option maxRecDepth 100000
open Go.RowKit
open Go.Deep (BT)
theorem A52(K:EC)(c:BT A6)(hok:D6 (L1 K) c)(lbs:List Nat)(D:Nat->Prop)(w:World)(e:Em)(va:Option Addr)(vn vc:Nat)(ks:List Value)
  (hst:K.St lbs D w e) (hown:Cw D w 142 1 (.slice va vn vc) ks.length ks) (hrep:An D w c ks) (hlp:Lp c e.lps.length) (hbb:Dj e) (hsz:e.st.length+2*bsize c<=800000) (hlo:e.loc.length+bsize c<=90000) (hll:e.lps.length+bsize c<=90000) :
  Calls Tryz.prog 82 #[.pointer (some ⟨K.wb,0,none⟩),.slice va vn vc] w fun r w'=>r=.returned (.tuple #[])/\K.St lbs D w' (em K.fns K.gl c 0 e)/\A3 D w w':=by
 have hvn:vn=ks.length:=(C9 hown.1).1;subst hvn;have HSt0:=A0 hst;have HOwn:=A0 hown;have HRep:=A0 hrep;have hlen:=hrep.len;have HLen:=A0 hlen;have HLp:=A0 hlp;have hls:=Nt c;have hkl:ks.length<=400000:=by omega
 have HBb0:=A0 hbb;clear hst hown hrep hlen hlp hbb;go_enter Tryz.func82,Tryz.ntmps82;go_wp2;go_loopg [8] ks.length (fun k v wr=>∃(i:Nat) (ei:Em),v=.int .i64 i/\i+k=ks.length/\K.St lbs D wr ei/\em K.fns K.gl (Ca i c) 0 ei=em K.fns K.gl c 0 e/\ei.lps.length=e.lps.length/\Dj ei/\ei.st.length+2*bsize (Ca i c)<=800000/\ei.loc.length+bsize (Ca i c)<=90000/\bsize (Ca i c)<=bsize c/\A3 D w wr)
 case atStart=>exact⟨0,e,rfl,by omega,HSt0.o,rfl,rfl,HBb0.o,hsz,hlo,Nat.le_refl _,A3.refl _ _⟩
 case round=>
  clear HSt0 HBb0;obtain⟨i,ei,rfl,hik,hst,hse,hli,hbb,hsi,hci,hbi,hbel⟩:=hrel;have HBb:=A0 hbb;have HSt:=A0 hst;have HSe:=A0 hse;have HLi:=A0 hli;have HBel:=A0 hbel;clear hst hse hbel hli hbb;by_cases hlt:i<ks.length
  ·have hr:=HRep.o.Bq HBel.o;obtain⟨x,y,l,cc,r,hd,v,ks',hv,hn,hrk⟩:=An.at' i c ks hr z5ga;obtain⟨g,rfl,_,hcap,lg,hcell⟩:=Fo (HOwn.o.Bq HBel.o).1 z4va;have d0:=hcell i v hv;have hE:=A0 (hok.at' i c x y l cc r hd);have hz:bsize (Ca i c)=bsize (nd l cc)+bsize r:=by rw[hd,Cj,bsize]
   have hdn:=Om i c x y l cc r hd;have HNx:Hid (em K.fns K.gl (Ca (i+1) c) 0 (Ar K.fns K.gl l (Ax cc) (em K.fns K.gl cc) ei)=em K.fns K.gl c 0 e):=by
    show _=_;rw[hdn,←HSe.o,hd,Ii]
   have hsn:(Ar K.fns K.gl l (Ax cc) (em K.fns K.gl cc) ei).st.length+2*bsize (Ca (i+1) c)<=800000:=by
    have:=Gj K.fns K.gl l cc ei;rw[hdn];omega
   have hcn:(Ar K.fns K.gl l (Ax cc) (em K.fns K.gl cc) ei).loc.length+bsize (Ca (i+1) c)<=90000/\bsize (Ca (i+1) c)<=bsize c:=by
    have:=Ac4 K.fns K.gl l cc ei;rw[hdn];omega
   have HLn:Hid ((Ar K.fns K.gl l (Ax cc) (em K.fns K.gl cc) ei).lps.length=e.lps.length):=(A0a K.fns K.gl l cc ei).trans HLi.o;have hlpn:Lp (nd l cc) ei.lps.length:=by
    have:=Lp.drop i c _ HLp.o;rw[hd,←HLi.o]at this;exact this.nd
   have HC:=A0 (hE.out lbs D wr ei v ks' HSt.o hn hrk hlpn HBb.o z4va z4va (by have:=HLi.o;omega));have HSn:=A0 hsn;have HBn:=A0 (U7 K.fns K.gl l cc ei HBb.o);have HCn:=A0 hcn;clear hr hd hv hn hrk hcell hsn hz hcn hdn hlpn;go_wp2_with fail
   refine HC.o.mono ?_;rintro r' w1 ⟨rfl,Ak,A1⟩;have A7:=A0 Ak;have A4:Hid (A3 D w w1):=HBel.o.trans A1;clear Ak A1;go_wp2;go_roundg (gk-1)
   case measure=>omega
   case rel=>exact⟨i+1,_,rfl,by omega,A7.o,HNx.o,HLn.o,HBn.o,HSn.o,HCn.o.1,HCn.o.2,A4.o⟩
  ·have HE:Hid (ei=em K.fns K.gl c 0 e):=by
    exact z0qa
   exact z2va
theorem Tf(K:EC)(c:BT A6)(hok:D6 (L1 K) c)(lbs:List Nat)(D:Nat->Prop)(w:World)(e:Em)(va:Option Addr)(vn vc:Nat)(ks:List Value)
  (hst:K.St lbs D w e) (hown:Cw D w 142 1 (.slice va vn vc) ks.length ks) (hrep:An D w c ks) (hlp:Lp c e.lps.length) (hbb:Dj e) (hsz:e.st.length+2*bsize c<=800000) (hlo:e.loc.length+bsize c<=90000) (hll:e.lps.length+bsize c<=90000) :
  Calls Tryz.prog 143 #[.pointer (some ⟨K.wb,0,none⟩),.slice va vn vc] w fun r w'=>r=.returned (.tuple #[])/\K.St lbs D w' ((em K.fns K.gl c 0 e).cut e.loc.length)/\A3 D w w':=by
 have HC:=A0 (A52 K c hok lbs D w e va vn vc ks hst hown hrep hlp hbb hsz hlo hll);have hlb:=hst.lo.2.1;have hl1:e.loc.length<=(em K.fns K.gl c 0 e).loc.length:=Ach K.fns K.gl c 0 e;obtain⟨ρ,la,ln,lc,pa,pn,pc,bl,h,_⟩:=hst;obtain⟨sa,sn,sc,hv⟩:=h.ew;have HL:=A0 (Rb (h.Ls hv));rw[P1]at HL;clear h hv hown hrep hlp hbb;go_enter Tryz.func143,Tryz.ntmps143;go_wp2_with fail
 refine HL.o.mono ?_;rintro r w ⟨rfl,rfl⟩;go_wp2_with fail
 refine HC.o.mono ?_;rintro r w1 ⟨rfl,Ak,A1⟩;have hlb1:=Ak.lo.2.1;have A4:=A0 A1;obtain⟨ρ,la,ln,lc,pa,pn,pc,bl,h,hlb⟩:=Ak;obtain⟨sa,sn,sc,hv⟩:=h.ew;have HCut:=A0 (Ya (h.Ls hv) e.loc.length (by rw[P1];exact hl1) z50a);have HTo:=A0 (fun(w2:World) hp=>h.j9 e.loc.length hv (w':=w2) hp);rw[hlb]at HTo;clear h hv A1;go_wp2_with fail
 refine HCut.o.mono ?_;rintro r w2 ⟨rfl,hp⟩;obtain⟨k1,k2⟩:=HTo.o w2 hp;have Ai:=A0 k1;have Aa:Hid (A3 D w w2):=A4.o.trans k2;clear hp k1 k2;go_wp2;go_end0;exact z38a
theorem z1qa {P:Prop} (h:P:=by
  rintro r w2 ⟨rfl,B0,A8⟩;have Ai:=A0 B0;have Aa:Hid (A3 D w w2):=A4.o.trans A8;clear B0 A8;go_wp2;go_end0;subst Hu;exact⟨rfl,Ai.o,Aa.o⟩):P:=h
theorem Aqq(K:EC)(l:A6)(c:BT A6)(hk:l.kd=27)(hwf:Wf 0 c):L1 K l c:=by
 intro lbs D w e v ks hst hn hr hlp hbb hsz hlo hll;obtain⟨hlw,lcb,hncb⟩:=hst.lo;have hnds:=Cj l c;unfold Bs at hn;rw[if_neg z4va]at hn;obtain⟨b,cs,rfl,hD,hb,hl⟩:=hn;have e1:Cg l.kd=265:=by rw[hk];rfl
 have e2:Dk l.kd=267:=by rw[hk];rfl
 rw[e1];rw[e2]at hb;unfold Cv at hl;simp only[hk]at hl;rw[s9 hk];obtain⟨a,rfl,rfl⟩:=hl;obtain⟨x1,y1,l1,c1,r1,Dd,rfl,Bl,At,hz⟩:=hr.cons';obtain rfl:=hz.nil';have By:bsize (.node x1 y1 l1 c1 .nil)=bsize (nd l1 c1):=by rw[Cj,bsize];rfl
 have hlen1:=Gj K.fns K.gl l1 c1 e;have hloc1:(Ar K.fns K.gl l1 (Ax c1) (em K.fns K.gl c1) e).loc.length<=e.loc.length:=by rw[(Nx K.fns K.gl l1 c1 hwf.exs.1 hwf.exs.2.1 e).2.1];exact Nat.le_refl _
 have hxs:=hwf.exs;rw[Ii,em];have HC:=A0 (hst.expr hxs.1 hxs.2.1 Bl At z4va);have HBk:=A0 hb;have d1:=A2 hb 1 a rfl;have ld:=A5 hb;have Dg:=Na 265 z4wa;have Dz:=Pa 265 z4wa;have Ep:=Q2 265 z4wa;have Fh:=Rc 265 z4wa;have G8:=T4 265 z4wa;have I1:=V0 265 z4wa;have J6:=Aln;clear hst hb e1 e2 hk hr Bl At hz hwf hxs hlp hbb;generalize Hu:Ar K.fns K.gl l1 (Ax c1) (em K.fns K.gl c1) e=C0 at *;unfold Cc;go_enter Tryz.func56,Tryz.ntmps56;go_wp2_with fail
 refine(HC.o).mono ?_;rintro r w1 ⟨rfl,Ak,A1⟩;have A7:=A0 Ak;have A4:=A0 A1;have Bp:=(A1.block b hD).trans HBk.o;have HBk1:=A0 Bp;clear Ak A1 d1 ld;have d0:w1.cell? ⟨b,0,none⟩=some (.int .i64 (l.line:Nat)):=A2 Bp 0 _ rfl;have ld:=A5 Bp;clear Bp;go_wp2_with fail
 refine(A7.o.step z4va 41 0 l.line).mono ?_;exact z1qa
theorem Aqm(K:EC)(l:A6)(c:BT A6)(hk:l.kd=30)(hwf:Wf 0 c):L1 K l c:=by
 intro lbs D w e v ks hst hn hr hlp hbb hsz hlo hll;obtain⟨hlw,lcb,hncb⟩:=hst.lo;have hnds:=Cj l c;unfold Bs at hn;rw[if_neg z4va]at hn;obtain⟨b,cs,rfl,hD,hb,hl⟩:=hn;have e1:Cg l.kd=270:=by rw[hk];rfl
 have e2:Dk l.kd=272:=by rw[hk];rfl
 rw[e1];rw[e2]at hb;unfold Cv at hl;simp only[hk]at hl;rw[y9 hk];obtain⟨a,rfl,rfl⟩:=hl;obtain⟨x1,y1,l1,c1,r1,Dd,rfl,Bl,At,hz⟩:=hr.cons';obtain rfl:=hz.nil';have By:bsize (.node x1 y1 l1 c1 .nil)=bsize (nd l1 c1):=by rw[Cj,bsize];rfl
 have hlen1:=Gj K.fns K.gl l1 c1 e;have hloc1:(Ar K.fns K.gl l1 (Ax c1) (em K.fns K.gl c1) e).loc.length<=e.loc.length:=by rw[(Nx K.fns K.gl l1 c1 hwf.exs.1 hwf.exs.2.1 e).2.1];exact Nat.le_refl _
 have hxs:=hwf.exs;rw[Ii,em];have HC:=A0 (hst.expr hxs.1 hxs.2.1 Bl At z4va);have HBk:=A0 hb;have d1:=A2 hb 0 a rfl;have ld:=A5 hb;have Dg:=Na 270 z4wa;have Dz:=Pa 270 z4wa;have Ep:=Q2 270 z4wa;have Fh:=Rc 270 z4wa;have G8:=T4 270 z4wa;have I1:=V0 270 z4wa;have J6:=Yg 270 z4wa;have ta7:=Am5 270 z4wa;have ta8:=Alk;clear hst hb e1 e2 hk hr Bl At hz hwf hxs hlp hbb;generalize Hu:Ar K.fns K.gl l1 (Ax c1) (em K.fns K.gl c1) e=C0 at *;unfold Cc;go_enter Tryz.func56,Tryz.ntmps56;go_wp2_with fail
 refine(HC.o).mono ?_;rintro r w1 ⟨rfl,Ak,A1⟩;have A7:=A0 Ak;have A4:=A0 A1;clear Ak A1 d1 ld;go_wp2_with fail
 refine(A7.o.step z4va 5 0 0).mono ?_;exact z1qa
theorem Aqp(K:EC)(l:A6)(c:BT A6)(hk:l.kd=21)(hwf:Wf 0 c):L1 K l c:=by
 intro lbs D w e v ks hst hn hr hlp hbb hsz hlo hll;obtain⟨hlw,lcb,hncb⟩:=hst.lo;have hnds:=Cj l c;unfold Bs at hn;rw[if_neg z4va]at hn;obtain⟨b,cs,rfl,hD,hb,hl⟩:=hn;have e1:Cg l.kd=145:=by rw[hk];rfl
 have e2:Dk l.kd=152:=by rw[hk];rfl
 rw[e1];rw[e2]at hb;unfold Cv at hl;simp only[hk]at hl;rw[Ac1 hk];obtain⟨a,rfl,rfl⟩:=hl;obtain⟨x1,y1,l1,c1,r1,Dd,rfl,Bl,At,hz⟩:=hr.cons';obtain rfl:=hz.nil';have By:bsize (.node x1 y1 l1 c1 .nil)=bsize (nd l1 c1):=by rw[Cj,bsize];rfl
 have hlen1:=Gj K.fns K.gl l1 c1 e;have hloc1:(Ar K.fns K.gl l1 (Ax c1) (em K.fns K.gl c1) e).loc.length<=e.loc.length:=by rw[(Nx K.fns K.gl l1 c1 hwf.exs.1 hwf.exs.2.1 e).2.1];exact Nat.le_refl _
 have hxs:=hwf.exs;rw[Ii,em];have HC:=A0 (hst.expr hxs.1 hxs.2.1 Bl At z4va);have HBk:=A0 hb;have d1:=A2 hb 2 a rfl;have ld:=A5 hb;have Dg:=A3u;clear hst hb e1 e2 hk hr Bl At hz hwf hxs hlp hbb;generalize Hu:Ar K.fns K.gl l1 (Ax c1) (em K.fns K.gl c1) e=C0 at *;unfold Cc;go_enter Tryz.func56,Tryz.ntmps56;go_wp2_with fail
 refine(HC.o).mono ?_;rintro r w1 ⟨rfl,Ak,A1⟩;have A7:=A0 Ak;have A4:=A0 A1;have Bp:=(A1.block b hD).trans HBk.o;have HBk1:=A0 Bp;clear Ak A1 d1 ld;have d0:w1.cell? ⟨b,1,none⟩=some (.string ⟨l.s.toArray⟩):=A2 Bp 1 _ rfl;have ld:=A5 Bp;clear Bp;go_wp2_with fail
 refine(A4y A7.o z4va l.s).mono ?_;rintro r w2 ⟨rfl,B0,A8⟩;have Ai:=A0 B0;have Aa:Hid (A3 D w w2):=A4.o.trans A8;clear B0 A8;go_wp2_with fail
 refine(Ai.o.step (by show C0.st.length<=_;omega) 3 (C0.loc.length:Nat) 0).mono ?_;rintro r w3 ⟨rfl,C6,Aj⟩;have Bc:=A0 C6;have Av:Hid (A3 D w w3):=Aa.o.trans Aj;clear C6 Aj;go_wp2;go_end0;subst Hu;exact z4ra
theorem Aqv(K:EC)(l:A6)(c:BT A6)(hk:l.kd=24)(hwf:Wf 0 c)  (lbs:List Nat) (D:Nat->Prop) (w:World) (e:Em) (b:Nat) (a:Value) (ks:List Value) (hst:K.St lbs D w e) (hb:w.heap[b]?=some (.cells #[.int .i64 (l.line:Nat),a] 318 (0,0))) (hks:(ks=[]/\a=.nilIface)\/ks=[a]) (hr:An D w c ks) (hsz:e.st.length+2*bsize (nd l c)<=800000) :
  Calls Tryz.prog 95 #[.pointer (some ⟨K.wb,0,none⟩),.pointer (some ⟨b,0,none⟩)] w fun r w'=>r=.returned (.tuple #[])/\K.St lbs D w' (Ar K.fns K.gl l (Ax c) (em K.fns K.gl c) e)/\A3 D w w':=by
 obtain⟨hlw,lcb,hncb⟩:=hst.lo;have hnds:=Cj l c;rw[s6 hk];have d1:=A2 hb 1 _ rfl;have ld:=A5 hb;have HBk:=A0 hb;rcases hks with⟨rfl,rfl⟩|rfl
 ·rw[hr.nil'];have HC:=A0 (hst.step z4va 43 0 0);clear hst hb hr hwf hk;go_enter Tryz.func95,Tryz.ntmps95;go_wp2_with fail
  refine HC.o.mono ?_;rintro r w1 ⟨rfl,Ak,A1⟩;have A7:=A0 Ak;have A4:=A0 A1;clear Ak A1;go_wp2;refine bodyPost_ret (v:=.tuple #[]) (by simp[results,Tryz.results95,go_sem]) rfl ?_;exact z3ja
 ·obtain⟨x1,y1,l1,c1,r1,Dd,rfl,Bl,At,hz⟩:=hr.cons';obtain rfl:=hz.nil';have hxs:=hwf.exs;have By:bsize (.node x1 y1 l1 c1 .nil)=bsize (nd l1 c1):=by rw[Cj,bsize];rfl
  have hlen1:=Gj K.fns K.gl l1 c1 e;rw[if_neg (by simp[Ax]),Ii,em];obtain⟨t,x,rfl⟩:∃t x,a=.iface t x:=Bl.isIface (Ot hxs.1).1 (Ot hxs.1).2.1;have HC:=A0 (hst.expr hxs.1 hxs.2.1 Bl At z4va);clear hst hb hr hwf hk Bl At hz hxs;generalize Hu:Ar K.fns K.gl l1 (Ax c1) (em K.fns K.gl c1) e=C0 at *;go_enter Tryz.func95,Tryz.ntmps95;go_wp2_with fail
  refine HC.o.mono ?_;rintro r w1 ⟨rfl,Ak,A1⟩;have A7:=A0 Ak;have A4:=A0 A1;clear Ak A1;go_wp2_with fail
  refine(A7.o.step z4va 44 0 0).mono ?_;exact z1qa
theorem z37a {P:Prop} (h:P:=by
  unfold Cc;go_enter Tryz.func56,Tryz.ntmps56;go_wp2_with fail
  refine(HC.o).mono ?_;exact z0ga):P:=h
theorem Aqo(K:EC)(l:A6)(c:BT A6)(hk:l.kd=24)(hwf:Wf 0 c):L1 K l c:=by
 intro lbs D w e v ks hst hn hr hlp hbb hsz hlo hll;obtain⟨hlw,lcb,hncb⟩:=hst.lo;have hnds:=Cj l c;unfold Bs at hn;rw[if_neg z4va]at hn;obtain⟨b,cs,rfl,hD,hb,hl⟩:=hn;have e1:Cg l.kd=257:=by rw[hk];rfl
 have e2:Dk l.kd=318:=by rw[hk];rfl
 rw[e1];rw[e2]at hb;unfold Cv at hl;simp only[hk]at hl;obtain⟨a,rfl,hks⟩:=hl;have HC:=A0 (Aqv K l c hk hwf lbs D w e b a ks hst hb hks hr hsz);have ld:=A5 hb;have Dg:=Na 257 z4wa;have Dz:=Pa 257 z4wa;have Ep:=Q2 257 z4wa;have Fh:=Alo;clear hst hb e1 e2 hk hr hwf hlp hbb hks;exact z37a
theorem Aqy(K:EC)(l:A6)(c:BT A6)(hk:l.kd=28)(hwf:Wf 0 c)(lbs:List Nat)(D:Nat->Prop)(w:World)(e:Em)(b:Nat)(b2:Nat)(a:Value)(J1:D b2)(hb:w.heap[b]?=some (.cells #[.iface 238 (Cc b2),a] 322 (0,0)))(A8:w.heap[b2]?=some (.cells #[Gd l.line,Ld l.s] 240 (0,0)))(hr:An D w c [a])(hst:K.St lbs D w e)(hsz:e.st.length+2*bsize (nd l c)<=800000) :
  Calls Tryz.prog 97 #[.pointer (some ⟨K.wb,0,none⟩),.pointer (some ⟨b,0,none⟩)] w fun r w'=>r=.returned (.tuple #[])/\K.St lbs D w' (Ar K.fns K.gl l (Ax c) (em K.fns K.gl c) e)/\A3 D w w':=by
 obtain⟨hlw,lcb,hncb⟩:=hst.lo;have hnds:=Cj l c;rw[x7 hk];obtain⟨x1,y1,l1,c1,r1,Dd,rfl,Bl,At,hz⟩:=hr.cons';obtain rfl:=hz.nil';have hxs:=hwf.exs;have By:bsize (.node x1 y1 l1 c1 .nil)=bsize (nd l1 c1):=by rw[Cj,bsize];rfl
 have hlen1:=Gj K.fns K.gl l1 c1 e;rw[Ii,em];have HC:=A0 (hst.expr hxs.1 hxs.2.1 Bl At z4va);have Aa:=A0 A8;have d0:=A2 hb 0 _ rfl;have d1:=A2 hb 1 a rfl;have ld:=A5 hb;have Dg:=A57;clear hst hb hr hwf hk Bl At hz hxs A8;generalize Hu:Ar K.fns K.gl l1 (Ax c1) (em K.fns K.gl c1) e=C0 at *;unfold Cc at d0;go_enter Tryz.func97,Tryz.ntmps97;go_wp2_with fail
 refine(HC.o).mono ?_;rintro r w1 ⟨rfl,Ak,A1⟩;have A7:=A0 Ak;have A4:=A0 A1;have Bp:=(A1.block b2 J1).trans Aa.o;clear Ak A1 d0 d1 ld;have d1:w1.cell? ⟨b2,1,none⟩=some (.string ⟨l.s.toArray⟩):=A2 Bp 1 _ rfl;have ld:=A5 Bp;clear Bp;go_wp2_with fail
 refine(A7.o.var z4va l.s 3 4).mono ?_;rintro r w2 ⟨rfl,B0,A8⟩;have Ai:=A0 B0;have HBB:Hid (A3 D w w2):=A4.o.trans A8;clear B0 A8;go_wp2;go_end0;subst Hu;exact⟨rfl,Ai.o,HBB.o⟩
theorem z1ia {P:Prop} (h:P:=by
  have ld:=A5 hb;have Dg:=Na 268 z4wa;have Dz:=Pa 268 z4wa;have Ep:=Q2 268 z4wa;have Fh:=Rc 268 z4wa;have G8:=T4 268 z4wa;have I1:=V0 268 z4wa;have J6:=Yg 268 z4wa;have ta7:=A3v;clear hst hb e1 e2 hk hr hlp hbb hwf A8;unfold Cc;go_enter Tryz.func56,Tryz.ntmps56;go_wp2_with fail
  refine(HC.o).mono ?_;exact z0ga):P:=h
theorem Aqs(K:EC)(l:A6)(c:BT A6)(hk:l.kd=28)(hwf:Wf 0 c):L1 K l c:=by
 intro lbs D w e v ks hst hn hr hlp hbb hsz hlo hll;obtain⟨hlw,lcb,hncb⟩:=hst.lo;have hnds:=Cj l c;unfold Bs at hn;rw[if_neg z4va]at hn;obtain⟨b,cs,rfl,hD,hb,hl⟩:=hn;have e1:Cg l.kd=268:=by rw[hk];rfl
 have e2:Dk l.kd=322:=by rw[hk];rfl
 rw[e1];rw[e2]at hb;unfold Cv at hl;simp only[hk]at hl;obtain⟨b2,a,rfl,J1,A8,rfl⟩:=hl;have HC:=A0 (Aqy K l c hk hwf lbs D w e b b2 a J1 hb A8 hr hst hsz);exact z1ia
theorem Aqx(K:EC)(l:A6)(c:BT A6)(hk:l.kd=29)(hwf:Wf 0 c)(lbs:List Nat)(D:Nat->Prop)(w:World)(e:Em)(b:Nat)(b2:Nat)(o p a:Value)(hD:D b)(J1:D b2)(hb:w.heap[b]?=some (.cells #[.iface 310 (Cc b2),a] 322 (0,0)))(A8:w.heap[b2]?=some (.cells #[Gd l.line,o,p] 312 (0,0)))(hr:An D w c [o,p,a])(hst:K.St lbs D w e)(hsz:e.st.length+2*bsize (nd l c)<=800000) :
  Calls Tryz.prog 97 #[.pointer (some ⟨K.wb,0,none⟩),.pointer (some ⟨b,0,none⟩)] w fun r w'=>r=.returned (.tuple #[])/\K.St lbs D w' (Ar K.fns K.gl l (Ax c) (em K.fns K.gl c) e)/\A3 D w w':=by
 obtain⟨hlw,lcb,hncb⟩:=hst.lo;have hnds:=Cj l c;rw[x8 hk];obtain⟨x1,y1,l1,c1,r1,Dd,rfl,Bl,At,hz⟩:=hr.cons';obtain⟨x2,y2,l2,c2,r2,Gl,rfl,Di,B5,C5⟩:=hz.cons';obtain⟨x3,y3,l3,c3,r3,ks3,rfl,hn3,Ce,Fz⟩:=C5.cons';obtain rfl:=Fz.nil';have E1:=hwf.exs;have Fl:=E1.2.2.exs;have hx3:=Fl.2.2.exs;have By:bsize (.node x1 y1 l1 c1 (.node x2 y2 l2 c2 (.node x3 y3 l3 c3 .nil)))=bsize (nd l1 c1)+bsize (nd l2 c2)+bsize (nd l3 c3):=by rw[Cj,Cj,Cj,bsize,bsize,bsize,bsize];omega
 rw[Ii,Ii,Ii,em];have hl1:=Gj K.fns K.gl l1 c1 e;have Gs:=Gj K.fns K.gl l2 c2 (Ar K.fns K.gl l1 (Ax c1) (em K.fns K.gl c1) e);have hl3:=Gj K.fns K.gl l3 c3 (Ar K.fns K.gl l2 (Ax c2) (em K.fns K.gl c2) (Ar K.fns K.gl l1 (Ax c1) (em K.fns K.gl c1) e));have Hq:=A0 (hst.expr E1.1 E1.2.1 Bl At z4va);have Ev:=A0 (fun(W:World) (e2:Em) (he:e2.st.length+2*bsize (nd l2 c2)<=800000) (hx:K.St lbs D W e2) (hbd:A3 D w W)=>hx.expr Fl.1 Fl.2.1 (Di.Bq hbd) (B5.Bq hbd) he);have HC3:=A0 (fun(W:World) (e2:Em) (he:e2.st.length+2*bsize (nd l3 c3)<=800000) (hx:K.St lbs D W e2) (hbd:A3 D w W)=>hx.expr hx3.1 hx3.2.1 (hn3.Bq hbd) (Ce.Bq hbd) he);have HBk:=A0 hb;have HBj:=A0 A8;have d0:=A2 hb 0 _ rfl;have ld:=A5 hb;have g1:=A2 A8 1 o rfl;have lg:=A5 A8;have Dg:=Nn 310 z4wa;have Dz:=A55;clear hst hb hr hwf hk Bl At hz A8 Di B5 C5 hn3 Ce Fz E1 Fl hx3;generalize Hu:Ar K.fns K.gl l1 (Ax c1) (em K.fns K.gl c1) e=C0 at *;generalize hE2:Ar K.fns K.gl l2 (Ax c2) (em K.fns K.gl c2) C0=Fe at *;generalize hE3:Ar K.fns K.gl l3 (Ax c3) (em K.fns K.gl c3) Fe=em3 at *;unfold Cc at d0;go_enter Tryz.func97,Tryz.ntmps97;go_wp2_with fail
 refine(Hq.o).mono ?_;rintro r w1 ⟨rfl,Ak,A1⟩;have A7:=A0 Ak;have A4:=A0 A1;have hbj1:=(A1.block b2 J1).trans HBj.o;have HBj1:=A0 hbj1;have HBk1:=A0 ((A1.block b hD).trans HBk.o);clear Ak A1 d0 g1 ld lg;have g2:=A2 hbj1 2 p rfl;have lg:=A5 hbj1;clear hbj1;go_wp2_with fail
 refine(Ev.o _ _ z4va A7.o A4.o).mono ?_;rintro r w2 ⟨rfl,B0,A8⟩;rw[hE2]at B0;have Ai:=A0 B0;have Aa:Hid (A3 D w w2):=A4.o.trans A8;have Dc:=(A8.block b hD).trans HBk1.o;have HBj2:=A0 ((A8.block b2 J1).trans HBj1.o);clear B0 A8 g2 lg;have d1:=A2 Dc 1 a rfl;have ld:=A5 Dc;clear Dc;go_wp2_with fail
 refine(HC3.o _ _ z4va Ai.o Aa.o).mono ?_;rintro r w3 ⟨rfl,C6,Aj⟩;rw[hE3]at C6;have Bc:=A0 C6;have Av:Hid (A3 D w w3):=Aa.o.trans Aj;have hbj3:=(Aj.block b2 J1).trans HBj2.o;clear C6 Aj d1 ld;have g0:w3.cell? ⟨b2,0,none⟩=some (.int .i64 (l.line:Nat)):=A2 hbj3 0 _ rfl;have lg:=A5 hbj3;clear hbj3;go_wp2_with fail
 refine(Bc.o.step z4va 40 0 l.line).mono ?_;rintro r w4 ⟨rfl,Ff,B8⟩;exact z4ta
theorem Aqr(K:EC)(l:A6)(c:BT A6)(hk:l.kd=29)(hwf:Wf 0 c):L1 K l c:=by
 intro lbs D w e v ks hst hn hr hlp hbb hsz hlo hll;obtain⟨hlw,lcb,hncb⟩:=hst.lo;have hnds:=Cj l c;unfold Bs at hn;rw[if_neg z4va]at hn;obtain⟨b,cs,rfl,hD,hb,hl⟩:=hn;have e1:Cg l.kd=268:=by rw[hk];rfl
 have e2:Dk l.kd=322:=by rw[hk];rfl
 rw[e1];rw[e2]at hb;unfold Cv at hl;simp only[hk]at hl;obtain⟨b2,o,p,a,rfl,J1,A8,rfl⟩:=hl;have HC:=A0 (Aqx K l c hk hwf lbs D w e b b2 o p a hD J1 hb A8 hr hst hsz);exact z1ia
def Qe(K:EC)(l:A6)(c:BT A6):Prop:=(l.kd=31\/l.kd=32)->D6 (L1 K) c
theorem Abc(d:Em):d.cut d.loc.length=d:=by
 unfold Em.cut;rw[List.take_length]
theorem Nw(n:Nat)(e:Em):(e.cut n).st.length=e.st.length:=rfl
theorem Abz(fns:List (Nm×Nat))(gl:List Nm)(line x1 y1 x2 y2:Nat)(l1 l2:A6)(c1 c2:BT A6)(e:Em)(h31:l2.kd=31) :
  Lm line (Ax (.node x1 y1 l1 c1 (.node x2 y2 l2 c2 .nil))) (em fns gl (.node x1 y1 l1 c1 (.node x2 y2 l2 c2 .nil))) e =
   ((((em fns gl c2 0 ((Ar fns gl l1 (Ax c1) (em fns gl c1) e).step 8 0 line)).cut (Ar fns gl l1 (Ax c1) (em fns gl c1) e).loc.length).step 6 0 0).land (Ar fns gl l1 (Ax c1) (em fns gl c1) e).st.length).land (em fns gl c2 0 ((Ar fns gl l1 (Ax c1) (em fns gl c1) e).step 8 0 line)).st.length:=by
 simp[Lm,Qn,U9,Ax,U6 h31];rfl
theorem Ac0(fns:List (Nm×Nat))(gl:List Nm)(line x1 y1 x2 y2 x3 y3:Nat)(l1 l2 l3:A6)(c1 c2 c3:BT A6)(e:Em)(h31:l2.kd=31)(h32:l3.kd=31) :
  Lm line (Ax (.node x1 y1 l1 c1 (.node x2 y2 l2 c2 (.node x3 y3 l3 c3 .nil)))) (em fns gl (.node x1 y1 l1 c1 (.node x2 y2 l2 c2 (.node x3 y3 l3 c3 .nil)))) e =
   ((em fns gl c3 0 ((((em fns gl c2 0 ((Ar fns gl l1 (Ax c1) (em fns gl c1) e).step 8 0 line)).cut (Ar fns gl l1 (Ax c1) (em fns gl c1) e).loc.length).step 6 0 0).land (Ar fns gl l1 (Ax c1) (em fns gl c1) e).st.length)).cut
    ((em fns gl c2 0 ((Ar fns gl l1 (Ax c1) (em fns gl c1) e).step 8 0 line)).cut (Ar fns gl l1 (Ax c1) (em fns gl c1) e).loc.length).loc.length).land (em fns gl c2 0 ((Ar fns gl l1 (Ax c1) (em fns gl c1) e).step 8 0 line)).st.length:=by
 simp[Lm,Qn,U9,Acj,Ax,U6 h31,U6 h32];rfl
theorem z2za {P:Prop} (h:P:=by
  rintro r w7 ⟨rfl,G4,Ik⟩;have HS7:=A0 G4;have HB7:Hid (A3 D w w7):=J7.o.trans Ik;clear G4 Ik;go_wp2;go_end0;exact⟨rfl,HS7.o,HB7.o⟩):P:=h
theorem z6pa {P:Prop} (h:P:=by show C0.loc.length+_<=_;omega):P:=h
theorem Aqu(K:EC)(l:A6)(c:BT A6)(hk:l.kd=22)(ih:D6 (Qe K) c)(hwf:Wf 2 c)(lbs:List Nat)(D:Nat->Prop)(w:World)(e:Em)(b:Nat)(t:TypeId)(x:Value)(s1:Option Addr)(n1 m1:Nat)(s2:Option Addr)(n2 m2:Nat)(ks:List Value)(hD:D b)
  (hb:w.heap[b]?=some (.cells #[.int .i64 (l.line:Nat),.iface t x,.slice s1 n1 m1,.slice s2 n2 m2] 314 (0,0))) (hks:(ks=[.iface t x,.slice s1 n1 m1]/\Value.slice s2 n2 m2=.slice none 0 0)\/ks=[.iface t x,.slice s1 n1 m1,.slice s2 n2 m2])
  (hr:An D w c ks) (hst:K.St lbs D w e) (hlp:Lp (nd l c) e.lps.length) (hbb:Dj e) (hsz:e.st.length+2*bsize (nd l c)<=800000) (hlo:e.loc.length+bsize (nd l c)<=90000) (hll:e.lps.length+bsize (nd l c)<=90000) :
  Calls Tryz.prog 93 #[.pointer (some ⟨K.wb,0,none⟩),.pointer (some ⟨b,0,none⟩)] w fun r w'=>r=.returned (.tuple #[])/\K.St lbs D w' (Ar K.fns K.gl l (Ax c) (em K.fns K.gl c) e)/\A3 D w w':=by
 obtain⟨hlw,lcb,hncb⟩:=hst.lo;have hnds:=Cj l c;rw[p9 hk];have HBk:=A0 hb;have d1:=A2 hb 1 _ rfl;have ld:=A5 hb;rcases hks with⟨rfl,B0⟩|rfl
 ·obtain⟨x1,y1,l1,c1,r1,Dd,rfl,Bl,At,hz⟩:=hr.cons';obtain⟨x2,y2,l2,c2,r2,Gl,rfl,Di,B5,hzz⟩:=hz.cons';obtain rfl:=hzz.nil';injection B0 with q1 q2 q3;subst q1 q2 q3;obtain⟨E1,Fl⟩:=hwf.Lo.1 Bl.Qv.1;obtain⟨Ci,Bb⟩:=Di.Oy;obtain⟨h31,_⟩:=hwf.1.Lo.2 Ci;have By:bsize (.node x1 y1 l1 c1 (.node x2 y2 l2 c2 .nil))=bsize (nd l1 c1)+1+l2.ps.length+bsize c2:=by rw[Cj];simp only[bsize];omega
  have hl1:=Gj K.fns K.gl l1 c1 e;have Gs:=(On K.fns K.gl c2).1 ((Ar K.fns K.gl l1 (Ax c1) (em K.fns K.gl c1) e).step 8 0 l.line);have Hv:=S0 K.fns K.gl c2 0 ((Ar K.fns K.gl l1 (Ax c1) (em K.fns K.gl c1) e).step 8 0 l.line);rw[Dy]at Gs Hv;have hsm:=Nx K.fns K.gl l1 c1 E1 Fl e;have hlc1:(Ar K.fns K.gl l1 (Ax c1) (em K.fns K.gl c1) e).loc.length<=e.loc.length:=by rw[hsm.2.1];exact Nat.le_refl _
  have HLp1:Hid ((Ar K.fns K.gl l1 (Ax c1) (em K.fns K.gl c1) e).lps.length=e.lps.length):=by show _=_;rw[hsm.1]
  have HLpc:Hid (Lp (.node x1 y1 l1 c1 (.node x2 y2 l2 c2 .nil)) e.lps.length):=by have:=hlp.2.1;rw[if_neg z4va]at this;exact this
  have hpc2:Lp c2 e.lps.length:=by have:=HLpc.o.2.2.2.1;rw[if_neg z4va]at this;exact this
  have HLp2:Hid ((em K.fns K.gl c2 0 ((Ar K.fns K.gl l1 (Ax c1) (em K.fns K.gl c1) e).step 8 0 l.line)).lps.length=e.lps.length):=(Wl _ _ _ _ _).trans HLp1.o;rw[Abz K.fns K.gl l.line x1 y1 x2 y2 l1 l2 c1 c2 e h31];have Hq:=A0 (hst.expr E1 Fl Bl At z4va);have HBm1:=A0 (U7 K.fns K.gl l1 c1 e hbb);have HBm2:=A0 (U8 K.fns K.gl c2 0 _ (HBm1.o.step 8 0 l.line));have Ev:=A0 (fun(W:World) (e2:Em) (hx:K.St lbs D W e2) (hbd:A3 D w W) (h1:e2.st.length+2*bsize c2<=800000) (h2:e2.loc.length+bsize c2<=90000) (h3:e2.lps.length=e.lps.length) (h4:Dj e2)=>Tf K c2 (ih.2.1 Ci) lbs D W e2 s1 n1 m1 Gl hx (Bb.Bq hbd) (B5.Bq hbd) (by rw[h3];exact hpc2) h4 h1 h2 z4va);have HC3:=A0 (fun(W:World) (e2:Em) (hx:K.St lbs D W e2) (h1:e2.st.length<=800000) (h2:e2.loc.length<=90000) (h3:e2.lps.length<=90000) (h4:Dj e2)=>Tf K .nil trivial lbs D W e2 none 0 0 [] hx (P6 _ _ _ _) rfl trivial h4 z5va z5va z5va);clear hst hb hr hbb Bl At hz ih hwf hk Di B5 hzz E1 Fl Ci Bb hlp hsm hpc2 HLpc h31;generalize Hu:Ar K.fns K.gl l1 (Ax c1) (em K.fns K.gl c1) e=C0 at *;generalize hE2:em K.fns K.gl c2 0 (C0.step 8 0 l.line)=Fe at *;go_enter Tryz.func93,Tryz.ntmps93;go_wp2_with fail
  refine(Hq.o).mono ?_;rintro r w1 ⟨rfl,Ak,A1⟩;have A7:=A0 Ak;have A4:Hid (A3 D w w1):=A1;have Bp:=(A4.o.block b hD).trans HBk.o;clear Ak A1 ld;clear d1;have d0:w1.cell? ⟨b,0,none⟩=some (.int .i64 (l.line:Nat)):=A2 Bp 0 _ rfl;have ld:=A5 Bp;clear Bp;go_wp2_with fail
  refine(A7.o.step z4va 8 0 l.line).mono ?_;rintro r w2 ⟨rfl,B0,A8⟩;have Ai:=A0 B0;have Aa:Hid (A3 D w w2):=A4.o.trans A8;have Dc:=(Aa.o.block b hD).trans HBk.o;clear B0 A8 ld;clear d0;have d2:=A2 Dc 2 _ rfl;have ld:=A5 Dc;clear Dc;go_wp2_with fail
  refine(Ev.o _ _ Ai.o Aa.o (by rw[Dy];omega) z6pa HLp1.o (HBm1.o.step _ _ _)).mono ?_;rintro r w3 ⟨rfl,C6,Aj⟩;rw[hE2]at C6;have Bc:=A0 C6;have Av:Hid (A3 D w w3):=Aa.o.trans Aj;have Ej:=(Av.o.block b hD).trans HBk.o;clear C6 Aj ld;clear d2;have ld:=A5 Ej;clear Ej;go_wp2_with fail
  refine(Bc.o.step (by show Fe.st.length<=_;omega) 6 0 0).mono ?_;rintro r w4 ⟨rfl,Ff,B8⟩;have Er:=A0 Ff;have Cn:Hid (A3 D w w4):=Av.o.trans B8;have hbk4:=(Cn.o.block b hD).trans HBk.o;clear Ff B8 ld;have ld:=A5 hbk4;clear hbk4;have hm1:(Fe.cut (C0.step 8 0 l.line).loc.length).loc.length<=C0.loc.length:=by show(Fe.loc.take C0.loc.length).length<=_;simp;omega
  go_wp2_with fail
  refine(Er.o.land C0.st.length (by rw[Dy,Nw];omega)).mono ?_;rintro r w5 ⟨rfl,Cm,Ch⟩;have Gp:=A0 Cm;have E4:Hid (A3 D w w5):=Cn.o.trans Ch;have hbk5:=(E4.o.block b hD).trans HBk.o;clear Cm Ch ld;have d3:=A2 hbk5 3 _ rfl;have ld:=A5 hbk5;clear hbk5;go_wp2_with fail
  refine(HC3.o _ _ Gp.o (by rw[K5,Dy,Nw];omega) (by show(Fe.cut (C0.step 8 0 l.line).loc.length).loc.length<=_;omega) (by have:=HLp2.o;show Fe.lps.length<=_;omega) (((HBm2.o.cut _).step _ _ _).land _)).mono ?_;rintro r w6 ⟨rfl,Eb,Ix⟩;rw[em,Abc]at Eb;have HS6:=A0 Eb;have J7:Hid (A3 D w w6):=E4.o.trans Ix;have hbk6:=(J7.o.block b hD).trans HBk.o;clear Eb Ix ld;clear d3;have ld:=A5 hbk6;clear hbk6;go_wp2_with fail
  refine(HS6.o.land Fe.st.length (by rw[K5,Dy,Nw];omega)).mono ?_;exact z2za
 ·obtain⟨x1,y1,l1,c1,r1,Dd,rfl,Bl,At,hz⟩:=hr.cons';obtain⟨x2,y2,l2,c2,r2,Gl,rfl,Di,B5,hzz⟩:=hz.cons';obtain⟨x3,y3,l3,c3,r3,ks3,rfl,hn3,Ce,Fz⟩:=hzz.cons';obtain rfl:=Fz.nil';obtain⟨E1,Fl⟩:=hwf.Lo.1 Bl.Qv.1;obtain⟨Ci,Bb⟩:=Di.Oy;obtain⟨h31,_⟩:=hwf.1.Lo.2 Ci;obtain⟨hk3,Cs⟩:=hn3.Oy;obtain⟨h33,_⟩:=hwf.1.1.Lo.2 hk3;have By:bsize (.node x1 y1 l1 c1 (.node x2 y2 l2 c2 (.node x3 y3 l3 c3 .nil)))=bsize (nd l1 c1)+1+l2.ps.length+bsize c2+1+l3.ps.length+bsize c3:=by rw[Cj];simp only[bsize];omega
  have hl1:=Gj K.fns K.gl l1 c1 e;have Gs:=(On K.fns K.gl c2).1 ((Ar K.fns K.gl l1 (Ax c1) (em K.fns K.gl c1) e).step 8 0 l.line);have Hv:=S0 K.fns K.gl c2 0 ((Ar K.fns K.gl l1 (Ax c1) (em K.fns K.gl c1) e).step 8 0 l.line);rw[Dy]at Gs Hv;have hsm:=Nx K.fns K.gl l1 c1 E1 Fl e;have hlc1:(Ar K.fns K.gl l1 (Ax c1) (em K.fns K.gl c1) e).loc.length<=e.loc.length:=by rw[hsm.2.1];exact Nat.le_refl _
  have HLp1:Hid ((Ar K.fns K.gl l1 (Ax c1) (em K.fns K.gl c1) e).lps.length=e.lps.length):=by show _=_;rw[hsm.1]
  have HLpc:Hid (Lp (.node x1 y1 l1 c1 (.node x2 y2 l2 c2 (.node x3 y3 l3 c3 .nil))) e.lps.length):=by have:=hlp.2.1;rw[if_neg z4va]at this;exact this
  have hpc2:Lp c2 e.lps.length:=by have:=HLpc.o.2.2.2.1;rw[if_neg z4va]at this;exact this
  have HLp2:Hid ((em K.fns K.gl c2 0 ((Ar K.fns K.gl l1 (Ax c1) (em K.fns K.gl c1) e).step 8 0 l.line)).lps.length=e.lps.length):=(Wl _ _ _ _ _).trans HLp1.o;have hpc3:Lp c3 e.lps.length:=by have:=HLpc.o.2.2.2.2.2.1;rw[if_neg z4va]at this;exact this
  rw[Ac0 K.fns K.gl l.line x1 y1 x2 y2 x3 y3 l1 l2 l3 c1 c2 c3 e h31 h33];have Hq:=A0 (hst.expr E1 Fl Bl At z4va);have HBm1:=A0 (U7 K.fns K.gl l1 c1 e hbb);have HBm2:=A0 (U8 K.fns K.gl c2 0 _ (HBm1.o.step 8 0 l.line));have Ev:=A0 (fun(W:World) (e2:Em) (hx:K.St lbs D W e2) (hbd:A3 D w W) (h1:e2.st.length+2*bsize c2<=800000) (h2:e2.loc.length+bsize c2<=90000) (h3:e2.lps.length=e.lps.length) (h4:Dj e2)=>Tf K c2 (ih.2.1 Ci) lbs D W e2 s1 n1 m1 Gl hx (Bb.Bq hbd) (B5.Bq hbd) (by rw[h3];exact hpc2) h4 h1 h2 z4va);have HC3:=A0 (fun(W:World) (e2:Em) (hx:K.St lbs D W e2) (hbd:A3 D w W) (h1:e2.st.length+2*bsize c3<=800000) (h2:e2.loc.length+bsize c3<=90000) (h3:e2.lps.length=e.lps.length) (h4:Dj e2)=>Tf K c3 (ih.2.2.1 hk3) lbs D W e2 s2 n2 m2 ks3 hx (Cs.Bq hbd) (Ce.Bq hbd) (by rw[h3];exact hpc3) h4 h1 h2 z4va);clear hst hb hr hbb Bl At hz ih hwf hk Di B5 hzz E1 Fl Ci Bb hlp hsm hpc2 HLpc h31 hn3 Ce Fz hk3 Cs hpc3 h33;generalize Hu:Ar K.fns K.gl l1 (Ax c1) (em K.fns K.gl c1) e=C0 at *;generalize hE2:em K.fns K.gl c2 0 (C0.step 8 0 l.line)=Fe at *;go_enter Tryz.func93,Tryz.ntmps93;go_wp2_with fail
  refine(Hq.o).mono ?_;rintro r w1 ⟨rfl,Ak,A1⟩;have A7:=A0 Ak;have A4:Hid (A3 D w w1):=A1;have Bp:=(A4.o.block b hD).trans HBk.o;clear Ak A1 ld;clear d1;have d0:w1.cell? ⟨b,0,none⟩=some (.int .i64 (l.line:Nat)):=A2 Bp 0 _ rfl;have ld:=A5 Bp;clear Bp;go_wp2_with fail
  refine(A7.o.step z4va 8 0 l.line).mono ?_;rintro r w2 ⟨rfl,B0,A8⟩;have Ai:=A0 B0;have Aa:Hid (A3 D w w2):=A4.o.trans A8;have Dc:=(Aa.o.block b hD).trans HBk.o;clear B0 A8 ld;clear d0;have d2:=A2 Dc 2 _ rfl;have ld:=A5 Dc;clear Dc;go_wp2_with fail
  refine(Ev.o _ _ Ai.o Aa.o (by rw[Dy];omega) z6pa HLp1.o (HBm1.o.step _ _ _)).mono ?_;rintro r w3 ⟨rfl,C6,Aj⟩;rw[hE2]at C6;have Bc:=A0 C6;have Av:Hid (A3 D w w3):=Aa.o.trans Aj;have Ej:=(Av.o.block b hD).trans HBk.o;clear C6 Aj ld;clear d2;have ld:=A5 Ej;clear Ej;go_wp2_with fail
  refine(Bc.o.step (by show Fe.st.length<=_;omega) 6 0 0).mono ?_;rintro r w4 ⟨rfl,Ff,B8⟩;have Er:=A0 Ff;have Cn:Hid (A3 D w w4):=Av.o.trans B8;have hbk4:=(Cn.o.block b hD).trans HBk.o;clear Ff B8 ld;have ld:=A5 hbk4;clear hbk4;have hm1:(Fe.cut (C0.step 8 0 l.line).loc.length).loc.length<=C0.loc.length:=by show(Fe.loc.take C0.loc.length).length<=_;simp;omega
  go_wp2_with fail
  refine(Er.o.land C0.st.length (by rw[Dy,Nw];omega)).mono ?_;rintro r w5 ⟨rfl,Cm,Ch⟩;have Gp:=A0 Cm;have E4:Hid (A3 D w w5):=Cn.o.trans Ch;have hbk5:=(E4.o.block b hD).trans HBk.o;clear Cm Ch ld;have d3:=A2 hbk5 3 _ rfl;have ld:=A5 hbk5;clear hbk5;have hl3:=(On K.fns K.gl c3).1 (((Fe.cut (C0.step 8 0 l.line).loc.length).step 6 0 0).land C0.st.length);have hg3:=S0 K.fns K.gl c3 0 (((Fe.cut (C0.step 8 0 l.line).loc.length).step 6 0 0).land C0.st.length);rw[K5,Dy,Nw]at hg3 hl3;go_wp2_with fail
  refine(HC3.o _ _ Gp.o E4.o (by rw[K5,Dy,Nw];omega) (by show(Fe.cut (C0.step 8 0 l.line).loc.length).loc.length+_<=_;omega) HLp2.o (((HBm2.o.cut _).step _ _ _).land _)).mono ?_;rintro r w6 ⟨rfl,Eb,Ix⟩;have HS6:=A0 Eb;have J7:Hid (A3 D w w6):=E4.o.trans Ix;have hbk6:=(J7.o.block b hD).trans HBk.o;clear Eb Ix ld;clear d3;have ld:=A5 hbk6;clear hbk6;go_wp2_with fail
  refine(HS6.o.land Fe.st.length (by rw[Nw];omega)).mono ?_;exact z2za
theorem Aqn(K:EC)(l:A6)(c:BT A6)(hk:l.kd=22)(ih:D6 (Qe K) c)(hwf:Wf 2 c):L1 K l c:=by
 intro lbs D w e v ks hst hn hr hlp hbb hsz hlo hll;obtain⟨hlw,lcb,hncb⟩:=hst.lo;have hnds:=Cj l c;unfold Bs at hn;rw[if_neg z4va]at hn;obtain⟨b,cs,rfl,hD,hb,hl⟩:=hn;have e1:Cg l.kd=253:=by rw[hk];rfl
 have e2:Dk l.kd=314:=by rw[hk];rfl
 rw[e1];rw[e2]at hb;unfold Cv at hl;simp only[hk]at hl;obtain⟨t,x,s1,n1,m1,s2,n2,m2,rfl,hks⟩:=hl;have HC:=A0 (Aqu K l c hk ih hwf lbs D w e b t x s1 n1 m1 s2 n2 m2 ks hD hb hks hr hst hlp hbb hsz hlo hll);have ld:=A5 hb;have Dg:=Na 253 z4wa;have Dz:=Alm;clear hst hb e1 e2 hk hr hlp hbb hks ih hwf;exact z37a
end
section
set_option maxRecDepth 100000
open Go.RowKit
open Go.Deep (BT)
variable {K:EC}{D:Nat->Prop}{w:World}{e:Em}{ρ:Nat->Nat}{la:Option Addr}{ln lc:Nat}{pa:Option Addr}{pn pc:Nat}{lb:Nat}{ba:Option Addr}{bn bc:Nat}{br:List LB}
theorem EC.St.top{K:EC}{lbs:List Nat}{D:Nat->Prop}{w:World}{e:Em}(h:K.St lbs D w e)(h0:e.lps.length≠0)(hb:e.lps.length<=90000) :
  ∃lb lr s bs r ba bn bc,lbs=lb::lr/\e.lps=(s,bs)::r/\lb<w.heap.size/\w.heap[lb]?=some (.cells #[.int .i64 (s:Nat),.slice ba bn bc] 263 (0,0))/\w.ownsRow 0 3 1 (.slice ba bn bc) (Da bs).length (Da bs)/\bn=bs.length/\
   Calls Tryz.prog 96 #[.pointer (some ⟨K.wb,3,none⟩)] w (fun r' w'=>r'=.returned (.pointer (some ⟨lb,0,none⟩))/\w'=w):=by
 obtain⟨ρ,la,ln,lc,pa,pn,pc,bl,h,hlb⟩:=h;obtain⟨sa,sn,sc,hv⟩:=h.ew;have hlp:=h.lps;have hln:=hlp.len;cases hq:e.lps with
 | nil=>rw[hq]at h0;exact absurd rfl h0
 | cons x r=>
  cases hbl:bl with
  | nil=>rw[hbl,hq]at hlp;exact hlp.elim
  | cons b br=>
   rw[hbl,hq]at hlp;obtain⟨k1,k2,k3,k4,k5⟩:=hlp;have hst:=h.Q5 hv;rw[hbl]at hst;have hl:((b::br).map fun b=>Cc b.1).reverse.length=br.length+1:=by simp
   have hbr:br.length<=90000:=by rw[hbl]at hln;simp at hln;omega
   have ht:=A49 hst (by rw[hl];omega) br.length (by rw[hl];omega) hl;have hx:(((b::br).map fun b=>Cc b.1).reverse)[br.length]'(by rw[hl];omega)=.pointer (some ⟨b.1,0,none⟩):=by
    simp[Cc]
   rw[hx]at ht;refine⟨b.1,br.map Prod.fst,x.1,x.2,r,b.2.1,b.2.2.1,b.2.2.2,by rw[←hlb,hbl];rfl,rfl,A5 k1,k1,k2,?_,ht⟩;have:=(C9 k2).1;rw[this];simp[Da]
theorem EC.Sv.A1o(h:K.Sv D w e ρ la ln lc pa pn pc ((lb,ba,bn,bc)::br)){s:Nat}{bs:List Nat}{r:List (Nat×List Nat)}(hq:e.lps=(s,bs)::r) :
  w.heap[lb]?=some (.cells #[.int .i64 (s:Nat),.slice ba bn bc] 263 (0,0)):=by
 have:=h.lps;rw[hq]at this;exact this.1
theorem EC.Sv.Xo(h:K.Sv D w e ρ la ln lc pa pn pc ((lb,ba,bn,bc)::br)){s:Nat}{bs:List Nat}{r:List (Nat×List Nat)}(hq:e.lps=(s,bs)::r) :
  w.ownsRow 0 3 1 (.slice ba bn bc) (Da bs).length (Da bs):=by
 have:=h.lps;rw[hq]at this;exact this.2.1
theorem EC.Sv.Ag5(h:K.Sv D w e ρ la ln lc pa pn pc ((lb,ba,bn,bc)::br)){s:Nat}{bs:List Nat}{r:List (Nat×List Nat)}(hq:e.lps=(s,bs)::r) :
  (Value.slice ba bn bc).ownBlock≠some lb:=by
 have:=h.lps;rw[hq]at this;intro e1;have h1:=this.2.2.2.1 lb e1;have h2:=this.2.2.1;simp only at h2;omega
theorem Aql(K:EC)(l:A6)(c:BT A6)(hk:l.kd=26):L1 K l c:=by
 intro lbs D w e v ks hst hn hr hlp hbb hsz hlo hll;obtain⟨hlw,lcb,hncb⟩:=hst.lo;have hnds:=Cj l c;unfold Bs at hn;rw[if_neg z4va]at hn;obtain⟨b,cs,rfl,hD,hb,hl⟩:=hn;have e1:Cg l.kd=264:=by rw[hk];rfl
 have e2:Dk l.kd=368:=by rw[hk];rfl
 rw[e1];rw[e2]at hb;unfold Cv at hl;simp only[hk]at hl;rw[s8 hk];obtain⟨rfl,rfl⟩:=hl;have Gb:e.lps.length≠0:=hlp.1 (.inr hk);obtain⟨lb,lr,s,bs,r,ba,bn,bc,rfl,hq,llb,hlb,hown,rfl,HT⟩:=hst.top Gb z4va;have hE:e.cnt=e.step 6 (s:Nat) 0:=by unfold Em.cnt;rw[hq]
 rw[hE];have HSt:=A0 (hst.step z4va 6 (s:Nat) 0);have HTop:=A0 HT;have g0:=A2 hlb 0 _ rfl;have ld:=A5 hb;have Dg:=Na 264 z4wa;have Dz:=Pa 264 z4wa;have Ep:=Q2 264 z4wa;have Fh:=Rc 264 z4wa;have G8:=T4 264 z4wa;have I1:=Alj;clear hst hb e1 e2 hk hr hlp hbb hq hE HT hown Gb hlb;unfold Cc;go_enter Tryz.func56,Tryz.ntmps56;go_wp2_with fail
 refine HTop.o.mono ?_;rintro r w ⟨rfl,rfl⟩;go_wp2_with fail
 refine(HSt.o).mono ?_;exact z0ga
theorem Aqk(K:EC)(l:A6)(c:BT A6)(hk:l.kd=25):L1 K l c:=by
 intro lbs D w e v ks hst hn hr hlp hbb hsz hlo hll;obtain⟨hlw,lcb,hncb⟩:=hst.lo;have hnds:=Cj l c;unfold Bs at hn;rw[if_neg z4va]at hn;obtain⟨b,cs,rfl,hD,hb,hl⟩:=hn;have e1:Cg l.kd=259:=by rw[hk];rfl
 have e2:Dk l.kd=367:=by rw[hk];rfl
 rw[e1];rw[e2]at hb;unfold Cv at hl;simp only[hk]at hl;rw[s7 hk];obtain⟨rfl,rfl⟩:=hl;have Gb:e.lps.length≠0:=hlp.1 (.inl hk);obtain⟨lb,lr,s,bs,r,ba,bn,bc,rfl,hq,llb,_,_,rfl,HT⟩:=hst.top Gb z4va;have HTop:=A0 HT;obtain⟨ρ,la,ln,lc,pa,pn,pc,bl,h,hlb⟩:=hst;obtain⟨b2,br,rfl⟩:∃b2 br,bl=b2::br:=by
  cases bl with
  | nil=>simp at hlb
  | cons b2 br=>exact⟨b2,br,rfl⟩
 simp only[List.map_cons,List.cons.injEq]at hlb;obtain⟨rfl,rfl⟩:=hlb;have hlps:=h.lps;rw[hq]at hlps;obtain⟨k1,k2,k3,k4,k5⟩:=hlps;obtain⟨lb,ba,bn,bc⟩:=b2;simp only[N5]at k1 k2 k4 llb HTop HT k3;have hbn:bn=(Da bs).length:=(C9 k2).1;have hbk:(Da bs).length=bs.length:=by simp[Da]
 subst hbn;obtain⟨hd,hdb⟩:=h.P2 (Dw _ w 1) (h.Nf.drewN 1) rfl;have HStep:=A0 (Kz hd.ew z4va 6 0 0);have HD:=A0 hd;have hbs:bs.length<=800000:=by
  have:=(hbb (s,bs) (by rw[hq];simp)).1;simp only at this;omega
 have hbl:(Da bs).length<=800000:=by rw[hbk];exact hbs
 clear hbk hbs;have g0:=A2 k1 0 _ rfl;have g1:=A2 k1 1 _ rfl;have fz:=Bd k1;have I3:=A0 k1;have HK3:=A0 k3;have HE:Hid (e.L6=⟨e.loc,e.slots,e.st++[⟨6,0,0,Ag⟩],(s,bs++[e.st.length])::r⟩):=by show _=_;unfold Em.L6;rw[hq]
 have HQ:=A0 hq;have ld:=A5 hb;have Dg:=Na 259 z4wa;have Dz:=Pa 259 z4wa;have Ep:=Q2 259 z4wa;have Fh:=Rc 259 z4wa;have G8:=Ali;clear hb e1 e2 hk hr hlp hbb HT Gb h hd hdb k1 k2 k3 k4 k5 hq;unfold Cc;go_enter Tryz.func56,Tryz.ntmps56;go_wp2_with fail
 refine HTop.o.mono ?_;rintro r w ⟨rfl,rfl⟩;go_wp2_with fail
 go_region_law (first
  | (refine Nc _ w5.heap.size #[.int .i64 (e.st.length:Nat)] 3 (heap_alloc_new w5 (.cells #[.int .i64 (e.st.length:Nat)] 3)) rfl (.tmp 62) (.tmp 65) 34 rfl 0 1 8 (.int .i64 0) Tryz.underlying34 Xc rfl z4va (.slice ba (Da bs).length bc) (Da bs).length (Da bs) rfl rfl (hown5.alloc _) rfl (fun u hu=>by simp at hu;rw[hu];rfl) z4va z4va (Nat.zero_le _) ?_;intro g6 cap6 w6 hown6 hgrow6' hat6' hg6;have hgrow6:w5.grownBy w6 (Value.slice ba (Da bs).length bc).ownBlock:=M5 (World.grownBy_alloc w5 (.cells #[.int .i64 (e.st.length:Nat)] 3) none) hgrow6';have hat6:(Value.slice ba (Da bs).length bc).ownBlock=some g6\/w5.heap.size<=g6:=(hat6'.imp id (fun e=>by rw[e];simp));have hl6:=(hgrow6.block lb l5 (fun e=>hnl5 e.symm)).trans hl5;have q1:=A2 hl6 1 _ rfl;have fq:=Bd hl6;have lq:=A5 hl6;clear hl6 hgrow6' hat6')
  | (refine Eo rfl 55 _ _ rfl #[.pointer (some ⟨K.wb,0,none⟩),.int .i64 6,.int .i64 0,.int .i64 0] (by kernel_rfl) HStep.o ?_;rintro r5 w5 ⟨rfl,Cm,Ch⟩;refine⟨_,rfl,?_⟩;have Im:=HD.o.P2 Ch (HD.o.Nf.next (e':=e.step 6 0 0) Ch Cm rfl) rfl;have hl5:w5.heap[lb]?=some (.cells #[.int .i64 (s:Nat),.slice ba (Da bs).length bc] 263 (0,0)):=Im.1.A1o HQ.o;have hown5:w5.ownsRow 0 3 1 (.slice ba (Da bs).length bc) (Da bs).length (Da bs):=Im.1.Xo HQ.o;have hnl5:(Value.slice ba (Da bs).length bc).ownBlock≠some lb:=Im.1.Ag5 HQ.o;have l5:=A5 hl5;have z0:=A2 hl5 0 _ rfl;have z1:=A2 hl5 1 _ rfl;have f5:=Bd hl5;have HV5:=A0 Im;clear Cm Ch Im))
 all_goals go_wp2
 all_goals go_end0
 all_goals
  obtain⟨k1,k2⟩:=HV5.o.1.A6v HQ.o e.st.length hown6 hgrow6 hat6;rw[HE.o];exact⟨rfl,k1,(Dw D w 1).trans (HV5.o.2.trans k2)⟩
end
section
set_option maxRecDepth 100000
open Go.RowKit
open Go.Deep (BT)
theorem A9l{bs:List Nat}{i:Nat}(h:i<bs.length):(Da bs)[i]?=some (.int .i64 (bs[i]:Nat)):=by
 rw[Da,List.getElem?_map,List.getElem?_eq_getElem h];rfl
theorem Acg(fns:List (Nm×Nat))(gl:List Nm)(line x1 y1 x2 y2:Nat)(l1 l2:A6)(c1 c2:BT A6)(e:Em)(h32:l2.kd=32) :
  Ln line (em fns gl (.node x1 y1 l1 c1 (.node x2 y2 l2 c2 .nil))) e =
   (((((em fns gl c2 0 ((Ar fns gl l1 (Ax c1) (em fns gl c1) e.open').step 7 0 line)).cut (Ar fns gl l1 (Ax c1) (em fns gl c1) e.open').loc.length).step 6 (e.st.length:Nat) 0).land (Ar fns gl l1 (Ax c1) (em fns gl c1) e.open').st.length).Hx
    ((((em fns gl c2 0 ((Ar fns gl l1 (Ax c1) (em fns gl c1) e.open').step 7 0 line)).cut (Ar fns gl l1 (Ax c1) (em fns gl c1) e.open').loc.length).step 6 (e.st.length:Nat) 0).land (Ar fns gl l1 (Ax c1) (em fns gl c1) e.open').st.length).Tv).close:=by
 simp[Ln,Qn,U9,z8 h32];rfl
theorem Aqw(K:EC)(l:A6)(c:BT A6)(hk:l.kd=23)(ih:D6 (Qe K) c)(hwf:Wf 3 c)(lbs:List Nat)(D:Nat->Prop)(w:World)(e:Em)(b:Nat)(t:TypeId)(x:Value)(s1:Option Addr)(n1 m1:Nat)(hD:D b)
  (hb:w.heap[b]?=some (.cells #[.int .i64 (l.line:Nat),.iface t x,.slice s1 n1 m1] 317 (0,0)))
  (hr:An D w c [.iface t x,.slice s1 n1 m1]) (hst:K.St lbs D w e) (hlp:Lp (nd l c) e.lps.length) (hbb:Dj e) (hsz:e.st.length+2*bsize (nd l c)<=800000) (hlo:e.loc.length+bsize (nd l c)<=90000) (hll:e.lps.length+bsize (nd l c)<=90000) :
  Calls Tryz.prog 94 #[.pointer (some ⟨K.wb,0,none⟩),.pointer (some ⟨b,0,none⟩)] w fun r w'=>r=.returned (.tuple #[])/\K.St lbs D w' (Ar K.fns K.gl l (Ax c) (em K.fns K.gl c) e)/\A3 D w w':=by
 obtain⟨hlw,lcb,hncb⟩:=hst.lo;have hnds:=Cj l c;rw[r8 hk];have HBk:=A0 hb;have d1:=A2 hb 1 _ rfl;have ld:=A5 hb;obtain⟨x1,y1,l1,c1,r1,Dd,rfl,Bl,At,hz⟩:=hr.cons';obtain⟨x2,y2,l2,c2,r2,Gl,rfl,Di,B5,hzz⟩:=hz.cons';obtain rfl:=hzz.nil';obtain⟨E1,Fl⟩:=hwf.Q0.1 Bl.Qv.2;obtain⟨Ci,Bb⟩:=Di.Oy;obtain⟨h32,_⟩:=hwf.1.Q0.2 Ci;have By:bsize (.node x1 y1 l1 c1 (.node x2 y2 l2 c2 .nil))=bsize (nd l1 c1)+1+l2.ps.length+bsize c2:=by rw[Cj];simp only[bsize];omega
 have hl1:=Gj K.fns K.gl l1 c1 e.open';have hg1:=Wk K.fns K.gl l1 c1 e.open';have Gs:=(On K.fns K.gl c2).1 ((Ar K.fns K.gl l1 (Ax c1) (em K.fns K.gl c1) e.open').step 7 0 l.line);have Hv:=S0 K.fns K.gl c2 0 ((Ar K.fns K.gl l1 (Ax c1) (em K.fns K.gl c1) e.open').step 7 0 l.line);rw[Dy]at Gs Hv;have Bx:e.open'.st.length=e.st.length:=rfl;rw[Bx]at hl1 hg1;clear Bx;have hsm:=Nx K.fns K.gl l1 c1 E1 Fl e.open';have hlc1:(Ar K.fns K.gl l1 (Ax c1) (em K.fns K.gl c1) e.open').loc.length<=e.loc.length:=by rw[hsm.2.1];exact Nat.le_refl _
 have HLp1:Hid ((Ar K.fns K.gl l1 (Ax c1) (em K.fns K.gl c1) e.open').lps.length=e.lps.length+1):=by show _=_;rw[hsm.1];rfl
 have hpc2:Lp c2 (e.lps.length+1):=by
  have h1:=hlp.2.1;rw[if_neg z4va]at h1;have h2:=h1.2.2.2.1;rw[if_pos h32]at h2;exact h2
 have HSts:Hid (Gg (em K.fns K.gl c2 0 ((Ar K.fns K.gl l1 (Ax c1) (em K.fns K.gl c1) e.open').step 7 0 l.line))=e.st.length::Gg e):=by
  show _=_;rw[A0g];show Gg (Ar K.fns K.gl l1 (Ax c1) (em K.fns K.gl c1) e.open')=_;unfold Gg;rw[hsm.1];rfl
 have HBm1:=A0 (U7 K.fns K.gl l1 c1 e.open' hbb.open');have HBm2:=A0 (U8 K.fns K.gl c2 0 _ (HBm1.o.step 7 0 l.line));rw[Acg K.fns K.gl l.line x1 y1 x2 y2 l1 l2 c1 c2 e h32];have HHere:=A0 hst.here;obtain⟨ρ,la,ln,lc,pa,pn,pc,bl,h,hlb⟩:=hst;have hbl:bl.length<=90000:=by have:=h.lps.len;omega
 have h1:=h.alloc (.cells #[.int .i64 (e.st.length:Nat),.slice none 0 0] 263) (5+2*bl.length) z4va;have hbd1:A3 D w (w.alloc (.cells #[.int .i64 (e.st.length:Nat),.slice none 0 0] 263)):=(A3.refl D w).alloc hlw _;have hnew:=heap_alloc_new w (.cells #[.int .i64 (e.st.length:Nat),.slice none 0 0] 263);obtain⟨sa,sn,sc,hv⟩:=h1.ew;have HPu:=A0 (Amb (h1.Q5 hv) z4ya (some ⟨w.heap.size,0,none⟩) z50a);have HPL:=A0 (fun(w1:World) hp=>h1.Y2 e.st.length w.heap.size hv hnew (Hj (Nat.le_refl _)) (w':=w1) hp);rw[hlb]at HPL;have Hq:=A0 (fun(W:World) (hx:K.St (w.heap.size::lbs) D W e.open') (hbd:A3 D w W)=>hx.expr E1 Fl (Bl.Bq hbd) (At.Bq hbd) (by show e.st.length+_<=_;omega));have Ev:=A0 (fun(W:World) (e2:Em) (hx:K.St (w.heap.size::lbs) D W e2) (hbd:A3 D w W) (h1:e2.st.length+2*bsize c2<=800000) (h2:e2.loc.length+bsize c2<=90000) (h3:e2.lps.length=e.lps.length+1) (h4:Dj e2)=>Tf K c2 (ih.2.1 Ci) (w.heap.size::lbs) D W e2 s1 n1 m1 Gl hx (Bb.Bq hbd) (B5.Bq hbd) (by rw[h3];exact hpc2) h4 h1 h2 z4va);have HBd1:=A0 hbd1;clear hb hr hbb Bl At hz ih hwf hk Di B5 hzz E1 Fl Ci Bb hlp hsm hpc2 h32 h h1 hv hnew hbd1 hlb;generalize Hu:Ar K.fns K.gl l1 (Ax c1) (em K.fns K.gl c1) e.open'=C0 at *;generalize hE2:em K.fns K.gl c2 0 (C0.step 7 0 l.line)=Fe at *;go_enter Tryz.func94,Tryz.ntmps94;go_wp2_with fail
 refine HHere.o.mono ?_;rintro r w ⟨rfl,rfl⟩;go_wp2_with fail
 refine HPu.o.mono ?_;rintro r w1 ⟨rfl,hp⟩;obtain⟨Ak,hb1'⟩:=HPL.o w1 hp;have A7:=A0 Ak;have A4:Hid (A3 D w w1):=HBd1.o.trans hb1';have Bp:=(A4.o.block b hD).trans HBk.o;clear Ak hb1' hp d1 ld;have d1:=A2 Bp 1 _ rfl;have ld:=A5 Bp;clear Bp;go_wp2_with fail
 refine(Hq.o w1 A7.o A4.o).mono ?_;rintro r w2 ⟨rfl,B0,A8⟩;have Ai:=A0 B0;have Aa:Hid (A3 D w w2):=A4.o.trans A8;have Dc:=(Aa.o.block b hD).trans HBk.o;clear B0 A8 ld;clear d1;have d0:w2.cell? ⟨b,0,none⟩=some (.int .i64 (l.line:Nat)):=A2 Dc 0 _ rfl;have ld:=A5 Dc;clear Dc;go_wp2_with fail
 refine(Ai.o.step z4va 7 0 l.line).mono ?_;rintro r w3 ⟨rfl,C6,Aj⟩;have Bc:=A0 C6;have Av:Hid (A3 D w w3):=Aa.o.trans Aj;have Ej:=(Av.o.block b hD).trans HBk.o;clear C6 Aj ld;clear d0;have d2:=A2 Ej 2 _ rfl;have ld:=A5 Ej;clear Ej;go_wp2_with fail
 refine(Ev.o _ _ Bc.o Av.o (by rw[Dy];omega) z6pa HLp1.o (HBm1.o.step _ _ _)).mono ?_;rintro r w4 ⟨rfl,Ff,B8⟩;rw[hE2]at Ff;have Er:=A0 Ff;have Cn:Hid (A3 D w w4):=Av.o.trans B8;have hbk4:=(Cn.o.block b hD).trans HBk.o;clear Ff B8 ld;clear d2;have ld:=A5 hbk4;clear hbk4;have hq0:(Fe.cut (C0.step 7 0 l.line).loc.length).lps.length≠0:=by
  have:=congrArg List.length HSts.o;simp only[Gg,List.length_map,List.length_cons]at this;show Fe.lps.length≠0;omega
 have Ao:(Fe.cut (C0.step 7 0 l.line).loc.length).lps.length<=90000:=by
  have:=congrArg List.length HSts.o;simp only[Gg,List.length_map,List.length_cons]at this;show Fe.lps.length<=90000;omega
 obtain⟨lb,lr,s,bs,r4,ba,bn,bc,hlbs,hq,llb,hlb4,hown4,rfl,_⟩:=Er.o.top hq0 Ao;injection hlbs with hlb5 hlr5;have Gt:s=e.st.length:=by
  have:=HSts.o;have hq':Fe.lps=(s,bs)::r4:=hq;unfold Gg at this;rw[hq']at this;simp only[List.map_cons,List.cons.injEq]at this;exact this.1
 have Fy:r4.length=e.lps.length:=by
  have:=congrArg List.length HSts.o;have hq':Fe.lps=(s,bs)::r4:=hq;unfold Gg at this;rw[hq']at this;simp at this;exact this
 subst Gt;subst hlb5;have g0:=A2 hlb4 0 _ rfl;have HQ:=A0 hq;clear hlb4 hown4 hlr5 hq hq0 Ao llb;go_wp2_with fail
 refine(Er.o.step (by show Fe.st.length<=_;omega) 6 (e.st.length:Nat) 0).mono ?_;rintro r w5 ⟨rfl,Cm,Ch⟩;have Gp:=A0 Cm;have E4:Hid (A3 D w w5):=Cn.o.trans Ch;have hbk5:=(E4.o.block b hD).trans HBk.o;clear Cm Ch ld;clear g0;have ld:=A5 hbk5;clear hbk5;go_wp2_with fail
 refine(Gp.o.land C0.st.length (by rw[Dy,Nw];omega)).mono ?_;rintro r w6 ⟨rfl,Eb,Ix⟩;have HS6:=A0 Eb;have J7:Hid (A3 D w w6):=E4.o.trans Ix;have hbk6:=(J7.o.block b hD).trans HBk.o;clear Eb Ix ld;have ld:=A5 hbk6;clear hbk6;have HQ6:Hid ((((Fe.cut (C0.step 7 0 l.line).loc.length).step 6 (e.st.length:Nat) 0).land C0.st.length).lps=(e.st.length,bs)::r4):=HQ.o;have HBm6:Hid (Dj (((Fe.cut (C0.step 7 0 l.line).loc.length).step 6 (e.st.length:Nat) 0).land C0.st.length)):=(((HBm2.o.cut _).step _ _ _).land _);have HE6:Hid ((((Fe.cut (C0.step 7 0 l.line).loc.length).step 6 (e.st.length:Nat) 0).land C0.st.length).Tv=bs):=by show _=_;unfold Em.Tv;rw[HQ6.o]
 have hbs:bs.length<=800000:=by
  have:=(HBm6.o (e.st.length,bs) (by rw[HQ6.o];simp)).1;rw[K5,Dy,Nw]at this;simp only at this;omega
 generalize hE6:(((Fe.cut (C0.step 7 0 l.line).loc.length).step 6 (e.st.length:Nat) 0).land C0.st.length)=em6 at *;have HE6':=A0 hE6;clear hE6;obtain⟨ρ,la,ln,lc,pa,pn,pc,bl,h6,hlb6⟩:=HS6.o;obtain⟨b2,br,rfl⟩:∃b2 br,bl=b2::br:=by
  cases bl with
  | nil=>simp at hlb6
  | cons b2 br=>exact⟨b2,br,rfl⟩
 obtain⟨lb,ba,bn,bc⟩:=b2;simp only[List.map_cons,List.cons.injEq]at hlb6;obtain⟨hlb7,hlbr⟩:=hlb6;subst hlb7;have hl6:=h6.A1o HQ6.o;have hbn:bn=bs.length:=by have:=(C9 (h6.Xo HQ6.o)).1;rw[this];simp[Da]
 subst hbn;have g1:=A2 hl6 1 _ rfl;have lg:=A5 hl6;have H6:=A0 h6;have HLbr:=A0 hlbr;have hbr:br.length<=90000:=by have:=h6.lps.len;rw[HQ6.o]at this;simp at this;omega
 clear h6 hl6 hlbr;go_wp2;go_loopg [49] bs.length (fun k v wr=>∃(i:Nat) (ρ':Nat->Nat),v=.int .i64 i/\i+k=bs.length/\K.Sv D wr (em6.Hx (bs.take i)) ρ' la ln lc pa pn pc ((w.heap.size,ba,bs.length,bc)::br)/\A3 D w wr)
 case atStart=>exact⟨0,ρ,rfl,by omega,H6.o,J7.o⟩
 case round=>
  clear H6 HS6;obtain⟨i,ρ',rfl,hik,hsv,hbel⟩:=hrel;have HBel:=A0 hbel;have HQi:Hid ((em6.Hx (bs.take i)).lps=(e.st.length,bs)::r4):=(Xl _ _).trans HQ6.o;have hll6:=Uh (bs.take i) em6;clear hbel;by_cases hlt:i<bs.length
  ·obtain⟨g,rfl,hvn9,hcap,lg2,hcell⟩:=Fo (hsv.Xo HQi.o) (by simp[Da];omega);clear hvn9;have d0:=hcell i _ (A9l hlt);have hjl:bs[i]<(em6.Hx (bs.take i)).st.length:=by
    rw[hll6];exact(HBm6.o (e.st.length,bs) (by rw[HQ6.o];simp)).2 _ (List.getElem_mem hlt)
   have HL:=A0 (Vb hsv.ew bs[i] hjl);have HNx:=A0 (Afp bs i hlt em6);have HV:=A0 hsv;clear hcell hsv hjl hll6;generalize bs[i]=jj at *;go_wp2_with fail
   refine HL.o.mono ?_;rintro r w7 ⟨rfl,G4,Ik⟩;obtain⟨k1,k2⟩:=HV.o.P2 Ik (HV.o.Nf.next (e':=(em6.Hx (bs.take i)).land jj) Ik G4 rfl) rfl;rw[←HNx.o]at k1;have I3:=A0 k1;have HB7:Hid (A3 D w w7):=HBel.o.trans k2;clear G4 Ik k1 k2;go_wp2;go_roundg (gk-1)
   case measure=>omega
   case rel=>exact⟨i+1,_,rfl,by omega,I3.o,HB7.o⟩
  ·obtain rfl:i=bs.length:=by omega
   rw[List.take_length]at hsv;obtain⟨sa,sn,sc,hv⟩:=hsv.ew;have lbw:=A5 hv.cell;have hpl:(((w.heap.size,ba,bs.length,bc)::br:List LB).map fun b=>Cc b.1).reverse.length=br.length+1:=by simp
   have HPo:=A0 (Am7 (hsv.Q5 hv) (by rw[hpl];omega) br.length (by rw[hpl];omega) hpl z50a);have HPL:=A0 (fun(w9:World) hp=>hsv.Ahn hv (w':=w9) hp);rw[HLbr.o]at HPL;clear hsv hv hll6;go_wp2_with fail
   refine HPo.o.mono ?_;rintro r w9 ⟨rfl,hp⟩;obtain⟨k1,k2⟩:=HPL.o w9 hp;have I3:=A0 k1;have D9:Hid (A3 D w w9):=HBel.o.trans k2;clear k1 k2 hp;go_wp2;go_end0;have hE7:(((Fe.cut C0.loc.length).step 6 (e.st.length:Nat) 0).land C0.st.length)=em6:=HE6'.o;rw[hE7,HE6.o];exact⟨rfl,I3.o,D9.o⟩
theorem Aqt(K:EC)(l:A6)(c:BT A6)(hk:l.kd=23)(ih:D6 (Qe K) c)(hwf:Wf 3 c):L1 K l c:=by
 intro lbs D w e v ks hst hn hr hlp hbb hsz hlo hll;obtain⟨hlw,lcb,hncb⟩:=hst.lo;have hnds:=Cj l c;unfold Bs at hn;rw[if_neg z4va]at hn;obtain⟨b,cs,rfl,hD,hb,hl⟩:=hn;have e1:Cg l.kd=255:=by rw[hk];rfl
 have e2:Dk l.kd=317:=by rw[hk];rfl
 rw[e1];rw[e2]at hb;unfold Cv at hl;simp only[hk]at hl;obtain⟨t,x,s1,n1,m1,rfl,rfl⟩:=hl;have HC:=A0 (Aqw K l c hk ih hwf lbs D w e b t x s1 n1 m1 hD hb hr hst hlp hbb hsz hlo hll);have ld:=A5 hb;have Dg:=Na 255 z4wa;have Dz:=Pa 255 z4wa;have Ep:=Alp;clear hst hb e1 e2 hk hr hlp hbb ih hwf;exact z37a
theorem A51(K:EC):∀f:BT A6,(Wf 1 f->D6 (L1 K) f)/\(Wf 2 f->D6 (Qe K) f)/\(Wf 3 f->D6 (Qe K) f):=by
 intro f;induction f with
 | nil=>exact⟨fun _=>trivial,fun _=>trivial,fun _=>trivial⟩
 | node x y l c r Dr D8=>
  obtain⟨i1,i2,i3⟩:=Dr;obtain⟨j1,j2,j3⟩:=D8;refine⟨fun h=>⟨?_,j1 h.1⟩,fun h=>⟨fun hx=>i1 (h.Lo.2 hx).2,j2 h.1⟩,fun h=>⟨fun hx=>i1 (h.Q0.2 hx).2,j3 h.1⟩⟩;rcases h.2 with⟨h0,_⟩|⟨h0,_⟩|⟨h0,_⟩|⟨_,h1,h2⟩|⟨_,h1,h2⟩|⟨_,h1,h2⟩|⟨h0,_⟩
  ·omega
  ·omega
  ·omega
  ·exact Aqn K l c h1 (i2 h2) h2
  ·exact Aqt K l c h1 (i3 h2) h2
  ·unfold Q4 at h1;simp only[Bool.or_eq_true,Bool.and_eq_true,decide_eq_true_eq,beq_iff_eq]at h1;have hc:l.kd=21\/l.kd=24\/l.kd=25\/l.kd=26\/l.kd=27\/l.kd=28\/l.kd=29\/l.kd=30:=by omega
   rcases hc with e|e|e|e|e|e|e|e
   ·exact Aqp K l c e h2
   ·exact Aqo K l c e h2
   ·exact Aqk K l c e
   ·exact Aql K l c e
   ·exact Aqq K l c e h2
   ·exact Aqs K l c e h2
   ·exact Aqr K l c e h2
   ·exact Aqm K l c e h2
  ·omega
end
section
open Go.RowKit
open Go.Deep (BT)
variable {K:EC} {D:Nat->Prop} {w w':World} {e:Em} {ρ:Nat->Nat} {la:Option Addr} {ln lc:Nat} {pa:Option Addr} {pn pc:Nat} {bl:List LB}
theorem Ho.Qy{fs gs ls ps:Value}{slots:Nat}{st:List Ac}{wb te:Nat}{sa:Option Addr}{sn sc:Nat}(h:Ho (dX w.heap.size ρ) wb te w fs gs ls ps slots st sa sn sc)(hone:∀g,ρ g=1->g=wb):∀g,(Value.slice sa sn sc).ownBlock=some g->ρ g=4:=by
 intro g hg;have h1:=h.D5 g hg;have h2:=Bn h.own g hg;by_cases e1:ρ g=1
 ·exact absurd (hone g e1) h1.2
 ·by_cases e4:ρ g=4
  ·exact e4
  ·exact absurd ⟨h2,e1,e4⟩ h1.1
theorem z4qa {P:Prop} (h:P:=by
  rw[hρ K.wb hwb z5ia z5ia];exact h.one.1):P:=h
theorem z6la {P:Prop} (h:P:=by rw[h.pro g hg];omega):P:=h
theorem z6na {P:Prop} (h:P:=by rw[h.lro g hg];omega):P:=h
theorem EC.Sv.swap(h:K.Sv D w e ρ la ln lc pa pn pc bl){sa:Option Addr}{sn sc:Nat}(hv:Ho (dX w.heap.size ρ) K.wb K.te w (.slice K.fa K.fn K.fc) (.slice K.ga K.gn K.gc) (.slice la ln lc) (.slice pa pn pc) e.slots e.st sa sn sc)
  (D0:Nat->Prop) {ta:Option Addr} {tn tc:Nat} {st':List Ac} {slots':Nat} (hrow:w.ownsRow 0 251 8 (.slice ta tn tc) st'.length (Ek st')) (hT:∀g,(Value.slice ta tn tc).ownBlock=some g->ρ g=0) (hD0:∀g,D0 g->D g/\(Value.slice ta tn tc).ownBlock≠some g)
  (hfr:Ic D0 w K.fns K.fa K.fn K.fc) (hgr:Cw D0 w 9 1 (.slice K.ga K.gn K.gc) K.gl.length (Df K.gl))
  (hcell:w'.heap[K.wb]?=some (.cells #[.slice K.fa K.fn K.fc,.slice K.ga K.gn K.gc,.slice la ln lc,.slice pa pn pc,.int .i64 (slots':Nat),.slice ta tn tc] K.te (0,0))) (y:Nat) (hy:(ρ y=0/\¬D0 y/\(Value.slice ta tn tc).ownBlock≠some y)\/w.heap.size<=y) (hk:∀g,g<w.heap.size->g≠K.wb->g≠y->w'.heap[g]?=w.heap[g]?) (hs:w.heap.size<=w'.heap.size) (ho:w'.os=w.os) (ht:w'.tape=w.tape) (hu:w'.output=w.output) :
  (∃ρ',K.Sv (fun g=>D0 g\/(Value.slice sa sn sc).ownBlock=some g) w' ⟨e.loc,slots',st',e.lps⟩ ρ' la ln lc pa pn pc bl/\∀g,w.heap.size<=g->ρ' g=4)/\A3 D0 w w':=by
 have hwb:=A5 hv.cell;have h4:=hv.Qy h.one.2;have hyn:∀g,g<w.heap.size->ρ g≠0->g≠y:=by
  intro g hg h1 e;subst e;rcases hy with hy|hy
  ·exact h1 hy.1
  ·omega
 have hbd0:A3 D0 w w':=⟨ho,ht,hu,hs,fun k hk'=>by
  have h1:=h.prot k (hD0 k hk').1;refine hk k h1.1 (fun e=>by have:=h1.2;rw[e,h.one.1]at this;cases this) (fun e=>?_);subst e;rcases hy with hy|hy
  ·exact hy.2.1 hk'
  ·omega⟩
 have hTy:∀g,(Value.slice ta tn tc).ownBlock=some g->g≠y:=by
  intro g hg e;subst e;rcases hy with hy|hy
  ·exact hy.2.2 hg
  ·have:=Bn hrow g hg;omega
 have hne:∀g,ρ g≠0->ρ g≠4->¬(Value.slice ta tn tc).ownBlock=some g/\¬(Value.slice sa sn sc).ownBlock=some g:=fun g h1 h2=>⟨fun e=>h1 (hT g e),fun e=>h2 (h4 g e)⟩;have hρ:∀g,g<w.heap.size->ρ g≠0->ρ g≠4->F2 (fun g=>if(Value.slice ta tn tc).ownBlock=some g then 4 else if(Value.slice sa sn sc).ownBlock=some g then 0 else ρ g) w.heap.size 4 g=ρ g:=by
  intro g hg h1 h2;rw[Bm hg,if_neg (hne g h1 h2).1,if_neg (hne g h1 h2).2]
 refine⟨⟨F2 (fun g=>if(Value.slice ta tn tc).ownBlock=some g then 4 else if(Value.slice sa sn sc).ownBlock=some g then 0 else ρ g) w.heap.size 4,⟨⟨ta,tn,tc,hcell,?_,?_,?_,fun g hg=>hg.1⟩,(hfr.keep hbd0).weak (fun g hg=>.inl hg),(hgr.Bq hbd0).weak (fun g hg=>.inl hg),?_,?_,?_,?_,?_,?_,⟨?_,?_⟩,h.Br⟩,fun g hg=>Hj hg⟩,hbd0⟩
 ·exact B4 hrow (fun g hg hl=>hk g hl (fun e=>by have:=hT g hg;rw[e,h.one.1]at this;cases this) (hTy g hg))
 ·intro hd;apply hd.2.1;exact z4qa
 ·intro g hg;refine⟨fun hd=>hd.2.2 ?_,fun e=>by have:=hT g hg;rw[e,h.one.1]at this;cases this⟩;rw[Bm (Bn hrow g hg),if_pos hg]
 ·exact B4 h.lr (fun g hg hl=>hk g hl (fun e=>by have:=h.lro g hg;rw[e,h.one.1]at this;omega) (hyn g hl z6na))
 ·intro g hg;have:=h.lro g hg;rw[hρ g (Bn h.lr g hg) z4va z4va];exact this
 ·exact B4 h.pr (fun g hg hl=>hk g hl (fun e=>by have:=h.pro g hg;rw[e,h.one.1]at this;omega) (hyn g hl z6la))
 ·intro g hg;have:=h.pro g hg;rw[hρ g (Bn h.pr g hg) z4va z4va];exact this
 ·exact h.lps.keep bl.length (fun g hl h5 _=>⟨hk g hl (fun e=>by rw[e,h.one.1]at h5;omega) (hyn g hl z4va),hρ g hl z4va z4va⟩) (Nat.le_refl _)
 ·intro g hg;rcases hg with hg|hg
  ·have h1:=hD0 g hg;have h2:=h.prot g h1.1;refine⟨Nat.lt_of_lt_of_le h2.1 hs,?_⟩;rw[Bm h2.1,if_neg h1.2,if_neg (fun e=>by have:=h4 g e;omega)];exact h2.2
  ·have h2:=Bn hv.own g hg;refine⟨Nat.lt_of_lt_of_le h2 hs,?_⟩;rw[Bm h2,if_neg (fun e=>by have:=hT g e;have:=h4 g hg;omega),if_pos hg]
 ·exact z4qa
 ·intro g hg;by_cases hl:g<w.heap.size
  ·rw[Bm hl]at hg;split at hg
   ·cases hg
   ·split at hg
    ·cases hg
    ·exact h.one.2 g hg
  ·rw[Hj z4va]at hg;cases hg
theorem z4aa {P:Prop} (h:P:=by
  show(if X K.wb then 0 else ρ K.wb)=1;rw[hρ _ z5ia];exact h.one.1):P:=h
theorem EC.Sv.more(h:K.Sv D w e ρ la ln lc pa pn pc bl){sa:Option Addr}{sn sc:Nat}(hv:Ho (dX w.heap.size ρ) K.wb K.te w (.slice K.fa K.fn K.fc) (.slice K.ga K.gn K.gc) (.slice la ln lc) (.slice pa pn pc) e.slots e.st sa sn sc)(X:Nat->Prop)
  (hX:∀g,X g->g<w.heap.size/\ρ g=4/\(Value.slice sa sn sc).ownBlock≠some g):∃ρ',K.Sv (fun g=>D g\/X g) w e ρ' la ln lc pa pn pc bl:=by
 classical
 have h4:=hv.Qy h.one.2;have hρ:∀g,ρ g≠4->(if X g then 0 else ρ g)=ρ g:=fun g hg=>if_neg (fun hx=>hg (hX g hx).2.1);refine⟨fun g=>if X g then 0 else ρ g,⟨sa,sn,sc,hv.cell,hv.own,?_,?_,fun g hg=>hg.1⟩,h.fr.weak (fun g hg=>.inl hg),h.gr.weak (fun g hg=>.inl hg),h.lr,?_,h.pr,?_,?_,?_,⟨?_,?_⟩,h.Br⟩
 ·intro hd;apply hd.2.1;exact z4aa
 ·intro g hg;refine⟨fun hd=>hd.2.2 ?_,(hv.D5 g hg).2⟩;show(if X g then 0 else ρ g)=4;rw[if_neg (fun hx=>(hX g hx).2.2 hg)];exact h4 g hg
 ·intro g hg;have:=h.lro g hg;show(if X g then 0 else ρ g)=2;rw[hρ _ z4va];exact this
 ·intro g hg;have:=h.pro g hg;show(if X g then 0 else ρ g)=3;rw[hρ _ z4va];exact this
 ·exact h.lps.keep bl.length (fun g _ h5 _=>⟨rfl,by show(if X g then 0 else ρ g)=ρ g;by_cases h4':ρ g=4 <;> first|omega|exact hρ g h4'⟩) (Nat.le_refl _)
 ·intro g hg;show _/\(if X g then 0 else ρ g)=0;rcases hg with hg|hg
  ·have:=h.prot g hg;refine⟨this.1,?_⟩;rw[hρ _ z4va];exact this.2
  ·exact⟨(hX g hg).1,if_pos hg⟩
 ·exact z4aa
 ·intro g hg;have hg:(if X g then 0 else ρ g)=1:=hg;split at hg
  ·cases hg
  ·exact h.one.2 g hg
theorem EC.St.alloc{lbs:List Nat}(h:K.St lbs D w e)(o:Obj):K.St lbs D (w.alloc o) e:=by
 obtain⟨ρ,la,ln,lc,pa,pn,pc,bl,h,hlb⟩:=h;exact⟨_,_,_,_,_,_,_,_,h.alloc o 5 (Nat.le_refl _),hlb⟩
theorem R8(w:World)(a:Addr)(v:Value):(w.setCell a v).os=w.os:=rfl
theorem A7e(w:World)(o:Obj):(w.alloc o).os=w.os:=rfl
theorem Abs(w:World):w.drew.os=w.os:=rfl
theorem Ra(w:World)(a:Addr)(v:Value):(w.setCell a v).tape=w.tape:=rfl
theorem A7g(w:World)(o:Obj):(w.alloc o).tape=w.tape:=rfl
theorem Abu(w:World):w.drew.tape=w.tape:=rfl
theorem R9(w:World)(a:Addr)(v:Value):(w.setCell a v).output=w.output:=rfl
theorem A7f(w:World)(o:Obj):(w.alloc o).output=w.output:=rfl
theorem Abt(w:World):w.drew.output=w.output:=rfl
theorem Wi(w:World):w.drew.heap=w.heap:=rfl
theorem z69a {P:Prop} (h:P:=by exact fun e=>hrbw e.symm):P:=h
theorem Aq6{D2:Nat->Prop}(h:K.Sv D2 w e ρ la ln lc pa pn pc []){sb:Option Addr}{sm sd:Nat}(hv:Ho (dX w.heap.size ρ) K.wb K.te w (.slice K.fa K.fn K.fc) (.slice K.ga K.gn K.gc) (.slice la ln lc) (.slice pa pn pc) e.slots e.st sb sm sd)(rb:Nat){slots:Nat}{st:List Ac}{sa:Option Addr}{sn sc:Nat}
  (hrow:w.ownsRow 0 251 8 (.slice sa sn sc) st.length (Ek st)) (hS2:∀g,(Value.slice sa sn sc).ownBlock=some g->D2 g) (hSD:∀g,(Value.slice sa sn sc).ownBlock=some g->¬D g) (J1:∀g,D g->D2 g) (hrb:D2 rb) (hrbD:¬D rb) (hrbS:(Value.slice sa sn sc).ownBlock≠some rb)
  (hfr:Ic D w K.fns K.fa K.fn K.fc) (hgr:Cw D w 9 1 (.slice K.ga K.gn K.gc) K.gl.length (Df K.gl)) (v0 v1 v2 v3:Value) (o:Obj) (W:World)
  (hW:W=(((((((w.setCell ⟨K.wb,4,none⟩ (.int .i64 (slots:Nat))).setCell ⟨K.wb,5,none⟩ (.slice sa sn sc)).setCell ⟨rb,0,none⟩ v0).setCell ⟨rb,1,none⟩ v1).setCell ⟨rb,2,none⟩ v2).setCell ⟨rb,3,none⟩ v3).alloc o).drew) :
  W.ownsRow 0 251 8 (.slice sb sm sd) e.st.length (Ek e.st)/\K.St [] (fun g=>D g\/(Value.slice sb sm sd).ownBlock=some g) W ⟨e.loc,slots,st,e.lps⟩/\A3 D w W:=by
 have hwb:=A5 hv.cell;have hrbw:rb≠K.wb:=fun e=>by have:=(h.prot rb hrb).2;rw[e,h.one.1]at this;cases this
 have hrl:=(h.prot rb hrb).1;have hsz:W.heap.size=w.heap.size+1:=by rw[hW,Wi];simp[World.setCell]
 have hk:∀g,g<w.heap.size->g≠K.wb->g≠rb->W.heap[g]?=w.heap[g]?:=by
  intro g hg h1 h2;rw[hW,Wi,Below.heap_alloc _ _ _ (by simp[World.setCell];exact hg),Below.heap_setCell _ _ _ _ (by exact h2),Below.heap_setCell _ _ _ _ (by exact h2),Below.heap_setCell _ _ _ _ (by exact h2),Below.heap_setCell _ _ _ _ (by exact h2),Below.heap_setCell _ _ _ _ (by exact h1),Below.heap_setCell _ _ _ _ (by exact h1)]
 have hcell:W.heap[K.wb]?=some (.cells #[.slice K.fa K.fn K.fc,.slice K.ga K.gn K.gc,.slice la ln lc,.slice pa pn pc,.int .i64 (slots:Nat),.slice sa sn sc] K.te (0,0)):=by
  rw[hW,Wi,Below.heap_alloc _ _ _ (by simp[World.setCell];exact hwb),Below.heap_setCell _ _ _ _ z69a,Below.heap_setCell _ _ _ _ z69a,Below.heap_setCell _ _ _ _ z69a,Below.heap_setCell _ _ _ _ z69a];have:=heap_set (j:=5) (heap_set (j:=4) hv.cell (.int .i64 (slots:Nat))) (.slice sa sn sc);rw[this];simp
 obtain⟨⟨ρ9,h9,_⟩,Db⟩:=h.swap hv D hrow (fun g hg=>(h.prot g (hS2 g hg)).2) (fun g hg=>⟨J1 g hg,fun e=>hSD g e hg⟩) hfr hgr hcell rb (.inl ⟨(h.prot rb hrb).2,hrbD,hrbS⟩) hk z4va (by simp only[hW,Abs,A7e,R8]) (by simp only[hW,Abu,A7g,Ra]) (by simp only[hW,Abt,A7f,R9]);have h4:=hv.Qy h.one.2;refine⟨B4 hv.own (fun g hg hl=>hk g hl (hv.D5 g hg).2 (fun e=>?_)),⟨_,_,_,_,_,_,_,_,h9,rfl⟩,Db⟩;have h1:=h4 g hg;rw[e,(h.prot rb hrb).2]at h1;cases h1
end
end Go.Proofs.YtjdlndhfaaolaaaGreatDoor
