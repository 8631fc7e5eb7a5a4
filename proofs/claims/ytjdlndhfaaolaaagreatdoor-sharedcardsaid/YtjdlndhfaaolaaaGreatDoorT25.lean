import Derived.Test.YtjdlndhfaaolaaaGreatDoorT24
set_option maxHeartbeats 20000000
namespace Go.Proofs.YtjdlndhfaaolaaaGreatDoor
section
set_option maxRecDepth 100000
open Go.RowKit
open Go.Deep (BT)
theorem Apw(K:EC)(l:A6)(c:BT A6)(hk:l.kd=9)(ih:D8 (Fm K) c)  (D:Nat->Prop) (w:World) (la:Option Addr) (ln lc:Nat) (ps:Value) (e:Em) (v:Value) (ks:List Value)
  (hst:K.Ex D w la ln lc ps e) (hn:Bx D w l v ks) (hr:Ao D w c ks) (hsz:e.st.length+2*bsize (nd l c)<=800000) :
  Calls Tryz.prog 91 #[.pointer (some ⟨K.wb,0,none⟩),v] w fun r w'=>r=.returned (.tuple #[])/\K.Ex D w' la ln lc ps (As K.fns K.gl l (Az c) (em K.fns K.gl c) e)/\A3 D w w':=by
 obtain⟨hlo,lcb,hncb⟩:=hst.lo;have hnds:=Co l c;unfold Bx at hn;rw[if_neg z51a]at hn;obtain⟨b,cs,rfl,hD,hb,hl⟩:=hn;have e1:Ck l.kd=296:=by rw[hk];rfl
 have e2:Dn l.kd=300:=by rw[hk];rfl
 rw[e1];rw[e2]at hb;unfold Cy at hl;simp only[hk]at hl;rw[s8 hk];obtain⟨sl,rfl,ho⟩:=hl;obtain⟨va,vn,vc,rfl⟩:∃va vn vc,sl=.slice va vn vc:=Nw ho.1;have hvn:vn=ks.length:=(Cg ho.1).1;have hkl:=hr.len;have hbl:=Nk c;rw[<-hkl];have hem:=(Od K.fns K.gl c).1 e;have HC:=A0 (A4r K c ih D w la ln lc ps e va vn vc ks hst ho hr z51a);have HBk:=A0 hb;have d1:=A2 hb 1 _ rfl;have ld:=A5 hb;have Dh:=Ar5;clear hst hb e1 e2 hk hr ih ho hkl hbl;subst hvn;generalize Hs:em K.fns K.gl c 0 e=C5 at *;unfold Ch;go_enter Tryz.func91,Tryz.ntmps91;go_wp2_with fail
 refine(HC.o).mono ?_;rintro r w1 ⟨rfl,Al,A1⟩;have A7:=A0 Al;have A4:=A0 A1;have Bu:=(A1.block b hD).trans HBk.o;clear Al A1 d1 ld;have d0:w1.cell? ⟨b,0,none⟩=some (.int .i64 (l.line:Nat)):=A2 Bu 0 _ rfl;have d1:=A2 Bu 1 _ rfl;have ld:=A5 Bu;clear Bu;go_wp2;refine Ic 10 (by kernel_rfl) (by kernel_rfl) ?_;simp only[List.take_succ_cons,List.take_zero,List.drop_succ_cons,List.drop_zero];iterate 10 (refine Ez (fun K' hK'=>?_);go_simp;refine hK' _ ?_;clear hK' K')
 refine Ib ?_;go_wp2_with fail
 refine(Ko (A7.o.drewN 1).ew z51a 36 (ks.length:Nat) l.line).mono ?_;rintro r w9 ⟨rfl,Fj,D1⟩;have HS9:=A0 ((A7.o.drewN 1).next (e':=(C5).step 36 (ks.length:Nat) l.line) D1 Fj rfl);exact z1ma
theorem Aqs(K:EC)(l:A6)(c:BT A6)(hk:l.kd=9)(ih:D8 (Fm K) c):Fm K l c:=by
 intro D w la ln lc ps e v ks hst hn hr hsz;have HM:=A0 (Apw K l c hk ih D w la ln lc ps e v ks hst hn hr hsz);obtain⟨hlo,lcb,hncb⟩:=hst.lo;unfold Bx at hn;rw[if_neg z51a]at hn;obtain⟨b,cs,rfl,hD,hb,hl⟩:=hn;have e1:Ck l.kd=296:=by rw[hk];rfl
 rw[e1]at HM ⊢;have ld:=A5 hb;have Dh:=L7 296 z52a;have Dz:=Lo 296 z52a;have Ep:=Ml 296 z52a;have Fk:=Nb 296 z52a;have G9:=Nc 296 z52a;have Hx:=Oz 296 z52a;have J6:=R3 296 z52a;have ta7:=Ss 296 z52a;exact z1ba
theorem Apt(K:EC)(l:A6)(c:BT A6)(hk:l.kd=7)(ih:D8 (Fm K) c)  (D:Nat->Prop) (w:World) (la:Option Addr) (ln lc:Nat) (ps:Value) (e:Em) (v:Value) (ks:List Value)
  (hst:K.Ex D w la ln lc ps e) (hn:Bx D w l v ks) (hr:Ao D w c ks) (hsz:e.st.length+2*bsize (nd l c)<=800000) :
  Calls Tryz.prog 91 #[.pointer (some ⟨K.wb,0,none⟩),v] w fun r w'=>r=.returned (.tuple #[])/\K.Ex D w' la ln lc ps (As K.fns K.gl l (Az c) (em K.fns K.gl c) e)/\A3 D w w':=by
 obtain⟨hlo,lcb,hncb⟩:=hst.lo;have hnds:=Co l c;unfold Bx at hn;rw[if_neg z51a]at hn;obtain⟨b,cs,rfl,hD,hb,hl⟩:=hn;have e1:Ck l.kd=301:=by rw[hk];rfl
 have e2:Dn l.kd=303:=by rw[hk];rfl
 rw[e1];rw[e2]at hb;unfold Cy at hl;simp only[hk]at hl;rw[s6 hk];obtain⟨sl,rfl,ho⟩:=hl;obtain⟨va,vn,vc,rfl⟩:∃va vn vc,sl=.slice va vn vc:=Nw ho.1;have hvn:vn=ks.length:=(Cg ho.1).1;have hkl:=hr.len;have hbl:=Nk c;have hem:=(Od K.fns K.gl c).1 e;have HC:=A0 (A4r K c ih D w la ln lc ps e va vn vc ks hst ho hr z51a);have HBk:=A0 hb;have d1:=A2 hb 2 _ rfl;have ld:=A5 hb;have Dh:=V6 301 z52a;have Dz:=Ar1;clear hst hb e1 e2 hk hr ih ho hkl hbl;subst hvn;generalize Hs:em K.fns K.gl c 0 e=C5 at *;unfold Ch;go_enter Tryz.func91,Tryz.ntmps91;go_wp2_with fail
 refine(HC.o).mono ?_;rintro r w1 ⟨rfl,Al,A1⟩;have A7:=A0 Al;have A4:=A0 A1;have Bu:=(A1.block b hD).trans HBk.o;clear Al A1 d1 ld;have HNum:=A0 (Apy (A7.o.drewN 1).ew (A7.o.drewN 1).fr l.s);have d0:w1.cell? ⟨b,0,none⟩=some (.int .i64 (l.line:Nat)):=A2 Bu 0 _ rfl;have d1:w1.cell? ⟨b,1,none⟩=some (.string ⟨l.s.toArray⟩):=A2 Bu 1 _ rfl;have ld:=A5 Bu;clear Bu;go_wp2;refine Ic 11 (by kernel_rfl) (by kernel_rfl) ?_;simp only[List.take_succ_cons,List.take_zero,List.drop_succ_cons,List.drop_zero];iterate 6 (refine Ez (fun K' hK'=>?_);go_simp;refine hK' _ ?_;clear hK' K')
 refine Ez (fun K' hK'=>?_);go_simp;refine⟨_,HNum.o,hK' _ ?_⟩;clear hK' K';iterate 4 (refine Ez (fun K' hK'=>?_);go_simp;refine hK' _ ?_;clear hK' K')
 refine Ib ?_;go_wp2_with fail
 refine(Ko (A7.o.drewN 1).ew z51a 42 (Nr K.fns l.s) l.line).mono ?_;rintro r w9 ⟨rfl,Fj,D1⟩;have HS9:=A0 ((A7.o.drewN 1).next (e':=(C5).step 42 (Nr K.fns l.s) l.line) D1 Fj rfl);exact z1ma
theorem Aqm(K:EC)(l:A6)(c:BT A6)(hk:l.kd=7)(ih:D8 (Fm K) c):Fm K l c:=by
 intro D w la ln lc ps e v ks hst hn hr hsz;have HM:=A0 (Apt K l c hk ih D w la ln lc ps e v ks hst hn hr hsz);obtain⟨hlo,lcb,hncb⟩:=hst.lo;unfold Bx at hn;rw[if_neg z51a]at hn;obtain⟨b,cs,rfl,hD,hb,hl⟩:=hn;have e1:Ck l.kd=301:=by rw[hk];rfl
 rw[e1]at HM ⊢;have ld:=A5 hb;have Dh:=L7 301 z52a;have Dz:=Lo 301 z52a;have Ep:=Ml 301 z52a;have Fk:=Nb 301 z52a;have G9:=Nc 301 z52a;have Hx:=Oz 301 z52a;have J6:=R3 301 z52a;have ta7:=Ss 301 z52a;exact z1ba
theorem Apm(K:EC):∀(c:BT A6),Wf 0 c->D8 (Fm K) c:=by
 intro c;induction c with
 | nil=>intro _;trivial
 | node x y l c r Ds D9=>
  intro h;have hx:=h.exs;have hc:=Ds hx.2.1;refine⟨?_,D9 h.1⟩;have hk:=hx.1;unfold It at hk;simp only[Bool.or_eq_true,Bool.and_eq_true,decide_eq_true_eq]at hk;by_cases hb:127<=l.kd
  ·exact Aql K l c hb z51a hc
  ·have Cm:l.kd=1\/l.kd=2\/l.kd=3\/l.kd=4\/l.kd=5\/l.kd=6\/l.kd=7\/l.kd=8\/l.kd=9\/l.kd=10\/l.kd=11\/l.kd=12\/l.kd=13\/l.kd=14:=by omega
   rcases Cm with h|h|h|h|h|h|h|h|h|h|h|h|h|h
   ·exact Aqq K l c h
   ·exact Aqx K l c h
   ·exact Aqy K l c h
   ·exact Aqn K l c h
   ·exact Aqv K l c h
   ·exact Aqz K l c h
   ·exact Aqm K l c h hc
   ·exact Aqo K l c h hc
   ·exact Aqs K l c h hc
   ·exact Aqr K l c h hc
   ·exact Aqw K l c h hc
   ·exact Aqp K l c h hc
   ·exact Aqu K l c h hc
   ·exact Aqt K l c h hc
end
section
set_option maxRecDepth 100000
open Go.RowKit
open Go.Deep (BT)
variable {K:EC} {lbs:List Nat} {D:Nat->Prop} {w w':World} {e e':Em}
theorem z3ka {P:Prop} (h:P:=by
  exact⟨rfl,⟨_,_,_,_,_,_,_,_,k1,hlb⟩,k2⟩):P:=h
theorem EC.St.step(h:K.St lbs D w e)(hn:e.st.length<=900000)(op:Nat)(arg:Int)(line:Nat) :
  Calls Tryz.prog 55 #[.pointer (some ⟨K.wb,0,none⟩),.int .i64 (op:Nat),.int .i64 arg,.int .i64 (line:Nat)] w fun r w'=>r=.returned (.int .i64 (e.st.length:Nat))/\K.St lbs D w' (e.step op arg line)/\A3 D w w':=by
 obtain⟨ρ,la,ln,lc,pa,pn,pc,bl,h,hlb⟩:=h;refine(Ko h.ew hn op arg line).mono ?_;rintro r w1 ⟨rfl,h1,h2⟩;obtain⟨k1,k2⟩:=h.Om h2 (h.N8.next (e':=e.step op arg line) h2 h1 rfl) rfl;exact z3ka
theorem EC.St.land(h:K.St lbs D w e)(j:Nat)(hj:j<e.st.length) :
  Calls Tryz.prog 140 #[.pointer (some ⟨K.wb,0,none⟩),.int .i64 (j:Nat)] w fun r w'=>r=.returned (.tuple #[])/\K.St lbs D w' (e.land j)/\A3 D w w':=by
 obtain⟨ρ,la,ln,lc,pa,pn,pc,bl,h,hlb⟩:=h;refine(V4 h.ew j hj).mono ?_;rintro r w1 ⟨rfl,h1,h2⟩;obtain⟨k1,k2⟩:=h.Om h2 (h.N8.next (e':=e.land j) h2 h1 rfl) rfl;exact z3ka
theorem EC.St.here(h:K.St lbs D w e):Calls Tryz.prog 92 #[.pointer (some ⟨K.wb,0,none⟩)] w fun r w'=>r=.returned (.int .i64 (e.st.length:Nat))/\w'=w:=by
 obtain⟨ρ,la,ln,lc,pa,pn,pc,bl,h,hlb⟩:=h;exact Ws h.ew
theorem EC.St.var(h:K.St lbs D w e)(hn:e.st.length<=900000)(s:Nm)(lo gb:Nat) :
  Calls Tryz.prog 88 #[.pointer (some ⟨K.wb,0,none⟩),.string ⟨s.toArray⟩,.int .i64 (lo:Nat),.int .i64 (gb:Nat)] w fun r w'=>r=.returned (.tuple #[])/\K.St lbs D w' (e.var K.gl s lo gb)/\A3 D w w':=by
 obtain⟨ρ,la,ln,lc,pa,pn,pc,bl,h,hlb⟩:=h;refine(A4y h.N8 hn s lo gb).mono ?_;rintro r w1 ⟨rfl,h1,h2⟩;obtain⟨k1,k2⟩:=h.Om h2 h1 (Pq _ _ _ _ _).1;exact z3ka
theorem EC.St.expr{l:A6}{c:BT A6}{v:Value}{ks:List Value}(h:K.St lbs D w e)(hk:It l.kd=true)(hw:Wf 0 c)(hn:Bx D w l v ks)(hr:Ao D w c ks)(hsz:e.st.length+2*bsize (nd l c)<=800000) :
  Calls Tryz.prog 54 #[.pointer (some ⟨K.wb,0,none⟩),v] w fun r w'=>r=.returned (.tuple #[])/\K.St lbs D w' (As K.fns K.gl l (Az c) (em K.fns K.gl c) e)/\A3 D w w':=by
 obtain⟨ρ,la,ln,lc,pa,pn,pc,bl,h,hlb⟩:=h;have hx:=(Apm K (nd l c) ⟨trivial,.inl ⟨.inl rfl,hk,hw⟩⟩).1;refine(hx _ w la ln lc _ e v ks h.N8 (hn.weak h.dx) (Ao.keep (fun g hg _=>⟨rfl,h.dx g hg⟩) _ _ hr) hsz).mono ?_;rintro r w1 ⟨rfl,h1,h2⟩;obtain⟨k1,k2⟩:=h.Om h2 h1 (No K.fns K.gl l c hk hw e).1;exact z3ka
theorem EC.St.drewN(h:K.St lbs D w e)(n:Nat):K.St lbs D (w.drewN n) e:=by
 obtain⟨ρ,la,ln,lc,pa,pn,pc,bl,h,hlb⟩:=h;obtain⟨k1,k2⟩:=h.Om (Dv _ w n) (h.N8.drewN n) rfl;exact⟨_,_,_,_,_,_,_,_,k1,hlb⟩
theorem EC.Sv.Ll{ρ:Nat->Nat}{la:Option Addr}{ln lc:Nat}{pa:Option Addr}{pn pc:Nat}{bl:List LB}{sa:Option Addr}{sn sc:Nat}(h:K.Sv D w e ρ la ln lc pa pn pc bl)(hv:Hl (dX w.heap.size ρ) K.wb K.te w (.slice K.fa K.fn K.fc) (.slice K.ga K.gn K.gc) (.slice la ln lc) (.slice pa pn pc) e.slots e.st sa sn sc) :
  G4 9 K.wb 2 w #[.slice K.fa K.fn K.fc,.slice K.ga K.gn K.gc,.slice la ln lc,.slice pa pn pc,.int .i64 (e.slots:Nat),.slice sa sn sc] K.te la ln lc (Dg e.loc):=h.N8.stk hv
theorem EC.Sv.Pp{ρ:Nat->Nat}{la:Option Addr}{ln lc:Nat}{pa:Option Addr}{pn pc:Nat}{bl:List LB}{sa:Option Addr}{sn sc:Nat}(h:K.Sv D w e ρ la ln lc pa pn pc bl)(hv:Hl (dX w.heap.size ρ) K.wb K.te w (.slice K.fa K.fn K.fc) (.slice K.ga K.gn K.gc) (.slice la ln lc) (.slice pa pn pc) e.slots e.st sa sn sc) :
  G4 260 K.wb 3 w #[.slice K.fa K.fn K.fc,.slice K.ga K.gn K.gc,.slice la ln lc,.slice pa pn pc,.int .i64 (e.slots:Nat),.slice sa sn sc] K.te pa pn pc (bl.map fun b=>Ch b.1).reverse:=
 ⟨hv.cell,rfl,h.pr,fun e=>by have:=h.pro _ e;have:=h.one.1;omega⟩
theorem A4t(h:K.St lbs D w e)(hn:e.loc.length+1<=100000)(s:Nm) :
  Calls Tryz.prog 81 #[.pointer (some ⟨K.wb,0,none⟩),.string ⟨s.toArray⟩] w fun r w'=>r=.returned (.int .i64 (e.loc.length:Nat))/\K.St lbs D w' (e.local' s)/\A3 D w w':=by
 obtain⟨ρ,la,ln,lc,pa,pn,pc,bl,h,hlb⟩:=h;obtain⟨sa,sn,sc,hv⟩:=h.ew;have lb:=A5 hv.cell;have HL:=A0 (Qv (h.Ll hv));have HPu:=A0 (Uw (h.Ll hv) (by rw[Ol];omega) ⟨s.toArray⟩ z56a);have HPL:=A0 (fun(w1:World) hp=>h.Ai6 s hv (w1:=w1) hn hp);rw[hlb]at HPL;rw[Ol]at HL;clear h hv;go_enter Tryz.func81,Tryz.ntmps81;go_wp2_with fail
 refine HL.o.mono ?_;rintro r w ⟨rfl,rfl⟩;go_wp2_with fail
 refine HPu.o.mono ?_;rintro r w1 ⟨rfl,hp⟩;have Bz:=A0 (HPL.o w1 hp);obtain⟨g,cap,Al,_,_⟩:=hp;have Fl:=A0 (Qv (w:=w1.drew) ⟨Al.blk,Al.cell,B8 Al.own (fun _ _ _=>rfl),Al.ne⟩);have c4:=A2 Al.blk 4 (.int .i64 (e.slots:Nat)) z56a;have Bp:=A5 Al.blk;have f1:=Bh Al.blk;rw[List.length_append,Ol]at Fl;clear Al HL HPu;go_wp2;refine Ic 11 (by kernel_rfl) (by kernel_rfl) ?_;simp only[List.take_succ_cons,List.take_zero,List.drop_succ_cons,List.drop_zero];iterate 9 (refine Ez (fun K' hK'=>?_);go_simp;refine hK' _ ?_;clear hK' K')
 refine Ez (fun K' hK'=>?_);go_simp;refine⟨_,Fl.o,hK' _ ?_⟩;clear hK' K';refine Ez (fun K' hK'=>?_);go_simp;have hmax:(if(e.slots:Int)<(e.loc.length:Int)+1 then(e.loc.length:Int)+1 else(e.slots:Int))=((max e.slots (e.loc.length+1):Nat):Int):=by
  split <;> omega
 rw[hmax];refine hK' _ ?_;clear hK' K' hmax;refine Ib ?_;go_wp2;go_ret;obtain⟨k1,k2⟩:=Bz.o;exact⟨rfl,k1.drewN 1,k2.trans (Dv D _ 1)⟩
def Kr(K:EC)(l:A6)(c:BT A6):Prop:=∀(lbs:List Nat) (D:Nat->Prop) (w:World) (e:Em) (v:Value) (ks:List Value),
 K.St lbs D w e->Bx D w l v ks->Ao D w c ks->Lp (nd l c) e.lps.length->Dk e->e.st.length+2*bsize (nd l c)<=800000->e.loc.length+bsize (nd l c)<=90000->e.lps.length+bsize (nd l c)<=90000->
 Calls Tryz.prog 56 #[.pointer (some ⟨K.wb,0,none⟩),v] w fun r w'=>r=.returned (.tuple #[])/\K.St lbs D w' (As K.fns K.gl l (Az c) (em K.fns K.gl c) e)/\A3 D w w'
theorem Lp.nd{x y:Nat}{l:A6}{c r:BT A6}{n:Nat}(h:Lp (.node x y l c r) n):Lp (nd l c) n:=⟨h.1,h.2.1,trivial⟩
theorem Lp.drop:∀(i:Nat) (c:BT A6) (n:Nat),Lp c n->Lp (Cd i c) n:=by
 intro i;induction i with
 | zero=>intro c n h;rw[show Cd 0 c=c from by cases c <;> rfl];exact h
 | succ i ih=>
  intro c n h;cases c with
  | nil=>exact h
  | node x y l c r=>exact ih r n h.2.2
end
section
set_option maxRecDepth 100000
open Go.RowKit
open Go.Deep (BT)
theorem A4x(K:EC)(c:BT A6)(hok:D8 (Kr K) c)(lbs:List Nat)(D:Nat->Prop)(w:World)(e:Em)(va:Option Addr)(vn vc:Nat)(ks:List Value)
  (hst:K.St lbs D w e) (hown:Cz D w 142 1 (.slice va vn vc) ks.length ks) (hrep:Ao D w c ks) (hlp:Lp c e.lps.length) (hbb:Dk e) (hsz:e.st.length+2*bsize c<=800000) (hlo:e.loc.length+bsize c<=90000) (hll:e.lps.length+bsize c<=90000) :
  Calls Tryz.prog 82 #[.pointer (some ⟨K.wb,0,none⟩),.slice va vn vc] w fun r w'=>r=.returned (.tuple #[])/\K.St lbs D w' (em K.fns K.gl c 0 e)/\A3 D w w':=by
 have hvn:vn=ks.length:=(Cg hown.1).1;subst hvn;have HSt0:=A0 hst;have HOwn:=A0 hown;have HRep:=A0 hrep;have hlen:=hrep.len;have HLen:=A0 hlen;have HLp:=A0 hlp;have hls:=Nk c;have hkl:ks.length<=400000:=by omega
 have HBb0:=A0 hbb;clear hst hown hrep hlen hlp hbb;go_enter Tryz.func82,Tryz.ntmps82;go_wp2;go_loopg [8] ks.length (fun k v wr=>∃(i:Nat) (ei:Em),v=.int .i64 i/\i+k=ks.length/\K.St lbs D wr ei/\em K.fns K.gl (Cd i c) 0 ei=em K.fns K.gl c 0 e/\ei.lps.length=e.lps.length/\Dk ei/\ei.st.length+2*bsize (Cd i c)<=800000/\ei.loc.length+bsize (Cd i c)<=90000/\bsize (Cd i c)<=bsize c/\A3 D w wr)
 case atStart=>exact⟨0,e,rfl,by omega,HSt0.o,rfl,rfl,HBb0.o,hsz,hlo,Nat.le_refl _,A3.refl _ _⟩
 case round=>
  clear HSt0 HBb0;obtain⟨i,ei,rfl,hik,hst,hse,hli,hbb,hsi,hci,hbi,hbel⟩:=hrel;have HBb:=A0 hbb;have HSt:=A0 hst;have HSe:=A0 hse;have HLi:=A0 hli;have HBel:=A0 hbel;clear hst hse hbel hli hbb;by_cases hlt:i<ks.length
  ·have hr:=HRep.o.Bv HBel.o;obtain⟨x,y,l,cc,r,hd,v,ks',hv,hn,hrk⟩:=Ao.at' i c ks hr z5na;obtain⟨g,rfl,_,hcap,lg,hcell⟩:=G2 (HOwn.o.Bv HBel.o).1 z51a;have d0:=hcell i v hv;have hE:=A0 (hok.at' i c x y l cc r hd);have hz:bsize (Cd i c)=bsize (nd l cc)+bsize r:=by rw[hd,Co,bsize]
   have hdn:=Oc i c x y l cc r hd;have HNx:Hid (em K.fns K.gl (Cd (i+1) c) 0 (As K.fns K.gl l (Az cc) (em K.fns K.gl cc) ei)=em K.fns K.gl c 0 e):=by
    show _=_;rw[hdn,<-HSe.o,hd,Ie]
   have hsn:(As K.fns K.gl l (Az cc) (em K.fns K.gl cc) ei).st.length+2*bsize (Cd (i+1) c)<=800000:=by
    have:=Gk K.fns K.gl l cc ei;rw[hdn];omega
   have hcn:(As K.fns K.gl l (Az cc) (em K.fns K.gl cc) ei).loc.length+bsize (Cd (i+1) c)<=90000/\bsize (Cd (i+1) c)<=bsize c:=by
    have:=Abv K.fns K.gl l cc ei;rw[hdn];omega
   have HLn:Hid ((As K.fns K.gl l (Az cc) (em K.fns K.gl cc) ei).lps.length=e.lps.length):=(y9 K.fns K.gl l cc ei).trans HLi.o;have hlpn:Lp (nd l cc) ei.lps.length:=by
    have:=Lp.drop i c _ HLp.o;rw[hd,<-HLi.o]at this;exact this.nd
   have HC:=A0 (hE.out lbs D wr ei v ks' HSt.o hn hrk hlpn HBb.o z51a z51a (by have:=HLi.o;omega));have HSn:=A0 hsn;have HBn:=A0 (Tq K.fns K.gl l cc ei HBb.o);have HCn:=A0 hcn;clear hr hd hv hn hrk hcell hsn hz hcn hdn hlpn;go_wp2_with fail
   refine HC.o.mono ?_;rintro r' w1 ⟨rfl,Al,A1⟩;have A7:=A0 Al;have A4:Hid (A3 D w w1):=HBel.o.trans A1;clear Al A1;go_wp2;go_roundg (gk-1)
   case measure=>omega
   case rel=>exact⟨i+1,_,rfl,by omega,A7.o,HNx.o,HLn.o,HBn.o,HSn.o,HCn.o.1,HCn.o.2,A4.o⟩
  ·have HE:Hid (ei=em K.fns K.gl c 0 e):=by
    exact z0sa
   exact z2wa
theorem Sp(K:EC)(c:BT A6)(hok:D8 (Kr K) c)(lbs:List Nat)(D:Nat->Prop)(w:World)(e:Em)(va:Option Addr)(vn vc:Nat)(ks:List Value)
  (hst:K.St lbs D w e) (hown:Cz D w 142 1 (.slice va vn vc) ks.length ks) (hrep:Ao D w c ks) (hlp:Lp c e.lps.length) (hbb:Dk e) (hsz:e.st.length+2*bsize c<=800000) (hlo:e.loc.length+bsize c<=90000) (hll:e.lps.length+bsize c<=90000) :
  Calls Tryz.prog 143 #[.pointer (some ⟨K.wb,0,none⟩),.slice va vn vc] w fun r w'=>r=.returned (.tuple #[])/\K.St lbs D w' ((em K.fns K.gl c 0 e).cut e.loc.length)/\A3 D w w':=by
 have HC:=A0 (A4x K c hok lbs D w e va vn vc ks hst hown hrep hlp hbb hsz hlo hll);have hlb:=hst.lo.2.1;have hl1:e.loc.length<=(em K.fns K.gl c 0 e).loc.length:=Ac2 K.fns K.gl c 0 e;obtain⟨ρ,la,ln,lc,pa,pn,pc,bl,h,_⟩:=hst;obtain⟨sa,sn,sc,hv⟩:=h.ew;have HL:=A0 (Qv (h.Ll hv));rw[Ol]at HL;clear h hv hown hrep hlp hbb;go_enter Tryz.func143,Tryz.ntmps143;go_wp2_with fail
 refine HL.o.mono ?_;rintro r w ⟨rfl,rfl⟩;go_wp2_with fail
 refine HC.o.mono ?_;rintro r w1 ⟨rfl,Al,A1⟩;have hlb1:=Al.lo.2.1;have A4:=A0 A1;obtain⟨ρ,la,ln,lc,pa,pn,pc,bl,h,hlb⟩:=Al;obtain⟨sa,sn,sc,hv⟩:=h.ew;have HCut:=A0 (Y2 (h.Ll hv) e.loc.length (by rw[Ol];exact hl1) z56a);have HTo:=A0 (fun(w2:World) hp=>h.Zy e.loc.length hv (w':=w2) hp);rw[hlb]at HTo;clear h hv A1;go_wp2_with fail
 refine HCut.o.mono ?_;rintro r w2 ⟨rfl,hp⟩;obtain⟨k1,k2⟩:=HTo.o w2 hp;have Aj:=A0 k1;have Aa:Hid (A3 D w w2):=A4.o.trans k2;clear hp k1 k2;go_wp2;go_end0;exact z3ba
theorem z1qa {P:Prop} (h:P:=by
  rintro r w2 ⟨rfl,B5,A8⟩;have Aj:=A0 B5;have Aa:Hid (A3 D w w2):=A4.o.trans A8;clear B5 A8;go_wp2;go_end0;subst Hs;exact⟨rfl,Aj.o,Aa.o⟩):P:=h
theorem Aqc(K:EC)(l:A6)(c:BT A6)(hk:l.kd=27)(hwf:Wf 0 c):Kr K l c:=by
 intro lbs D w e v ks hst hn hr hlp hbb hsz hlo hll;obtain⟨hlw,lcb,hncb⟩:=hst.lo;have hnds:=Co l c;unfold Bx at hn;rw[if_neg z51a]at hn;obtain⟨b,cs,rfl,hD,hb,hl⟩:=hn;have e1:Ck l.kd=265:=by rw[hk];rfl
 have e2:Dn l.kd=267:=by rw[hk];rfl
 rw[e1];rw[e2]at hb;unfold Cy at hl;simp only[hk]at hl;rw[n9 hk];obtain⟨a,rfl,rfl⟩:=hl;obtain⟨x1,y1,l1,c1,r1,De,rfl,Bk,Au,hz⟩:=hr.cons';obtain rfl:=hz.nil';have C1:bsize (.node x1 y1 l1 c1 .nil)=bsize (nd l1 c1):=by rw[Co,bsize];rfl
 have hlen1:=Gk K.fns K.gl l1 c1 e;have hloc1:(As K.fns K.gl l1 (Az c1) (em K.fns K.gl c1) e).loc.length<=e.loc.length:=by rw[(No K.fns K.gl l1 c1 hwf.exs.1 hwf.exs.2.1 e).2.1];exact Nat.le_refl _
 have hxs:=hwf.exs;rw[Ie,em];have HC:=A0 (hst.expr hxs.1 hxs.2.1 Bk Au z51a);have HBk:=A0 hb;have d1:=A2 hb 1 a rfl;have ld:=A5 hb;have Dh:=N4 265 z52a;have Dz:=Ov 265 z52a;have Ep:=Pn 265 z52a;have Fk:=Qw 265 z52a;have G9:=Sh 265 z52a;have Hx:=Uu 265 z52a;have J6:=Alg;clear hst hb e1 e2 hk hr Bk Au hz hwf hxs hlp hbb;generalize Hs:As K.fns K.gl l1 (Az c1) (em K.fns K.gl c1) e=C5 at *;unfold Ch;go_enter Tryz.func56,Tryz.ntmps56;go_wp2_with fail
 refine(HC.o).mono ?_;rintro r w1 ⟨rfl,Al,A1⟩;have A7:=A0 Al;have A4:=A0 A1;have Bu:=(A1.block b hD).trans HBk.o;have HBk1:=A0 Bu;clear Al A1 d1 ld;have d0:w1.cell? ⟨b,0,none⟩=some (.int .i64 (l.line:Nat)):=A2 Bu 0 _ rfl;have ld:=A5 Bu;clear Bu;go_wp2_with fail
 refine(A7.o.step z51a 41 0 l.line).mono ?_;exact z1qa
theorem Aq8(K:EC)(l:A6)(c:BT A6)(hk:l.kd=30)(hwf:Wf 0 c):Kr K l c:=by
 intro lbs D w e v ks hst hn hr hlp hbb hsz hlo hll;obtain⟨hlw,lcb,hncb⟩:=hst.lo;have hnds:=Co l c;unfold Bx at hn;rw[if_neg z51a]at hn;obtain⟨b,cs,rfl,hD,hb,hl⟩:=hn;have e1:Ck l.kd=270:=by rw[hk];rfl
 have e2:Dn l.kd=272:=by rw[hk];rfl
 rw[e1];rw[e2]at hb;unfold Cy at hl;simp only[hk]at hl;rw[o9 hk];obtain⟨a,rfl,rfl⟩:=hl;obtain⟨x1,y1,l1,c1,r1,De,rfl,Bk,Au,hz⟩:=hr.cons';obtain rfl:=hz.nil';have C1:bsize (.node x1 y1 l1 c1 .nil)=bsize (nd l1 c1):=by rw[Co,bsize];rfl
 have hlen1:=Gk K.fns K.gl l1 c1 e;have hloc1:(As K.fns K.gl l1 (Az c1) (em K.fns K.gl c1) e).loc.length<=e.loc.length:=by rw[(No K.fns K.gl l1 c1 hwf.exs.1 hwf.exs.2.1 e).2.1];exact Nat.le_refl _
 have hxs:=hwf.exs;rw[Ie,em];have HC:=A0 (hst.expr hxs.1 hxs.2.1 Bk Au z51a);have HBk:=A0 hb;have d1:=A2 hb 0 a rfl;have ld:=A5 hb;have Dh:=N4 270 z52a;have Dz:=Ov 270 z52a;have Ep:=Pn 270 z52a;have Fk:=Qw 270 z52a;have G9:=Sh 270 z52a;have Hx:=Uu 270 z52a;have J6:=Y8 270 z52a;have ta7:=Am5 270 z52a;have ta8:=Ald;clear hst hb e1 e2 hk hr Bk Au hz hwf hxs hlp hbb;generalize Hs:As K.fns K.gl l1 (Az c1) (em K.fns K.gl c1) e=C5 at *;unfold Ch;go_enter Tryz.func56,Tryz.ntmps56;go_wp2_with fail
 refine(HC.o).mono ?_;rintro r w1 ⟨rfl,Al,A1⟩;have A7:=A0 Al;have A4:=A0 A1;clear Al A1 d1 ld;go_wp2_with fail
 refine(A7.o.step z51a 5 0 0).mono ?_;exact z1qa
theorem Aqb(K:EC)(l:A6)(c:BT A6)(hk:l.kd=21)(hwf:Wf 0 c):Kr K l c:=by
 intro lbs D w e v ks hst hn hr hlp hbb hsz hlo hll;obtain⟨hlw,lcb,hncb⟩:=hst.lo;have hnds:=Co l c;unfold Bx at hn;rw[if_neg z51a]at hn;obtain⟨b,cs,rfl,hD,hb,hl⟩:=hn;have e1:Ck l.kd=145:=by rw[hk];rfl
 have e2:Dn l.kd=152:=by rw[hk];rfl
 rw[e1];rw[e2]at hb;unfold Cy at hl;simp only[hk]at hl;rw[Abs hk];obtain⟨a,rfl,rfl⟩:=hl;obtain⟨x1,y1,l1,c1,r1,De,rfl,Bk,Au,hz⟩:=hr.cons';obtain rfl:=hz.nil';have C1:bsize (.node x1 y1 l1 c1 .nil)=bsize (nd l1 c1):=by rw[Co,bsize];rfl
 have hlen1:=Gk K.fns K.gl l1 c1 e;have hloc1:(As K.fns K.gl l1 (Az c1) (em K.fns K.gl c1) e).loc.length<=e.loc.length:=by rw[(No K.fns K.gl l1 c1 hwf.exs.1 hwf.exs.2.1 e).2.1];exact Nat.le_refl _
 have hxs:=hwf.exs;rw[Ie,em];have HC:=A0 (hst.expr hxs.1 hxs.2.1 Bk Au z51a);have HBk:=A0 hb;have d1:=A2 hb 2 a rfl;have ld:=A5 hb;have Dh:=A3p;clear hst hb e1 e2 hk hr Bk Au hz hwf hxs hlp hbb;generalize Hs:As K.fns K.gl l1 (Az c1) (em K.fns K.gl c1) e=C5 at *;unfold Ch;go_enter Tryz.func56,Tryz.ntmps56;go_wp2_with fail
 refine(HC.o).mono ?_;rintro r w1 ⟨rfl,Al,A1⟩;have A7:=A0 Al;have A4:=A0 A1;have Bu:=(A1.block b hD).trans HBk.o;have HBk1:=A0 Bu;clear Al A1 d1 ld;have d0:w1.cell? ⟨b,1,none⟩=some (.string ⟨l.s.toArray⟩):=A2 Bu 1 _ rfl;have ld:=A5 Bu;clear Bu;go_wp2_with fail
 refine(A4t A7.o z51a l.s).mono ?_;rintro r w2 ⟨rfl,B5,A8⟩;have Aj:=A0 B5;have Aa:Hid (A3 D w w2):=A4.o.trans A8;clear B5 A8;go_wp2_with fail
 refine(Aj.o.step (by show C5.st.length<=_;omega) 3 (C5.loc.length:Nat) 0).mono ?_;rintro r w3 ⟨rfl,Ca,Ak⟩;have Bg:=A0 Ca;have Ay:Hid (A3 D w w3):=Aa.o.trans Ak;clear Ca Ak;go_wp2;go_end0;subst Hs;exact z4aa
theorem Aqh(K:EC)(l:A6)(c:BT A6)(hk:l.kd=24)(hwf:Wf 0 c)  (lbs:List Nat) (D:Nat->Prop) (w:World) (e:Em) (b:Nat) (a:Value) (ks:List Value) (hst:K.St lbs D w e) (hb:w.heap[b]?=some (.cells #[.int .i64 (l.line:Nat),a] 318 (0,0))) (hks:(ks=[]/\a=.nilIface)\/ks=[a]) (hr:Ao D w c ks) (hsz:e.st.length+2*bsize (nd l c)<=800000) :
  Calls Tryz.prog 95 #[.pointer (some ⟨K.wb,0,none⟩),.pointer (some ⟨b,0,none⟩)] w fun r w'=>r=.returned (.tuple #[])/\K.St lbs D w' (As K.fns K.gl l (Az c) (em K.fns K.gl c) e)/\A3 D w w':=by
 obtain⟨hlw,lcb,hncb⟩:=hst.lo;have hnds:=Co l c;rw[l8 hk];have d1:=A2 hb 1 _ rfl;have ld:=A5 hb;have HBk:=A0 hb;rcases hks with⟨rfl,rfl⟩|rfl
 ·rw[hr.nil'];have HC:=A0 (hst.step z51a 43 0 0);clear hst hb hr hwf hk;go_enter Tryz.func95,Tryz.ntmps95;go_wp2_with fail
  refine HC.o.mono ?_;rintro r w1 ⟨rfl,Al,A1⟩;have A7:=A0 Al;have A4:=A0 A1;clear Al A1;go_wp2;refine bodyPost_ret (v:=.tuple #[]) (by simp[results,Tryz.results95,go_sem]) rfl ?_;exact⟨rfl,A7.o,A4.o⟩
 ·obtain⟨x1,y1,l1,c1,r1,De,rfl,Bk,Au,hz⟩:=hr.cons';obtain rfl:=hz.nil';have hxs:=hwf.exs;have C1:bsize (.node x1 y1 l1 c1 .nil)=bsize (nd l1 c1):=by rw[Co,bsize];rfl
  have hlen1:=Gk K.fns K.gl l1 c1 e;rw[if_neg (by simp[Az]),Ie,em];obtain⟨t,x,rfl⟩:∃t x,a=.iface t x:=Bk.isIface (Of hxs.1).1 (Of hxs.1).2.1;have HC:=A0 (hst.expr hxs.1 hxs.2.1 Bk Au z51a);clear hst hb hr hwf hk Bk Au hz hxs;generalize Hs:As K.fns K.gl l1 (Az c1) (em K.fns K.gl c1) e=C5 at *;go_enter Tryz.func95,Tryz.ntmps95;go_wp2_with fail
  refine HC.o.mono ?_;rintro r w1 ⟨rfl,Al,A1⟩;have A7:=A0 Al;have A4:=A0 A1;clear Al A1;go_wp2_with fail
  refine(A7.o.step z51a 44 0 0).mono ?_;exact z1qa
theorem z3aa {P:Prop} (h:P:=by
  unfold Ch;go_enter Tryz.func56,Tryz.ntmps56;go_wp2_with fail
  refine(HC.o).mono ?_;exact z0ia):P:=h
theorem Aqa(K:EC)(l:A6)(c:BT A6)(hk:l.kd=24)(hwf:Wf 0 c):Kr K l c:=by
 intro lbs D w e v ks hst hn hr hlp hbb hsz hlo hll;obtain⟨hlw,lcb,hncb⟩:=hst.lo;have hnds:=Co l c;unfold Bx at hn;rw[if_neg z51a]at hn;obtain⟨b,cs,rfl,hD,hb,hl⟩:=hn;have e1:Ck l.kd=257:=by rw[hk];rfl
 have e2:Dn l.kd=318:=by rw[hk];rfl
 rw[e1];rw[e2]at hb;unfold Cy at hl;simp only[hk]at hl;obtain⟨a,rfl,hks⟩:=hl;have HC:=A0 (Aqh K l c hk hwf lbs D w e b a ks hst hb hks hr hsz);have ld:=A5 hb;have Dh:=N4 257 z52a;have Dz:=Ov 257 z52a;have Ep:=Pn 257 z52a;have Fk:=Alh;clear hst hb e1 e2 hk hr hwf hlp hbb hks;exact z3aa
theorem Aqk(K:EC)(l:A6)(c:BT A6)(hk:l.kd=28)(hwf:Wf 0 c)(lbs:List Nat)(D:Nat->Prop)(w:World)(e:Em)(b:Nat)(b2:Nat)(a:Value)(Iz:D b2)(hb:w.heap[b]?=some (.cells #[.iface 238 (Ch b2),a] 322 (0,0)))(A8:w.heap[b2]?=some (.cells #[Ge l.line,L6 l.s] 240 (0,0)))(hr:Ao D w c [a])(hst:K.St lbs D w e)(hsz:e.st.length+2*bsize (nd l c)<=800000) :
  Calls Tryz.prog 97 #[.pointer (some ⟨K.wb,0,none⟩),.pointer (some ⟨b,0,none⟩)] w fun r w'=>r=.returned (.tuple #[])/\K.St lbs D w' (As K.fns K.gl l (Az c) (em K.fns K.gl c) e)/\A3 D w w':=by
 obtain⟨hlw,lcb,hncb⟩:=hst.lo;have hnds:=Co l c;rw[o6 hk];obtain⟨x1,y1,l1,c1,r1,De,rfl,Bk,Au,hz⟩:=hr.cons';obtain rfl:=hz.nil';have hxs:=hwf.exs;have C1:bsize (.node x1 y1 l1 c1 .nil)=bsize (nd l1 c1):=by rw[Co,bsize];rfl
 have hlen1:=Gk K.fns K.gl l1 c1 e;rw[Ie,em];have HC:=A0 (hst.expr hxs.1 hxs.2.1 Bk Au z51a);have Aa:=A0 A8;have d0:=A2 hb 0 _ rfl;have d1:=A2 hb 1 a rfl;have ld:=A5 hb;have Dh:=A52;clear hst hb hr hwf hk Bk Au hz hxs A8;generalize Hs:As K.fns K.gl l1 (Az c1) (em K.fns K.gl c1) e=C5 at *;unfold Ch at d0;go_enter Tryz.func97,Tryz.ntmps97;go_wp2_with fail
 refine(HC.o).mono ?_;rintro r w1 ⟨rfl,Al,A1⟩;have A7:=A0 Al;have A4:=A0 A1;have Bu:=(A1.block b2 Iz).trans Aa.o;clear Al A1 d0 d1 ld;have d1:w1.cell? ⟨b2,1,none⟩=some (.string ⟨l.s.toArray⟩):=A2 Bu 1 _ rfl;have ld:=A5 Bu;clear Bu;go_wp2_with fail
 refine(A7.o.var z51a l.s 3 4).mono ?_;rintro r w2 ⟨rfl,B5,A8⟩;have Aj:=A0 B5;have HBB:Hid (A3 D w w2):=A4.o.trans A8;clear B5 A8;go_wp2;go_end0;subst Hs;exact⟨rfl,Aj.o,HBB.o⟩
theorem z1ja {P:Prop} (h:P:=by
  have ld:=A5 hb;have Dh:=N4 268 z52a;have Dz:=Ov 268 z52a;have Ep:=Pn 268 z52a;have Fk:=Qw 268 z52a;have G9:=Sh 268 z52a;have Hx:=Uu 268 z52a;have J6:=Y8 268 z52a;have ta7:=A3q;clear hst hb e1 e2 hk hr hlp hbb hwf A8;unfold Ch;go_enter Tryz.func56,Tryz.ntmps56;go_wp2_with fail
  refine(HC.o).mono ?_;exact z0ia):P:=h
theorem Aqe(K:EC)(l:A6)(c:BT A6)(hk:l.kd=28)(hwf:Wf 0 c):Kr K l c:=by
 intro lbs D w e v ks hst hn hr hlp hbb hsz hlo hll;obtain⟨hlw,lcb,hncb⟩:=hst.lo;have hnds:=Co l c;unfold Bx at hn;rw[if_neg z51a]at hn;obtain⟨b,cs,rfl,hD,hb,hl⟩:=hn;have e1:Ck l.kd=268:=by rw[hk];rfl
 have e2:Dn l.kd=322:=by rw[hk];rfl
 rw[e1];rw[e2]at hb;unfold Cy at hl;simp only[hk]at hl;obtain⟨b2,a,rfl,Iz,A8,rfl⟩:=hl;have HC:=A0 (Aqk K l c hk hwf lbs D w e b b2 a Iz hb A8 hr hst hsz);exact z1ja
theorem Aqj(K:EC)(l:A6)(c:BT A6)(hk:l.kd=29)(hwf:Wf 0 c)(lbs:List Nat)(D:Nat->Prop)(w:World)(e:Em)(b:Nat)(b2:Nat)(o p a:Value)(hD:D b)(Iz:D b2)(hb:w.heap[b]?=some (.cells #[.iface 310 (Ch b2),a] 322 (0,0)))(A8:w.heap[b2]?=some (.cells #[Ge l.line,o,p] 312 (0,0)))(hr:Ao D w c [o,p,a])(hst:K.St lbs D w e)(hsz:e.st.length+2*bsize (nd l c)<=800000) :
  Calls Tryz.prog 97 #[.pointer (some ⟨K.wb,0,none⟩),.pointer (some ⟨b,0,none⟩)] w fun r w'=>r=.returned (.tuple #[])/\K.St lbs D w' (As K.fns K.gl l (Az c) (em K.fns K.gl c) e)/\A3 D w w':=by
 obtain⟨hlw,lcb,hncb⟩:=hst.lo;have hnds:=Co l c;rw[o7 hk];obtain⟨x1,y1,l1,c1,r1,De,rfl,Bk,Au,hz⟩:=hr.cons';obtain⟨x2,y2,l2,c2,r2,Gm,rfl,Dm,B7,C9⟩:=hz.cons';obtain⟨x3,y3,l3,c3,r3,ks3,rfl,hn3,Cj,G1⟩:=C9.cons';obtain rfl:=G1.nil';have E1:=hwf.exs;have Fp:=E1.2.2.exs;have hx3:=Fp.2.2.exs;have C1:bsize (.node x1 y1 l1 c1 (.node x2 y2 l2 c2 (.node x3 y3 l3 c3 .nil)))=bsize (nd l1 c1)+bsize (nd l2 c2)+bsize (nd l3 c3):=by rw[Co,Co,Co,bsize,bsize,bsize,bsize];omega
 rw[Ie,Ie,Ie,em];have hl1:=Gk K.fns K.gl l1 c1 e;have Gs:=Gk K.fns K.gl l2 c2 (As K.fns K.gl l1 (Az c1) (em K.fns K.gl c1) e);have hl3:=Gk K.fns K.gl l3 c3 (As K.fns K.gl l2 (Az c2) (em K.fns K.gl c2) (As K.fns K.gl l1 (Az c1) (em K.fns K.gl c1) e));have Ia:=A0 (hst.expr E1.1 E1.2.1 Bk Au z51a);have Fb:=A0 (fun(W:World) (e2:Em) (he:e2.st.length+2*bsize (nd l2 c2)<=800000) (hx:K.St lbs D W e2) (hbd:A3 D w W)=>hx.expr Fp.1 Fp.2.1 (Dm.Bv hbd) (B7.Bv hbd) he);have HC3:=A0 (fun(W:World) (e2:Em) (he:e2.st.length+2*bsize (nd l3 c3)<=800000) (hx:K.St lbs D W e2) (hbd:A3 D w W)=>hx.expr hx3.1 hx3.2.1 (hn3.Bv hbd) (Cj.Bv hbd) he);have HBk:=A0 hb;have HBj:=A0 A8;have d0:=A2 hb 0 _ rfl;have ld:=A5 hb;have g1:=A2 A8 1 o rfl;have lg:=A5 A8;have Dh:=Nc 310 z52a;have Dz:=A50;clear hst hb hr hwf hk Bk Au hz A8 Dm B7 C9 hn3 Cj G1 E1 Fp hx3;generalize Hs:As K.fns K.gl l1 (Az c1) (em K.fns K.gl c1) e=C5 at *;generalize hE2:As K.fns K.gl l2 (Az c2) (em K.fns K.gl c2) C5=Fh at *;generalize hE3:As K.fns K.gl l3 (Az c3) (em K.fns K.gl c3) Fh=em3 at *;unfold Ch at d0;go_enter Tryz.func97,Tryz.ntmps97;go_wp2_with fail
 refine(Ia.o).mono ?_;rintro r w1 ⟨rfl,Al,A1⟩;have A7:=A0 Al;have A4:=A0 A1;have hbj1:=(A1.block b2 Iz).trans HBj.o;have HBj1:=A0 hbj1;have HBk1:=A0 ((A1.block b hD).trans HBk.o);clear Al A1 d0 g1 ld lg;have g2:=A2 hbj1 2 p rfl;have lg:=A5 hbj1;clear hbj1;go_wp2_with fail
 refine(Fb.o _ _ z51a A7.o A4.o).mono ?_;rintro r w2 ⟨rfl,B5,A8⟩;rw[hE2]at B5;have Aj:=A0 B5;have Aa:Hid (A3 D w w2):=A4.o.trans A8;have Dd:=(A8.block b hD).trans HBk1.o;have HBj2:=A0 ((A8.block b2 Iz).trans HBj1.o);clear B5 A8 g2 lg;have d1:=A2 Dd 1 a rfl;have ld:=A5 Dd;clear Dd;go_wp2_with fail
 refine(HC3.o _ _ z51a Aj.o Aa.o).mono ?_;rintro r w3 ⟨rfl,Ca,Ak⟩;rw[hE3]at Ca;have Bg:=A0 Ca;have Ay:Hid (A3 D w w3):=Aa.o.trans Ak;have hbj3:=(Ak.block b2 Iz).trans HBj2.o;clear Ca Ak d1 ld;have g0:w3.cell? ⟨b2,0,none⟩=some (.int .i64 (l.line:Nat)):=A2 hbj3 0 _ rfl;have lg:=A5 hbj3;clear hbj3;go_wp2_with fail
 refine(Bg.o.step z51a 40 0 l.line).mono ?_;rintro r w4 ⟨rfl,Fi,Ba⟩;exact z4za
theorem Aqd(K:EC)(l:A6)(c:BT A6)(hk:l.kd=29)(hwf:Wf 0 c):Kr K l c:=by
 intro lbs D w e v ks hst hn hr hlp hbb hsz hlo hll;obtain⟨hlw,lcb,hncb⟩:=hst.lo;have hnds:=Co l c;unfold Bx at hn;rw[if_neg z51a]at hn;obtain⟨b,cs,rfl,hD,hb,hl⟩:=hn;have e1:Ck l.kd=268:=by rw[hk];rfl
 have e2:Dn l.kd=322:=by rw[hk];rfl
 rw[e1];rw[e2]at hb;unfold Cy at hl;simp only[hk]at hl;obtain⟨b2,o,p,a,rfl,Iz,A8,rfl⟩:=hl;have HC:=A0 (Aqj K l c hk hwf lbs D w e b b2 o p a hD Iz hb A8 hr hst hsz);exact z1ja
def Py(K:EC)(l:A6)(c:BT A6):Prop:=(l.kd=31\/l.kd=32)->D8 (Kr K) c
theorem Ab4(d:Em):d.cut d.loc.length=d:=by
 unfold Em.cut;rw[List.take_length]
theorem Nn(n:Nat)(e:Em):(e.cut n).st.length=e.st.length:=rfl
theorem Abq(fns:List (Nm×Nat))(gl:List Nm)(line x1 y1 x2 y2:Nat)(l1 l2:A6)(c1 c2:BT A6)(e:Em)(h31:l2.kd=31) :
  Ld line (Az (.node x1 y1 l1 c1 (.node x2 y2 l2 c2 .nil))) (em fns gl (.node x1 y1 l1 c1 (.node x2 y2 l2 c2 .nil))) e =
   ((((em fns gl c2 0 ((As fns gl l1 (Az c1) (em fns gl c1) e).step 8 0 line)).cut (As fns gl l1 (Az c1) (em fns gl c1) e).loc.length).step 6 0 0).land (As fns gl l1 (Az c1) (em fns gl c1) e).st.length).land (em fns gl c2 0 ((As fns gl l1 (Az c1) (em fns gl c1) e).step 8 0 line)).st.length:=by
 simp[Ld,Q5,Ts,Az,Tp h31];rfl
theorem Abr(fns:List (Nm×Nat))(gl:List Nm)(line x1 y1 x2 y2 x3 y3:Nat)(l1 l2 l3:A6)(c1 c2 c3:BT A6)(e:Em)(h31:l2.kd=31)(h32:l3.kd=31) :
  Ld line (Az (.node x1 y1 l1 c1 (.node x2 y2 l2 c2 (.node x3 y3 l3 c3 .nil)))) (em fns gl (.node x1 y1 l1 c1 (.node x2 y2 l2 c2 (.node x3 y3 l3 c3 .nil)))) e =
   ((em fns gl c3 0 ((((em fns gl c2 0 ((As fns gl l1 (Az c1) (em fns gl c1) e).step 8 0 line)).cut (As fns gl l1 (Az c1) (em fns gl c1) e).loc.length).step 6 0 0).land (As fns gl l1 (Az c1) (em fns gl c1) e).st.length)).cut
    ((em fns gl c2 0 ((As fns gl l1 (Az c1) (em fns gl c1) e).step 8 0 line)).cut (As fns gl l1 (Az c1) (em fns gl c1) e).loc.length).loc.length).land (em fns gl c2 0 ((As fns gl l1 (Az c1) (em fns gl c1) e).step 8 0 line)).st.length:=by
 simp[Ld,Q5,Ts,Ac4,Az,Tp h31,Tp h32];rfl
theorem z31a {P:Prop} (h:P:=by
  rintro r w7 ⟨rfl,G5,Ih⟩;have HS7:=A0 G5;have HB7:Hid (A3 D w w7):=I8.o.trans Ih;clear G5 Ih;go_wp2;go_end0;exact⟨rfl,HS7.o,HB7.o⟩):P:=h
theorem z6va {P:Prop} (h:P:=by show C5.loc.length+_<=_;omega):P:=h
theorem Aqg(K:EC)(l:A6)(c:BT A6)(hk:l.kd=22)(ih:D8 (Py K) c)(hwf:Wf 2 c)(lbs:List Nat)(D:Nat->Prop)(w:World)(e:Em)(b:Nat)(t:TypeId)(x:Value)(s1:Option Addr)(n1 m1:Nat)(s2:Option Addr)(n2 m2:Nat)(ks:List Value)(hD:D b)
  (hb:w.heap[b]?=some (.cells #[.int .i64 (l.line:Nat),.iface t x,.slice s1 n1 m1,.slice s2 n2 m2] 314 (0,0))) (hks:(ks=[.iface t x,.slice s1 n1 m1]/\Value.slice s2 n2 m2=.slice none 0 0)\/ks=[.iface t x,.slice s1 n1 m1,.slice s2 n2 m2])
  (hr:Ao D w c ks) (hst:K.St lbs D w e) (hlp:Lp (nd l c) e.lps.length) (hbb:Dk e) (hsz:e.st.length+2*bsize (nd l c)<=800000) (hlo:e.loc.length+bsize (nd l c)<=90000) (hll:e.lps.length+bsize (nd l c)<=90000) :
  Calls Tryz.prog 93 #[.pointer (some ⟨K.wb,0,none⟩),.pointer (some ⟨b,0,none⟩)] w fun r w'=>r=.returned (.tuple #[])/\K.St lbs D w' (As K.fns K.gl l (Az c) (em K.fns K.gl c) e)/\A3 D w w':=by
 obtain⟨hlw,lcb,hncb⟩:=hst.lo;have hnds:=Co l c;rw[j9 hk];have HBk:=A0 hb;have d1:=A2 hb 1 _ rfl;have ld:=A5 hb;rcases hks with⟨rfl,B5⟩|rfl
 ·obtain⟨x1,y1,l1,c1,r1,De,rfl,Bk,Au,hz⟩:=hr.cons';obtain⟨x2,y2,l2,c2,r2,Gm,rfl,Dm,B7,hzz⟩:=hz.cons';obtain rfl:=hzz.nil';injection B5 with q1 q2 q3;subst q1 q2 q3;obtain⟨E1,Fp⟩:=hwf.Lf.1 Bk.Qg.1;obtain⟨Cm,Be⟩:=Dm.Oi;obtain⟨h31,_⟩:=hwf.1.Lf.2 Cm;have C1:bsize (.node x1 y1 l1 c1 (.node x2 y2 l2 c2 .nil))=bsize (nd l1 c1)+1+l2.ps.length+bsize c2:=by rw[Co];simp only[bsize];omega
  have hl1:=Gk K.fns K.gl l1 c1 e;have Gs:=(Od K.fns K.gl c2).1 ((As K.fns K.gl l1 (Az c1) (em K.fns K.gl c1) e).step 8 0 l.line);have Ht:=Rf K.fns K.gl c2 0 ((As K.fns K.gl l1 (Az c1) (em K.fns K.gl c1) e).step 8 0 l.line);rw[Dy]at Gs Ht;have hsm:=No K.fns K.gl l1 c1 E1 Fp e;have hlc1:(As K.fns K.gl l1 (Az c1) (em K.fns K.gl c1) e).loc.length<=e.loc.length:=by rw[hsm.2.1];exact Nat.le_refl _
  have HLp1:Hid ((As K.fns K.gl l1 (Az c1) (em K.fns K.gl c1) e).lps.length=e.lps.length):=by show _=_;rw[hsm.1]
  have HLpc:Hid (Lp (.node x1 y1 l1 c1 (.node x2 y2 l2 c2 .nil)) e.lps.length):=by have:=hlp.2.1;rw[if_neg z51a]at this;exact this
  have hpc2:Lp c2 e.lps.length:=by have:=HLpc.o.2.2.2.1;rw[if_neg z51a]at this;exact this
  have HLp2:Hid ((em K.fns K.gl c2 0 ((As K.fns K.gl l1 (Az c1) (em K.fns K.gl c1) e).step 8 0 l.line)).lps.length=e.lps.length):=(Wa _ _ _ _ _).trans HLp1.o;rw[Abq K.fns K.gl l.line x1 y1 x2 y2 l1 l2 c1 c2 e h31];have Ia:=A0 (hst.expr E1 Fp Bk Au z51a);have HBm1:=A0 (Tq K.fns K.gl l1 c1 e hbb);have HBm2:=A0 (Tr K.fns K.gl c2 0 _ (HBm1.o.step 8 0 l.line));have Fb:=A0 (fun(W:World) (e2:Em) (hx:K.St lbs D W e2) (hbd:A3 D w W) (h1:e2.st.length+2*bsize c2<=800000) (h2:e2.loc.length+bsize c2<=90000) (h3:e2.lps.length=e.lps.length) (h4:Dk e2)=>Sp K c2 (ih.2.1 Cm) lbs D W e2 s1 n1 m1 Gm hx (Be.Bv hbd) (B7.Bv hbd) (by rw[h3];exact hpc2) h4 h1 h2 z51a);have HC3:=A0 (fun(W:World) (e2:Em) (hx:K.St lbs D W e2) (h1:e2.st.length<=800000) (h2:e2.loc.length<=90000) (h3:e2.lps.length<=90000) (h4:Dk e2)=>Sp K .nil trivial lbs D W e2 none 0 0 [] hx (Oq _ _ _ _) rfl trivial h4 z63a z63a z63a);clear hst hb hr hbb Bk Au hz ih hwf hk Dm B7 hzz E1 Fp Cm Be hlp hsm hpc2 HLpc h31;generalize Hs:As K.fns K.gl l1 (Az c1) (em K.fns K.gl c1) e=C5 at *;generalize hE2:em K.fns K.gl c2 0 (C5.step 8 0 l.line)=Fh at *;go_enter Tryz.func93,Tryz.ntmps93;go_wp2_with fail
  refine(Ia.o).mono ?_;rintro r w1 ⟨rfl,Al,A1⟩;have A7:=A0 Al;have A4:Hid (A3 D w w1):=A1;have Bu:=(A4.o.block b hD).trans HBk.o;clear Al A1 ld;clear d1;have d0:w1.cell? ⟨b,0,none⟩=some (.int .i64 (l.line:Nat)):=A2 Bu 0 _ rfl;have ld:=A5 Bu;clear Bu;go_wp2_with fail
  refine(A7.o.step z51a 8 0 l.line).mono ?_;rintro r w2 ⟨rfl,B5,A8⟩;have Aj:=A0 B5;have Aa:Hid (A3 D w w2):=A4.o.trans A8;have Dd:=(Aa.o.block b hD).trans HBk.o;clear B5 A8 ld;clear d0;have d2:=A2 Dd 2 _ rfl;have ld:=A5 Dd;clear Dd;go_wp2_with fail
  refine(Fb.o _ _ Aj.o Aa.o (by rw[Dy];omega) z6va HLp1.o (HBm1.o.step _ _ _)).mono ?_;rintro r w3 ⟨rfl,Ca,Ak⟩;rw[hE2]at Ca;have Bg:=A0 Ca;have Ay:Hid (A3 D w w3):=Aa.o.trans Ak;have Ek:=(Ay.o.block b hD).trans HBk.o;clear Ca Ak ld;clear d2;have ld:=A5 Ek;clear Ek;go_wp2_with fail
  refine(Bg.o.step (by show Fh.st.length<=_;omega) 6 0 0).mono ?_;rintro r w4 ⟨rfl,Fi,Ba⟩;have Er:=A0 Fi;have Cn:Hid (A3 D w w4):=Ay.o.trans Ba;have hbk4:=(Cn.o.block b hD).trans HBk.o;clear Fi Ba ld;have ld:=A5 hbk4;clear hbk4;have hm1:(Fh.cut (C5.step 8 0 l.line).loc.length).loc.length<=C5.loc.length:=by show(Fh.loc.take C5.loc.length).length<=_;simp;omega
  go_wp2_with fail
  refine(Er.o.land C5.st.length (by rw[Dy,Nn];omega)).mono ?_;rintro r w5 ⟨rfl,Cr,Cl⟩;have Gp:=A0 Cr;have E7:Hid (A3 D w w5):=Cn.o.trans Cl;have hbk5:=(E7.o.block b hD).trans HBk.o;clear Cr Cl ld;have d3:=A2 hbk5 3 _ rfl;have ld:=A5 hbk5;clear hbk5;go_wp2_with fail
  refine(HC3.o _ _ Gp.o (by rw[Jy,Dy,Nn];omega) (by show(Fh.cut (C5.step 8 0 l.line).loc.length).loc.length<=_;omega) (by have:=HLp2.o;show Fh.lps.length<=_;omega) (((HBm2.o.cut _).step _ _ _).land _)).mono ?_;rintro r w6 ⟨rfl,Eb,hb6⟩;rw[em,Ab4]at Eb;have HS6:=A0 Eb;have I8:Hid (A3 D w w6):=E7.o.trans hb6;have hbk6:=(I8.o.block b hD).trans HBk.o;clear Eb hb6 ld;clear d3;have ld:=A5 hbk6;clear hbk6;go_wp2_with fail
  refine(HS6.o.land Fh.st.length (by rw[Jy,Dy,Nn];omega)).mono ?_;exact z31a
 ·obtain⟨x1,y1,l1,c1,r1,De,rfl,Bk,Au,hz⟩:=hr.cons';obtain⟨x2,y2,l2,c2,r2,Gm,rfl,Dm,B7,hzz⟩:=hz.cons';obtain⟨x3,y3,l3,c3,r3,ks3,rfl,hn3,Cj,G1⟩:=hzz.cons';obtain rfl:=G1.nil';obtain⟨E1,Fp⟩:=hwf.Lf.1 Bk.Qg.1;obtain⟨Cm,Be⟩:=Dm.Oi;obtain⟨h31,_⟩:=hwf.1.Lf.2 Cm;obtain⟨hk3,Cv⟩:=hn3.Oi;obtain⟨h33,_⟩:=hwf.1.1.Lf.2 hk3;have C1:bsize (.node x1 y1 l1 c1 (.node x2 y2 l2 c2 (.node x3 y3 l3 c3 .nil)))=bsize (nd l1 c1)+1+l2.ps.length+bsize c2+1+l3.ps.length+bsize c3:=by rw[Co];simp only[bsize];omega
  have hl1:=Gk K.fns K.gl l1 c1 e;have Gs:=(Od K.fns K.gl c2).1 ((As K.fns K.gl l1 (Az c1) (em K.fns K.gl c1) e).step 8 0 l.line);have Ht:=Rf K.fns K.gl c2 0 ((As K.fns K.gl l1 (Az c1) (em K.fns K.gl c1) e).step 8 0 l.line);rw[Dy]at Gs Ht;have hsm:=No K.fns K.gl l1 c1 E1 Fp e;have hlc1:(As K.fns K.gl l1 (Az c1) (em K.fns K.gl c1) e).loc.length<=e.loc.length:=by rw[hsm.2.1];exact Nat.le_refl _
  have HLp1:Hid ((As K.fns K.gl l1 (Az c1) (em K.fns K.gl c1) e).lps.length=e.lps.length):=by show _=_;rw[hsm.1]
  have HLpc:Hid (Lp (.node x1 y1 l1 c1 (.node x2 y2 l2 c2 (.node x3 y3 l3 c3 .nil))) e.lps.length):=by have:=hlp.2.1;rw[if_neg z51a]at this;exact this
  have hpc2:Lp c2 e.lps.length:=by have:=HLpc.o.2.2.2.1;rw[if_neg z51a]at this;exact this
  have HLp2:Hid ((em K.fns K.gl c2 0 ((As K.fns K.gl l1 (Az c1) (em K.fns K.gl c1) e).step 8 0 l.line)).lps.length=e.lps.length):=(Wa _ _ _ _ _).trans HLp1.o;have hpc3:Lp c3 e.lps.length:=by have:=HLpc.o.2.2.2.2.2.1;rw[if_neg z51a]at this;exact this
  rw[Abr K.fns K.gl l.line x1 y1 x2 y2 x3 y3 l1 l2 l3 c1 c2 c3 e h31 h33];have Ia:=A0 (hst.expr E1 Fp Bk Au z51a);have HBm1:=A0 (Tq K.fns K.gl l1 c1 e hbb);have HBm2:=A0 (Tr K.fns K.gl c2 0 _ (HBm1.o.step 8 0 l.line));have Fb:=A0 (fun(W:World) (e2:Em) (hx:K.St lbs D W e2) (hbd:A3 D w W) (h1:e2.st.length+2*bsize c2<=800000) (h2:e2.loc.length+bsize c2<=90000) (h3:e2.lps.length=e.lps.length) (h4:Dk e2)=>Sp K c2 (ih.2.1 Cm) lbs D W e2 s1 n1 m1 Gm hx (Be.Bv hbd) (B7.Bv hbd) (by rw[h3];exact hpc2) h4 h1 h2 z51a);have HC3:=A0 (fun(W:World) (e2:Em) (hx:K.St lbs D W e2) (hbd:A3 D w W) (h1:e2.st.length+2*bsize c3<=800000) (h2:e2.loc.length+bsize c3<=90000) (h3:e2.lps.length=e.lps.length) (h4:Dk e2)=>Sp K c3 (ih.2.2.1 hk3) lbs D W e2 s2 n2 m2 ks3 hx (Cv.Bv hbd) (Cj.Bv hbd) (by rw[h3];exact hpc3) h4 h1 h2 z51a);clear hst hb hr hbb Bk Au hz ih hwf hk Dm B7 hzz E1 Fp Cm Be hlp hsm hpc2 HLpc h31 hn3 Cj G1 hk3 Cv hpc3 h33;generalize Hs:As K.fns K.gl l1 (Az c1) (em K.fns K.gl c1) e=C5 at *;generalize hE2:em K.fns K.gl c2 0 (C5.step 8 0 l.line)=Fh at *;go_enter Tryz.func93,Tryz.ntmps93;go_wp2_with fail
  refine(Ia.o).mono ?_;rintro r w1 ⟨rfl,Al,A1⟩;have A7:=A0 Al;have A4:Hid (A3 D w w1):=A1;have Bu:=(A4.o.block b hD).trans HBk.o;clear Al A1 ld;clear d1;have d0:w1.cell? ⟨b,0,none⟩=some (.int .i64 (l.line:Nat)):=A2 Bu 0 _ rfl;have ld:=A5 Bu;clear Bu;go_wp2_with fail
  refine(A7.o.step z51a 8 0 l.line).mono ?_;rintro r w2 ⟨rfl,B5,A8⟩;have Aj:=A0 B5;have Aa:Hid (A3 D w w2):=A4.o.trans A8;have Dd:=(Aa.o.block b hD).trans HBk.o;clear B5 A8 ld;clear d0;have d2:=A2 Dd 2 _ rfl;have ld:=A5 Dd;clear Dd;go_wp2_with fail
  refine(Fb.o _ _ Aj.o Aa.o (by rw[Dy];omega) z6va HLp1.o (HBm1.o.step _ _ _)).mono ?_;rintro r w3 ⟨rfl,Ca,Ak⟩;rw[hE2]at Ca;have Bg:=A0 Ca;have Ay:Hid (A3 D w w3):=Aa.o.trans Ak;have Ek:=(Ay.o.block b hD).trans HBk.o;clear Ca Ak ld;clear d2;have ld:=A5 Ek;clear Ek;go_wp2_with fail
  refine(Bg.o.step (by show Fh.st.length<=_;omega) 6 0 0).mono ?_;rintro r w4 ⟨rfl,Fi,Ba⟩;have Er:=A0 Fi;have Cn:Hid (A3 D w w4):=Ay.o.trans Ba;have hbk4:=(Cn.o.block b hD).trans HBk.o;clear Fi Ba ld;have ld:=A5 hbk4;clear hbk4;have hm1:(Fh.cut (C5.step 8 0 l.line).loc.length).loc.length<=C5.loc.length:=by show(Fh.loc.take C5.loc.length).length<=_;simp;omega
  go_wp2_with fail
  refine(Er.o.land C5.st.length (by rw[Dy,Nn];omega)).mono ?_;rintro r w5 ⟨rfl,Cr,Cl⟩;have Gp:=A0 Cr;have E7:Hid (A3 D w w5):=Cn.o.trans Cl;have hbk5:=(E7.o.block b hD).trans HBk.o;clear Cr Cl ld;have d3:=A2 hbk5 3 _ rfl;have ld:=A5 hbk5;clear hbk5;have hl3:=(Od K.fns K.gl c3).1 (((Fh.cut (C5.step 8 0 l.line).loc.length).step 6 0 0).land C5.st.length);have hg3:=Rf K.fns K.gl c3 0 (((Fh.cut (C5.step 8 0 l.line).loc.length).step 6 0 0).land C5.st.length);rw[Jy,Dy,Nn]at hg3 hl3;go_wp2_with fail
  refine(HC3.o _ _ Gp.o E7.o (by rw[Jy,Dy,Nn];omega) (by show(Fh.cut (C5.step 8 0 l.line).loc.length).loc.length+_<=_;omega) HLp2.o (((HBm2.o.cut _).step _ _ _).land _)).mono ?_;rintro r w6 ⟨rfl,Eb,hb6⟩;have HS6:=A0 Eb;have I8:Hid (A3 D w w6):=E7.o.trans hb6;have hbk6:=(I8.o.block b hD).trans HBk.o;clear Eb hb6 ld;clear d3;have ld:=A5 hbk6;clear hbk6;go_wp2_with fail
  refine(HS6.o.land Fh.st.length (by rw[Nn];omega)).mono ?_;exact z31a
theorem Aq9(K:EC)(l:A6)(c:BT A6)(hk:l.kd=22)(ih:D8 (Py K) c)(hwf:Wf 2 c):Kr K l c:=by
 intro lbs D w e v ks hst hn hr hlp hbb hsz hlo hll;obtain⟨hlw,lcb,hncb⟩:=hst.lo;have hnds:=Co l c;unfold Bx at hn;rw[if_neg z51a]at hn;obtain⟨b,cs,rfl,hD,hb,hl⟩:=hn;have e1:Ck l.kd=253:=by rw[hk];rfl
 have e2:Dn l.kd=314:=by rw[hk];rfl
 rw[e1];rw[e2]at hb;unfold Cy at hl;simp only[hk]at hl;obtain⟨t,x,s1,n1,m1,s2,n2,m2,rfl,hks⟩:=hl;have HC:=A0 (Aqg K l c hk ih hwf lbs D w e b t x s1 n1 m1 s2 n2 m2 ks hD hb hks hr hst hlp hbb hsz hlo hll);have ld:=A5 hb;have Dh:=N4 253 z52a;have Dz:=Alf;clear hst hb e1 e2 hk hr hlp hbb hks ih hwf;exact z3aa
end
section
set_option maxRecDepth 100000
open Go.RowKit
open Go.Deep (BT)
variable {K:EC}{D:Nat->Prop}{w:World}{e:Em}{ρ:Nat->Nat}{la:Option Addr}{ln lc:Nat}{pa:Option Addr}{pn pc:Nat}{lb:Nat}{ba:Option Addr}{bn bc:Nat}{br:List LB}
theorem EC.St.top{K:EC}{lbs:List Nat}{D:Nat->Prop}{w:World}{e:Em}(h:K.St lbs D w e)(h0:e.lps.length≠0)(hb:e.lps.length<=90000) :
  ∃lb lr s bs r ba bn bc,lbs=lb::lr/\e.lps=(s,bs)::r/\lb<w.heap.size/\w.heap[lb]?=some (.cells #[.int .i64 (s:Nat),.slice ba bn bc] 263 (0,0))/\w.ownsRow 0 3 1 (.slice ba bn bc) (Db bs).length (Db bs)/\bn=bs.length/\
   Calls Tryz.prog 96 #[.pointer (some ⟨K.wb,3,none⟩)] w (fun r' w'=>r'=.returned (.pointer (some ⟨lb,0,none⟩))/\w'=w):=by
 obtain⟨ρ,la,ln,lc,pa,pn,pc,bl,h,hlb⟩:=h;obtain⟨sa,sn,sc,hv⟩:=h.ew;have hlp:=h.lps;have hln:=hlp.len;cases hq:e.lps with
 | nil=>rw[hq]at h0;exact absurd rfl h0
 | cons x r=>
  cases hbl:bl with
  | nil=>rw[hbl,hq]at hlp;exact hlp.elim
  | cons b br=>
   rw[hbl,hq]at hlp;obtain⟨k1,k2,k3,k4,k5⟩:=hlp;have hst:=h.Pp hv;rw[hbl]at hst;have hl:((b::br).map fun b=>Ch b.1).reverse.length=br.length+1:=by simp
   have hbr:br.length<=90000:=by rw[hbl]at hln;simp at hln;omega
   have ht:=A45 hst (by rw[hl];omega) br.length (by rw[hl];omega) hl;have hx:(((b::br).map fun b=>Ch b.1).reverse)[br.length]'(by rw[hl];omega)=.pointer (some ⟨b.1,0,none⟩):=by
    simp[Ch]
   rw[hx]at ht;refine⟨b.1,br.map Prod.fst,x.1,x.2,r,b.2.1,b.2.2.1,b.2.2.2,by rw[<-hlb,hbl];rfl,rfl,A5 k1,k1,k2,?_,ht⟩;have:=(Cg k2).1;rw[this];simp[Db]
theorem EC.Sv.A1e(h:K.Sv D w e ρ la ln lc pa pn pc ((lb,ba,bn,bc)::br)){s:Nat}{bs:List Nat}{r:List (Nat×List Nat)}(hq:e.lps=(s,bs)::r) :
  w.heap[lb]?=some (.cells #[.int .i64 (s:Nat),.slice ba bn bc] 263 (0,0)):=by
 have:=h.lps;rw[hq]at this;exact this.1
theorem EC.Sv.Xd(h:K.Sv D w e ρ la ln lc pa pn pc ((lb,ba,bn,bc)::br)){s:Nat}{bs:List Nat}{r:List (Nat×List Nat)}(hq:e.lps=(s,bs)::r) :
  w.ownsRow 0 3 1 (.slice ba bn bc) (Db bs).length (Db bs):=by
 have:=h.lps;rw[hq]at this;exact this.2.1
theorem EC.Sv.Aft(h:K.Sv D w e ρ la ln lc pa pn pc ((lb,ba,bn,bc)::br)){s:Nat}{bs:List Nat}{r:List (Nat×List Nat)}(hq:e.lps=(s,bs)::r) :
  (Value.slice ba bn bc).ownBlock≠some lb:=by
 have:=h.lps;rw[hq]at this;intro e1;have h1:=this.2.2.2.1 lb e1;have h2:=this.2.2.1;simp only at h2;omega
theorem Aq7(K:EC)(l:A6)(c:BT A6)(hk:l.kd=26):Kr K l c:=by
 intro lbs D w e v ks hst hn hr hlp hbb hsz hlo hll;obtain⟨hlw,lcb,hncb⟩:=hst.lo;have hnds:=Co l c;unfold Bx at hn;rw[if_neg z51a]at hn;obtain⟨b,cs,rfl,hD,hb,hl⟩:=hn;have e1:Ck l.kd=264:=by rw[hk];rfl
 have e2:Dn l.kd=368:=by rw[hk];rfl
 rw[e1];rw[e2]at hb;unfold Cy at hl;simp only[hk]at hl;rw[n8 hk];obtain⟨rfl,rfl⟩:=hl;have Gc:e.lps.length≠0:=hlp.1 (.inr hk);obtain⟨lb,lr,s,bs,r,ba,bn,bc,rfl,hq,llb,hlb,hown,rfl,HT⟩:=hst.top Gc z51a;have hE:e.cnt=e.step 6 (s:Nat) 0:=by unfold Em.cnt;rw[hq]
 rw[hE];have HSt:=A0 (hst.step z51a 6 (s:Nat) 0);have HTop:=A0 HT;have g0:=A2 hlb 0 _ rfl;have ld:=A5 hb;have Dh:=N4 264 z52a;have Dz:=Ov 264 z52a;have Ep:=Pn 264 z52a;have Fk:=Qw 264 z52a;have G9:=Sh 264 z52a;have Hx:=Alc;clear hst hb e1 e2 hk hr hlp hbb hq hE HT hown Gc hlb;unfold Ch;go_enter Tryz.func56,Tryz.ntmps56;go_wp2_with fail
 refine HTop.o.mono ?_;rintro r w ⟨rfl,rfl⟩;go_wp2_with fail
 refine(HSt.o).mono ?_;exact z0ia
theorem Aq6(K:EC)(l:A6)(c:BT A6)(hk:l.kd=25):Kr K l c:=by
 intro lbs D w e v ks hst hn hr hlp hbb hsz hlo hll;obtain⟨hlw,lcb,hncb⟩:=hst.lo;have hnds:=Co l c;unfold Bx at hn;rw[if_neg z51a]at hn;obtain⟨b,cs,rfl,hD,hb,hl⟩:=hn;have e1:Ck l.kd=259:=by rw[hk];rfl
 have e2:Dn l.kd=367:=by rw[hk];rfl
 rw[e1];rw[e2]at hb;unfold Cy at hl;simp only[hk]at hl;rw[l9 hk];obtain⟨rfl,rfl⟩:=hl;have Gc:e.lps.length≠0:=hlp.1 (.inl hk);obtain⟨lb,lr,s,bs,r,ba,bn,bc,rfl,hq,llb,_,_,rfl,HT⟩:=hst.top Gc z51a;have HTop:=A0 HT;obtain⟨ρ,la,ln,lc,pa,pn,pc,bl,h,hlb⟩:=hst;obtain⟨b2,br,rfl⟩:∃b2 br,bl=b2::br:=by
  cases bl with
  | nil=>simp at hlb
  | cons b2 br=>exact⟨b2,br,rfl⟩
 simp only[List.map_cons,List.cons.injEq]at hlb;obtain⟨rfl,rfl⟩:=hlb;have hlps:=h.lps;rw[hq]at hlps;obtain⟨k1,k2,k3,k4,k5⟩:=hlps;obtain⟨lb,ba,bn,bc⟩:=b2;simp only[N0]at k1 k2 k4 llb HTop HT k3;have hbn:bn=(Db bs).length:=(Cg k2).1;have hbk:(Db bs).length=bs.length:=by simp[Db]
 subst hbn;obtain⟨hd,hdb⟩:=h.Om (Dv _ w 1) (h.N8.drewN 1) rfl;have HStep:=A0 (Ko hd.ew z51a 6 0 0);have HD:=A0 hd;have hbs:bs.length<=800000:=by
  have:=(hbb (s,bs) (by rw[hq];simp)).1;simp only at this;omega
 have hbl:(Db bs).length<=800000:=by rw[hbk];exact hbs
 clear hbk hbs;have g0:=A2 k1 0 _ rfl;have g1:=A2 k1 1 _ rfl;have fz:=Bh k1;have Hz:=A0 k1;have HK3:=A0 k3;have HE:Hid (e.Kt=⟨e.loc,e.slots,e.st++[⟨6,0,0,Ab⟩],(s,bs++[e.st.length])::r⟩):=by show _=_;unfold Em.Kt;rw[hq]
 have HQ:=A0 hq;have ld:=A5 hb;have Dh:=N4 259 z52a;have Dz:=Ov 259 z52a;have Ep:=Pn 259 z52a;have Fk:=Qw 259 z52a;have G9:=Alb;clear hb e1 e2 hk hr hlp hbb HT Gc h hd hdb k1 k2 k3 k4 k5 hq;unfold Ch;go_enter Tryz.func56,Tryz.ntmps56;go_wp2_with fail
 refine HTop.o.mono ?_;rintro r w ⟨rfl,rfl⟩;go_wp2_with fail
 go_region_law (first
  | (refine N6 _ w5.heap.size #[.int .i64 (e.st.length:Nat)] 3 (heap_alloc_new w5 (.cells #[.int .i64 (e.st.length:Nat)] 3)) rfl (.tmp 62) (.tmp 65) 34 rfl 0 1 8 (.int .i64 0) Tryz.underlying34 Ww rfl z51a (.slice ba (Db bs).length bc) (Db bs).length (Db bs) rfl rfl (hown5.alloc _) rfl (fun u hu=>by simp at hu;rw[hu];rfl) z51a z51a (Nat.zero_le _) ?_;intro g6 cap6 w6 hown6 hgrow6' hat6' hg6;have hgrow6:w5.grownBy w6 (Value.slice ba (Db bs).length bc).ownBlock:=Lx (World.grownBy_alloc w5 (.cells #[.int .i64 (e.st.length:Nat)] 3) none) hgrow6';have hat6:(Value.slice ba (Db bs).length bc).ownBlock=some g6\/w5.heap.size<=g6:=(hat6'.imp id (fun e=>by rw[e];simp));have hl6:=(hgrow6.block lb l5 (fun e=>hnl5 e.symm)).trans hl5;have q1:=A2 hl6 1 _ rfl;have fq:=Bh hl6;have lq:=A5 hl6;clear hl6 hgrow6' hat6')
  | (refine F2 rfl 55 _ _ rfl #[.pointer (some ⟨K.wb,0,none⟩),.int .i64 6,.int .i64 0,.int .i64 0] (by kernel_rfl) HStep.o ?_;rintro r5 w5 ⟨rfl,Cr,Cl⟩;refine⟨_,rfl,?_⟩;have Ik:=HD.o.Om Cl (HD.o.N8.next (e':=e.step 6 0 0) Cl Cr rfl) rfl;have hl5:w5.heap[lb]?=some (.cells #[.int .i64 (s:Nat),.slice ba (Db bs).length bc] 263 (0,0)):=Ik.1.A1e HQ.o;have hown5:w5.ownsRow 0 3 1 (.slice ba (Db bs).length bc) (Db bs).length (Db bs):=Ik.1.Xd HQ.o;have hnl5:(Value.slice ba (Db bs).length bc).ownBlock≠some lb:=Ik.1.Aft HQ.o;have l5:=A5 hl5;have z0:=A2 hl5 0 _ rfl;have z1:=A2 hl5 1 _ rfl;have f5:=Bh hl5;have HV5:=A0 Ik;clear Cr Cl Ik))
 all_goals go_wp2
 all_goals go_end0
 all_goals
  obtain⟨k1,k2⟩:=HV5.o.1.A6o HQ.o e.st.length hown6 hgrow6 hat6;rw[HE.o];exact⟨rfl,k1,(Dv D w 1).trans (HV5.o.2.trans k2)⟩
end
end Go.Proofs.YtjdlndhfaaolaaaGreatDoor
