import Derived.Test.YtjdlndhfaaolaaaGreatDoorR38
import Derived.Test.YtjdlndhfaaolaaaGreatDoorR42
set_option maxHeartbeats 20000000
namespace Go.Proofs.YtjdlndhfaaolaaaGreatDoor
section
set_option maxRecDepth 100000
open Go.RowKit
open Go.Deep (BT)
theorem Ads(K:EC)(l:A2)(c:BT A2)(hk:l.kd=9)(ih:Co (Fw K) c)  (D:Nat->Prop) (w:World) (la:Option Addr) (ln lc:Nat) (ps:Value) (e:Em) (v:Value) (ks:List Value)
  (hst:K.Ex D w la ln lc ps e) (hn:Ba D w l v ks) (hr:Aj D w c ks) (hsz:e.st.length+2*bsize (nd l c)<=800000) :
  Calls Tryz.prog 91 #[.pointer (some ⟨K.wb,0,none⟩),v] w fun r w'=>r=.returned (.tuple #[])/\K.Ex D w' la ln lc ps (Am K.fns K.gl l (A8 c) (em K.fns K.gl c) e)/\A4 D w w':=by
 obtain⟨hlo,lcb,hncb⟩:=hst.lo;have hnds:=B8 l c;unfold Ba at hn;rw[if_neg (by omega)]at hn;obtain⟨b,cs,rfl,hD,hb,hl⟩:=hn;have e1:C3 l.kd=296:=by rw[hk];rfl
 have e2:Db l.kd=300:=by rw[hk];rfl
 rw[e1];rw[e2]at hb;unfold Ck at hl;simp only[hk]at hl;rw[Y8 hk];obtain⟨sl,rfl,ho⟩:=hl;obtain⟨va,vn,vc,rfl⟩:∃va vn vc,sl=.slice va vn vc:=Oe ho.1;have hvn:vn=ks.length:=(C9 ho.1).1;have hkl:=hr.len;have hbl:=Kl c;rw[←hkl];have hem:=(On K.fns K.gl c).1 e;have HC:=A0 (A0a K c ih D w la ln lc ps e va vn vc ks hst ho hr (by omega));have HBk:=A0 hb;have d1:=Ac hb 1 _ rfl;have ld:=A5 hb;have D4:=Af1;clear hst hb e1 e2 hk hr ih ho hkl hbl;subst hvn;generalize Is:em K.fns K.gl c 0 e=Bp at *;unfold Bx;go_enter Tryz.func91,Tryz.ntmps91;go_wp2_with fail
 refine(HC.o).mono ?_;rintro r w1 ⟨rfl,Ad,A3⟩;have Aq:=A0 Ad;have Ab:=A0 A3;have B7:=(A3.block b hD).trans HBk.o;clear Ad A3 d1 ld;have d0:w1.cell? ⟨b,0,none⟩=some (.int .i64 (l.line:Nat)):=Ac B7 0 _ rfl;have d1:=Ac B7 1 _ rfl;have ld:=A5 B7;clear B7;go_wp2;refine Mu 10 (by kernel_rfl) (by kernel_rfl) ?_;simp only[List.take_succ_cons,List.take_zero,List.drop_succ_cons,List.drop_zero];iterate 10 (refine Gv (fun K' hK'=>?_);go_simp;refine hK' _ ?_;clear hK' K')
 refine Mt ?_;go_wp2_with fail
 refine(Ly (Aq.o.drewN 1).ew (by omega) 36 (ks.length:Nat) l.line).mono ?_;rintro r w9 ⟨rfl,Fk,E0⟩;have HS9:=A0 ((Aq.o.drewN 1).next (e':=(Bp).step 36 (ks.length:Nat) l.line) E0 Fk rfl);have Jv:Hid (A4 D w w9):=Ab.o.trans ((Hi D w1 1).trans E0);clear Fk E0;go_wp2;go_end0;exact⟨rfl,HS9.o,Jv.o⟩
theorem Aeo(K:EC)(l:A2)(c:BT A2)(hk:l.kd=9)(ih:Co (Fw K) c):Fw K l c:=by
 intro D w la ln lc ps e v ks hst hn hr hsz;have HM:=A0 (Ads K l c hk ih D w la ln lc ps e v ks hst hn hr hsz);obtain⟨hlo,lcb,hncb⟩:=hst.lo;unfold Ba at hn;rw[if_neg (by omega)]at hn;obtain⟨b,cs,rfl,hD,hb,hl⟩:=hn;have e1:C3 l.kd=296:=by rw[hk];rfl
 rw[e1]at HM ⊢;have ld:=A5 hb;have D4:=Ma 296 (by decide);have Dt:=Ml 296 (by decide);have Er:=Ng 296 (by decide);have Fm:=O0 296 (by decide);have Gs:=O1 296 (by decide);have Iy:=Pb 296 (by decide);have Kh:=Re 296 (by decide);have ta7:=Sk 296 (by decide);clear hst hb e1 hk hr hl ih;unfold Bx at HM ⊢;go_enter Tryz.func54,Tryz.ntmps54;go_wp2_with fail
 refine HM.o.mono ?_;rintro r w1 ⟨rfl,Ad,A3⟩;have Aq:=A0 Ad;have Ab:=A0 A3;clear Ad A3;go_wp2;go_end0;exact⟨rfl,Aq.o,Ab.o⟩
theorem Adp(K:EC)(l:A2)(c:BT A2)(hk:l.kd=7)(ih:Co (Fw K) c)  (D:Nat->Prop) (w:World) (la:Option Addr) (ln lc:Nat) (ps:Value) (e:Em) (v:Value) (ks:List Value)
  (hst:K.Ex D w la ln lc ps e) (hn:Ba D w l v ks) (hr:Aj D w c ks) (hsz:e.st.length+2*bsize (nd l c)<=800000) :
  Calls Tryz.prog 91 #[.pointer (some ⟨K.wb,0,none⟩),v] w fun r w'=>r=.returned (.tuple #[])/\K.Ex D w' la ln lc ps (Am K.fns K.gl l (A8 c) (em K.fns K.gl c) e)/\A4 D w w':=by
 obtain⟨hlo,lcb,hncb⟩:=hst.lo;have hnds:=B8 l c;unfold Ba at hn;rw[if_neg (by omega)]at hn;obtain⟨b,cs,rfl,hD,hb,hl⟩:=hn;have e1:C3 l.kd=301:=by rw[hk];rfl
 have e2:Db l.kd=303:=by rw[hk];rfl
 rw[e1];rw[e2]at hb;unfold Ck at hl;simp only[hk]at hl;rw[Y6 hk];obtain⟨sl,rfl,ho⟩:=hl;obtain⟨va,vn,vc,rfl⟩:∃va vn vc,sl=.slice va vn vc:=Oe ho.1;have hvn:vn=ks.length:=(C9 ho.1).1;have hkl:=hr.len;have hbl:=Kl c;have hem:=(On K.fns K.gl c).1 e;have HC:=A0 (A0a K c ih D w la ln lc ps e va vn vc ks hst ho hr (by omega));have HBk:=A0 hb;have d1:=Ac hb 2 _ rfl;have ld:=A5 hb;have D4:=Ug 301 (by decide);have Dt:=Aex;clear hst hb e1 e2 hk hr ih ho hkl hbl;subst hvn;generalize Is:em K.fns K.gl c 0 e=Bp at *;unfold Bx;go_enter Tryz.func91,Tryz.ntmps91;go_wp2_with fail
 refine(HC.o).mono ?_;rintro r w1 ⟨rfl,Ad,A3⟩;have Aq:=A0 Ad;have Ab:=A0 A3;have B7:=(A3.block b hD).trans HBk.o;clear Ad A3 d1 ld;have HNum:=A0 (Adu (Aq.o.drewN 1).ew (Aq.o.drewN 1).fr l.s);have d0:w1.cell? ⟨b,0,none⟩=some (.int .i64 (l.line:Nat)):=Ac B7 0 _ rfl;have d1:w1.cell? ⟨b,1,none⟩=some (.string ⟨l.s.toArray⟩):=Ac B7 1 _ rfl;have ld:=A5 B7;clear B7;go_wp2;refine Mu 11 (by kernel_rfl) (by kernel_rfl) ?_;simp only[List.take_succ_cons,List.take_zero,List.drop_succ_cons,List.drop_zero];iterate 6 (refine Gv (fun K' hK'=>?_);go_simp;refine hK' _ ?_;clear hK' K')
 refine Gv (fun K' hK'=>?_);go_simp;refine⟨_,HNum.o,hK' _ ?_⟩;clear hK' K';iterate 4 (refine Gv (fun K' hK'=>?_);go_simp;refine hK' _ ?_;clear hK' K')
 refine Mt ?_;go_wp2_with fail
 refine(Ly (Aq.o.drewN 1).ew (by omega) 42 (O9 K.fns l.s) l.line).mono ?_;rintro r w9 ⟨rfl,Fk,E0⟩;have HS9:=A0 ((Aq.o.drewN 1).next (e':=(Bp).step 42 (O9 K.fns l.s) l.line) E0 Fk rfl);have Jv:Hid (A4 D w w9):=Ab.o.trans ((Hi D w1 1).trans E0);clear Fk E0;go_wp2;go_end0;exact⟨rfl,HS9.o,Jv.o⟩
theorem Aei(K:EC)(l:A2)(c:BT A2)(hk:l.kd=7)(ih:Co (Fw K) c):Fw K l c:=by
 intro D w la ln lc ps e v ks hst hn hr hsz;have HM:=A0 (Adp K l c hk ih D w la ln lc ps e v ks hst hn hr hsz);obtain⟨hlo,lcb,hncb⟩:=hst.lo;unfold Ba at hn;rw[if_neg (by omega)]at hn;obtain⟨b,cs,rfl,hD,hb,hl⟩:=hn;have e1:C3 l.kd=301:=by rw[hk];rfl
 rw[e1]at HM ⊢;have ld:=A5 hb;have D4:=Ma 301 (by decide);have Dt:=Ml 301 (by decide);have Er:=Ng 301 (by decide);have Fm:=O0 301 (by decide);have Gs:=O1 301 (by decide);have Iy:=Pb 301 (by decide);have Kh:=Re 301 (by decide);have ta7:=Sk 301 (by decide);clear hst hb e1 hk hr hl ih;unfold Bx at HM ⊢;go_enter Tryz.func54,Tryz.ntmps54;go_wp2_with fail
 refine HM.o.mono ?_;rintro r w1 ⟨rfl,Ad,A3⟩;have Aq:=A0 Ad;have Ab:=A0 A3;clear Ad A3;go_wp2;go_end0;exact⟨rfl,Aq.o,Ab.o⟩
theorem Adj(K:EC):∀(c:BT A2),Wf 0 c->Co (Fw K) c:=by
 intro c;induction c with
 | nil=>intro _;trivial
 | node x y l c r C2 Bl=>
  intro h;have hx:=h.exs;have hc:=C2 hx.2.1;refine⟨?_,Bl h.1⟩;have hk:=hx.1;unfold Jz at hk;simp only[Bool.or_eq_true,Bool.and_eq_true,decide_eq_true_eq]at hk;by_cases hb:127<=l.kd
  ·exact Aeh K l c hb (by omega) hc
  ·have Bk:l.kd=1\/l.kd=2\/l.kd=3\/l.kd=4\/l.kd=5\/l.kd=6\/l.kd=7\/l.kd=8\/l.kd=9\/l.kd=10\/l.kd=11\/l.kd=12\/l.kd=13\/l.kd=14:=by omega
   rcases Bk with h|h|h|h|h|h|h|h|h|h|h|h|h|h
   ·exact Aem K l c h
   ·exact Aet K l c h
   ·exact Aeu K l c h
   ·exact Aej K l c h
   ·exact Aer K l c h
   ·exact Aev K l c h
   ·exact Aei K l c h hc
   ·exact Aek K l c h hc
   ·exact Aeo K l c h hc
   ·exact Aen K l c h hc
   ·exact Aes K l c h hc
   ·exact Ael K l c h hc
   ·exact Aeq K l c h hc
   ·exact Aep K l c h hc
end
section
set_option maxRecDepth 100000
open Go.RowKit
open Go.Deep (BT)
variable {K:EC} {lbs:List Nat} {D:Nat->Prop} {w w':World} {e e':Em}
theorem EC.St.step(h:K.St lbs D w e)(hn:e.st.length<=900000)(op:Nat)(arg:Int)(line:Nat) :
  Calls Tryz.prog 55 #[.pointer (some ⟨K.wb,0,none⟩),.int .i64 (op:Nat),.int .i64 arg,.int .i64 (line:Nat)] w fun r w'=>r=.returned (.int .i64 (e.st.length:Nat))/\K.St lbs D w' (e.step op arg line)/\A4 D w w':=by
 obtain⟨ρ,la,ln,lc,pa,pn,pc,bl,h,hlb⟩:=h;refine(Ly h.ew hn op arg line).mono ?_;rintro r w1 ⟨rfl,h1,h2⟩;obtain⟨k1,k2⟩:=h.Oz h2 (h.Ny.next (e':=e.step op arg line) h2 h1 rfl) rfl;exact⟨rfl,⟨_,_,_,_,_,_,_,_,k1,hlb⟩,k2⟩
theorem EC.St.land(h:K.St lbs D w e)(j:Nat)(hj:j<e.st.length) :
  Calls Tryz.prog 140 #[.pointer (some ⟨K.wb,0,none⟩),.int .i64 (j:Nat)] w fun r w'=>r=.returned (.tuple #[])/\K.St lbs D w' (e.land j)/\A4 D w w':=by
 obtain⟨ρ,la,ln,lc,pa,pn,pc,bl,h,hlb⟩:=h;refine(Uc h.ew j hj).mono ?_;rintro r w1 ⟨rfl,h1,h2⟩;obtain⟨k1,k2⟩:=h.Oz h2 (h.Ny.next (e':=e.land j) h2 h1 rfl) rfl;exact⟨rfl,⟨_,_,_,_,_,_,_,_,k1,hlb⟩,k2⟩
theorem EC.St.here(h:K.St lbs D w e):Calls Tryz.prog 92 #[.pointer (some ⟨K.wb,0,none⟩)] w fun r w'=>r=.returned (.int .i64 (e.st.length:Nat))/\w'=w:=by
 obtain⟨ρ,la,ln,lc,pa,pn,pc,bl,h,hlb⟩:=h;exact V5 h.ew
theorem EC.St.var(h:K.St lbs D w e)(hn:e.st.length<=900000)(s:Nm)(lo gb:Nat) :
  Calls Tryz.prog 88 #[.pointer (some ⟨K.wb,0,none⟩),.string ⟨s.toArray⟩,.int .i64 (lo:Nat),.int .i64 (gb:Nat)] w fun r w'=>r=.returned (.tuple #[])/\K.St lbs D w' (e.var K.gl s lo gb)/\A4 D w w':=by
 obtain⟨ρ,la,ln,lc,pa,pn,pc,bl,h,hlb⟩:=h;refine(A0i h.Ny hn s lo gb).mono ?_;rintro r w1 ⟨rfl,h1,h2⟩;obtain⟨k1,k2⟩:=h.Oz h2 h1 (Qc _ _ _ _ _).1;exact⟨rfl,⟨_,_,_,_,_,_,_,_,k1,hlb⟩,k2⟩
theorem EC.St.expr{l:A2}{c:BT A2}{v:Value}{ks:List Value}(h:K.St lbs D w e)(hk:Jz l.kd=true)(hw:Wf 0 c)(hn:Ba D w l v ks)(hr:Aj D w c ks)(hsz:e.st.length+2*bsize (nd l c)<=800000) :
  Calls Tryz.prog 54 #[.pointer (some ⟨K.wb,0,none⟩),v] w fun r w'=>r=.returned (.tuple #[])/\K.St lbs D w' (Am K.fns K.gl l (A8 c) (em K.fns K.gl c) e)/\A4 D w w':=by
 obtain⟨ρ,la,ln,lc,pa,pn,pc,bl,h,hlb⟩:=h;have hx:=(Adj K (nd l c) ⟨trivial,.inl ⟨.inl rfl,hk,hw⟩⟩).1;refine(hx _ w la ln lc _ e v ks h.Ny (hn.weak h.dx) (Aj.keep (fun g hg _=>⟨rfl,h.dx g hg⟩) _ _ hr) hsz).mono ?_;rintro r w1 ⟨rfl,h1,h2⟩;obtain⟨k1,k2⟩:=h.Oz h2 h1 (O6 K.fns K.gl l c hk hw e).1;exact⟨rfl,⟨_,_,_,_,_,_,_,_,k1,hlb⟩,k2⟩
theorem EC.St.drewN(h:K.St lbs D w e)(n:Nat):K.St lbs D (w.drewN n) e:=by
 obtain⟨ρ,la,ln,lc,pa,pn,pc,bl,h,hlb⟩:=h;obtain⟨k1,k2⟩:=h.Oz (Hi _ w n) (h.Ny.drewN n) rfl;exact⟨_,_,_,_,_,_,_,_,k1,hlb⟩
theorem EC.Sv.Mj{ρ:Nat->Nat}{la:Option Addr}{ln lc:Nat}{pa:Option Addr}{pn pc:Nat}{bl:List LB}{sa:Option Addr}{sn sc:Nat}(h:K.Sv D w e ρ la ln lc pa pn pc bl)(hv:Ik (dX w.heap.size ρ) K.wb K.te w (.slice K.fa K.fn K.fc) (.slice K.ga K.gn K.gc) (.slice la ln lc) (.slice pa pn pc) e.slots e.st sa sn sc) :
  Gl 9 K.wb 2 w #[.slice K.fa K.fn K.fc,.slice K.ga K.gn K.gc,.slice la ln lc,.slice pa pn pc,.int .i64 (e.slots:Nat),.slice sa sn sc] K.te la ln lc (D3 e.loc):=h.Ny.stk hv
theorem EC.Sv.Qb{ρ:Nat->Nat}{la:Option Addr}{ln lc:Nat}{pa:Option Addr}{pn pc:Nat}{bl:List LB}{sa:Option Addr}{sn sc:Nat}(h:K.Sv D w e ρ la ln lc pa pn pc bl)(hv:Ik (dX w.heap.size ρ) K.wb K.te w (.slice K.fa K.fn K.fc) (.slice K.ga K.gn K.gc) (.slice la ln lc) (.slice pa pn pc) e.slots e.st sa sn sc) :
  Gl 260 K.wb 3 w #[.slice K.fa K.fn K.fc,.slice K.ga K.gn K.gc,.slice la ln lc,.slice pa pn pc,.int .i64 (e.slots:Nat),.slice sa sn sc] K.te pa pn pc (bl.map fun b=>Bx b.1).reverse:=
 ⟨hv.cell,rfl,h.pr,fun e=>by have:=h.pro _ e;have:=h.one.1;omega⟩
theorem A0c(h:K.St lbs D w e)(hn:e.loc.length+1<=100000)(s:Nm) :
  Calls Tryz.prog 81 #[.pointer (some ⟨K.wb,0,none⟩),.string ⟨s.toArray⟩] w fun r w'=>r=.returned (.int .i64 (e.loc.length:Nat))/\K.St lbs D w' (e.local' s)/\A4 D w w':=by
 obtain⟨ρ,la,ln,lc,pa,pn,pc,bl,h,hlb⟩:=h;obtain⟨sa,sn,sc,hv⟩:=h.ew;have lb:=A5 hv.cell;have HL:=A0 (R8 (h.Mj hv));have HPu:=A0 (U0 (h.Mj hv) (by rw[Oy];omega) ⟨s.toArray⟩ (by simp));have HPL:=A0 (fun(w1:World) hp=>h.A96 s hv (w1:=w1) hn hp);rw[hlb]at HPL;rw[Oy]at HL;clear h hv;go_enter Tryz.func81,Tryz.ntmps81;go_wp2_with fail
 refine HL.o.mono ?_;rintro r w ⟨rfl,rfl⟩;go_wp2_with fail
 refine HPu.o.mono ?_;rintro r w1 ⟨rfl,hp⟩;have Bh:=A0 (HPL.o w1 hp);obtain⟨g,cap,Ad,_,_⟩:=hp;have C8:=A0 (R8 (w:=w1.drew) ⟨Ad.blk,Ad.cell,Bb Ad.own (fun _ _ _=>rfl),Ad.ne⟩);have c4:=Ac Ad.blk 4 (.int .i64 (e.slots:Nat)) (by simp);have F7:=A5 Ad.blk;have f1:=Ce Ad.blk;rw[List.length_append,Oy]at C8;clear Ad HL HPu;go_wp2;refine Mu 11 (by kernel_rfl) (by kernel_rfl) ?_;simp only[List.take_succ_cons,List.take_zero,List.drop_succ_cons,List.drop_zero];iterate 9 (refine Gv (fun K' hK'=>?_);go_simp;refine hK' _ ?_;clear hK' K')
 refine Gv (fun K' hK'=>?_);go_simp;refine⟨_,C8.o,hK' _ ?_⟩;clear hK' K';refine Gv (fun K' hK'=>?_);go_simp;have hmax:(if(e.slots:Int)<(e.loc.length:Int)+1 then(e.loc.length:Int)+1 else(e.slots:Int))=((max e.slots (e.loc.length+1):Nat):Int):=by
  split <;> omega
 rw[hmax];refine hK' _ ?_;clear hK' K' hmax;refine Mt ?_;go_wp2;go_ret;obtain⟨k1,k2⟩:=Bh.o;exact⟨rfl,k1.drewN 1,k2.trans (Hi D _ 1)⟩
def Lz(K:EC)(l:A2)(c:BT A2):Prop:=∀(lbs:List Nat) (D:Nat->Prop) (w:World) (e:Em) (v:Value) (ks:List Value),
 K.St lbs D w e->Ba D w l v ks->Aj D w c ks->Lp (nd l c) e.lps.length->Da e->e.st.length+2*bsize (nd l c)<=800000->e.loc.length+bsize (nd l c)<=90000->e.lps.length+bsize (nd l c)<=90000->
 Calls Tryz.prog 56 #[.pointer (some ⟨K.wb,0,none⟩),v] w fun r w'=>r=.returned (.tuple #[])/\K.St lbs D w' (Am K.fns K.gl l (A8 c) (em K.fns K.gl c) e)/\A4 D w w'
theorem Lp.nd{x y:Nat}{l:A2}{c r:BT A2}{n:Nat}(h:Lp (.node x y l c r) n):Lp (nd l c) n:=⟨h.1,h.2.1,trivial⟩
theorem Lp.drop:∀(i:Nat) (c:BT A2) (n:Nat),Lp c n->Lp (Au i c) n:=by
 intro i;induction i with
 | zero=>intro c n h;rw[show Au 0 c=c from by cases c <;> rfl];exact h
 | succ i ih=>
  intro c n h;cases c with
  | nil=>exact h
  | node x y l c r=>exact ih r n h.2.2
end
section
set_option maxRecDepth 100000
open Go.RowKit
open Go.Deep (BT)
theorem A0h(K:EC)(c:BT A2)(hok:Co (Lz K) c)(lbs:List Nat)(D:Nat->Prop)(w:World)(e:Em)(va:Option Addr)(vn vc:Nat)(ks:List Value)
  (hst:K.St lbs D w e) (hown:C1 D w 142 1 (.slice va vn vc) ks.length ks) (hrep:Aj D w c ks) (hlp:Lp c e.lps.length) (hbb:Da e) (hsz:e.st.length+2*bsize c<=800000) (hlo:e.loc.length+bsize c<=90000) (hll:e.lps.length+bsize c<=90000) :
  Calls Tryz.prog 82 #[.pointer (some ⟨K.wb,0,none⟩),.slice va vn vc] w fun r w'=>r=.returned (.tuple #[])/\K.St lbs D w' (em K.fns K.gl c 0 e)/\A4 D w w':=by
 have hvn:vn=ks.length:=(C9 hown.1).1;subst hvn;have Dk:=A0 hst;have HOwn:=A0 hown;have HRep:=A0 hrep;have hlen:=hrep.len;have HLen:=A0 hlen;have HLp:=A0 hlp;have hls:=Kl c;have hkl:ks.length<=400000:=by omega
 have HBb0:=A0 hbb;clear hst hown hrep hlen hlp hbb;go_enter Tryz.func82,Tryz.ntmps82;go_wp2;go_loopg [8] ks.length (fun k v wr=>∃(i:Nat) (ei:Em),v=.int .i64 i/\i+k=ks.length/\K.St lbs D wr ei/\em K.fns K.gl (Au i c) 0 ei=em K.fns K.gl c 0 e/\ei.lps.length=e.lps.length/\Da ei/\ei.st.length+2*bsize (Au i c)<=800000/\ei.loc.length+bsize (Au i c)<=90000/\bsize (Au i c)<=bsize c/\A4 D w wr)
 case atStart=>exact⟨0,e,rfl,by omega,Dk.o,rfl,rfl,HBb0.o,hsz,hlo,Nat.le_refl _,A4.refl _ _⟩
 case round=>
  clear Dk HBb0;obtain⟨i,ei,rfl,hik,hst,hse,hli,hbb,hsi,hci,hbi,hbel⟩:=hrel;have HBb:=A0 hbb;have HSt:=A0 hst;have HSe:=A0 hse;have HLi:=A0 hli;have HBel:=A0 hbel;clear hst hse hbel hli hbb;by_cases hlt:i<ks.length
  ·have hr:=HRep.o.Be HBel.o;obtain⟨x,y,l,cc,r,hd,v,ks',hv,hn,hrk⟩:=Aj.at' i c ks hr (by rw[←HLen.o];exact hlt);obtain⟨g,rfl,_,hcap,lg,hcell⟩:=Fs (HOwn.o.Be HBel.o).1 (by omega);have d0:=hcell i v hv;have hE:=A0 (hok.at' i c x y l cc r hd);have hz:bsize (Au i c)=bsize (nd l cc)+bsize r:=by rw[hd,B8,bsize]
   have hdn:=Ko i c x y l cc r hd;have HNx:Hid (em K.fns K.gl (Au (i+1) c) 0 (Am K.fns K.gl l (A8 cc) (em K.fns K.gl cc) ei)=em K.fns K.gl c 0 e):=by
    show _=_;rw[hdn,←HSe.o,hd,Jk]
   have hsn:(Am K.fns K.gl l (A8 cc) (em K.fns K.gl cc) ei).st.length+2*bsize (Au (i+1) c)<=800000:=by
    have:=Hj K.fns K.gl l cc ei;rw[hdn];omega
   have hcn:(Am K.fns K.gl l (A8 cc) (em K.fns K.gl cc) ei).loc.length+bsize (Au (i+1) c)<=90000/\bsize (Au (i+1) c)<=bsize c:=by
    have:=A51 K.fns K.gl l cc ei;rw[hdn];omega
   have HLn:Hid ((Am K.fns K.gl l (A8 cc) (em K.fns K.gl cc) ei).lps.length=e.lps.length):=(Yd K.fns K.gl l cc ei).trans HLi.o;have hlpn:Lp (nd l cc) ei.lps.length:=by
    have:=Lp.drop i c _ HLp.o;rw[hd,←HLi.o]at this;exact this.nd
   have HC:=A0 (hE.out lbs D wr ei v ks' HSt.o hn hrk hlpn HBb.o (by omega) (by omega) (by have:=HLi.o;omega));have HSn:=A0 hsn;have HBn:=A0 (Sz K.fns K.gl l cc ei HBb.o);have HCn:=A0 hcn;clear hr hd hv hn hrk hcell hsn hz hcn hdn hlpn;go_wp2_with fail
   refine HC.o.mono ?_;rintro r' w1 ⟨rfl,Ad,A3⟩;have Aq:=A0 Ad;have Ab:Hid (A4 D w w1):=HBel.o.trans A3;clear Ad A3;go_wp2;go_roundg (gk-1)
   case measure=>omega
   case rel=>exact⟨i+1,_,rfl,by omega,Aq.o,HNx.o,HLn.o,HBn.o,HSn.o,HCn.o.1,HCn.o.2,Ab.o⟩
  ·have HE:Hid (ei=em K.fns K.gl c 0 e):=by
    have h0:Au i c=.nil:=by
     have:A8 (Au i c)=0:=by rw[L4,←HLen.o];omega
     cases hd:Au i c with
     | nil=>rfl
     | node x y l c r=>rw[hd]at this;simp[A8]at this
    have:=HSe.o;rw[h0]at this;exact this
   go_wp2;go_end0;rw[←HE.o];exact⟨rfl,HSt.o,HBel.o⟩
theorem Si(K:EC)(c:BT A2)(hok:Co (Lz K) c)(lbs:List Nat)(D:Nat->Prop)(w:World)(e:Em)(va:Option Addr)(vn vc:Nat)(ks:List Value)
  (hst:K.St lbs D w e) (hown:C1 D w 142 1 (.slice va vn vc) ks.length ks) (hrep:Aj D w c ks) (hlp:Lp c e.lps.length) (hbb:Da e) (hsz:e.st.length+2*bsize c<=800000) (hlo:e.loc.length+bsize c<=90000) (hll:e.lps.length+bsize c<=90000) :
  Calls Tryz.prog 143 #[.pointer (some ⟨K.wb,0,none⟩),.slice va vn vc] w fun r w'=>r=.returned (.tuple #[])/\K.St lbs D w' ((em K.fns K.gl c 0 e).cut e.loc.length)/\A4 D w w':=by
 have HC:=A0 (A0h K c hok lbs D w e va vn vc ks hst hown hrep hlp hbb hsz hlo hll);have hlb:=hst.lo.2.1;have hl1:e.loc.length<=(em K.fns K.gl c 0 e).loc.length:=A57 K.fns K.gl c 0 e;obtain⟨ρ,la,ln,lc,pa,pn,pc,bl,h,_⟩:=hst;obtain⟨sa,sn,sc,hv⟩:=h.ew;have HL:=A0 (R8 (h.Mj hv));rw[Oy]at HL;clear h hv hown hrep hlp hbb;go_enter Tryz.func143,Tryz.ntmps143;go_wp2_with fail
 refine HL.o.mono ?_;rintro r w ⟨rfl,rfl⟩;go_wp2_with fail
 refine HC.o.mono ?_;rintro r w1 ⟨rfl,Ad,A3⟩;have hlb1:=Ad.lo.2.1;have Ab:=A0 A3;obtain⟨ρ,la,ln,lc,pa,pn,pc,bl,h,hlb⟩:=Ad;obtain⟨sa,sn,sc,hv⟩:=h.ew;have HCut:=A0 (W4 (h.Mj hv) e.loc.length (by rw[Oy];exact hl1) (by simp));have HTo:=A0 (fun(w2:World) hp=>h.Xi e.loc.length hv (w':=w2) hp);rw[hlb]at HTo;clear h hv A3;go_wp2_with fail
 refine HCut.o.mono ?_;rintro r w2 ⟨rfl,hp⟩;obtain⟨k1,k2⟩:=HTo.o w2 hp;have Bi:=A0 k1;have Ai:Hid (A4 D w w2):=Ab.o.trans k2;clear hp k1 k2;go_wp2;go_end0;exact⟨rfl,Bi.o,Ai.o⟩
theorem Ae8(K:EC)(l:A2)(c:BT A2)(hk:l.kd=27)(hwf:Wf 0 c):Lz K l c:=by
 intro lbs D w e v ks hst hn hr hlp hbb hsz hlo hll;obtain⟨hlw,lcb,hncb⟩:=hst.lo;have hnds:=B8 l c;unfold Ba at hn;rw[if_neg (by omega)]at hn;obtain⟨b,cs,rfl,hD,hb,hl⟩:=hn;have e1:C3 l.kd=265:=by rw[hk];rfl
 have e2:Db l.kd=267:=by rw[hk];rfl
 rw[e1];rw[e2]at hb;unfold Ck at hl;simp only[hk]at hl;rw[Xx hk];obtain⟨a,rfl,rfl⟩:=hl;obtain⟨x1,y1,l1,c1,r1,Cx,rfl,B1,B0,hz⟩:=hr.cons';obtain rfl:=hz.nil';have C4:bsize (.node x1 y1 l1 c1 .nil)=bsize (nd l1 c1):=by rw[B8,bsize];rfl
 have hlen1:=Hj K.fns K.gl l1 c1 e;have hloc1:(Am K.fns K.gl l1 (A8 c1) (em K.fns K.gl c1) e).loc.length<=e.loc.length:=by rw[(O6 K.fns K.gl l1 c1 hwf.exs.1 hwf.exs.2.1 e).2.1];exact Nat.le_refl _
 have hxs:=hwf.exs;rw[Jk,em];have HC:=A0 (hst.expr hxs.1 hxs.2.1 B1 B0 (by omega));have HBk:=A0 hb;have d1:=Ac hb 1 a rfl;have ld:=A5 hb;have D4:=Nx 265 (by decide);have Dt:=P8 265 (by decide);have Er:=Q9 265 (by decide);have Fm:=R9 265 (by decide);have Gs:=Se 265 (by decide);have Iy:=Tz 265 (by decide);have Kh:=Abb;clear hst hb e1 e2 hk hr B1 B0 hz hwf hxs hlp hbb;generalize Is:Am K.fns K.gl l1 (A8 c1) (em K.fns K.gl c1) e=Bp at *;unfold Bx;go_enter Tryz.func56,Tryz.ntmps56;go_wp2_with fail
 refine(HC.o).mono ?_;rintro r w1 ⟨rfl,Ad,A3⟩;have Aq:=A0 Ad;have Ab:=A0 A3;have B7:=(A3.block b hD).trans HBk.o;have HBk1:=A0 B7;clear Ad A3 d1 ld;have d0:w1.cell? ⟨b,0,none⟩=some (.int .i64 (l.line:Nat)):=Ac B7 0 _ rfl;have ld:=A5 B7;clear B7;go_wp2_with fail
 refine(Aq.o.step (by omega) 41 0 l.line).mono ?_;rintro r w2 ⟨rfl,Av,A9⟩;have Bi:=A0 Av;have Ai:Hid (A4 D w w2):=Ab.o.trans A9;clear Av A9;go_wp2;go_end0;subst Is;exact⟨rfl,Bi.o,Ai.o⟩
theorem Ae4(K:EC)(l:A2)(c:BT A2)(hk:l.kd=30)(hwf:Wf 0 c):Lz K l c:=by
 intro lbs D w e v ks hst hn hr hlp hbb hsz hlo hll;obtain⟨hlw,lcb,hncb⟩:=hst.lo;have hnds:=B8 l c;unfold Ba at hn;rw[if_neg (by omega)]at hn;obtain⟨b,cs,rfl,hD,hb,hl⟩:=hn;have e1:C3 l.kd=270:=by rw[hk];rfl
 have e2:Db l.kd=272:=by rw[hk];rfl
 rw[e1];rw[e2]at hb;unfold Ck at hl;simp only[hk]at hl;rw[Y1 hk];obtain⟨a,rfl,rfl⟩:=hl;obtain⟨x1,y1,l1,c1,r1,Cx,rfl,B1,B0,hz⟩:=hr.cons';obtain rfl:=hz.nil';have C4:bsize (.node x1 y1 l1 c1 .nil)=bsize (nd l1 c1):=by rw[B8,bsize];rfl
 have hlen1:=Hj K.fns K.gl l1 c1 e;have hloc1:(Am K.fns K.gl l1 (A8 c1) (em K.fns K.gl c1) e).loc.length<=e.loc.length:=by rw[(O6 K.fns K.gl l1 c1 hwf.exs.1 hwf.exs.2.1 e).2.1];exact Nat.le_refl _
 have hxs:=hwf.exs;rw[Jk,em];have HC:=A0 (hst.expr hxs.1 hxs.2.1 B1 B0 (by omega));have HBk:=A0 hb;have d1:=Ac hb 0 a rfl;have ld:=A5 hb;have D4:=Nx 270 (by decide);have Dt:=P8 270 (by decide);have Er:=Q9 270 (by decide);have Fm:=R9 270 (by decide);have Gs:=Se 270 (by decide);have Iy:=Tz 270 (by decide);have Kh:=Wc 270 (by decide);have ta7:=Abv 270 (by decide);have ta8:=Ab8;clear hst hb e1 e2 hk hr B1 B0 hz hwf hxs hlp hbb;generalize Is:Am K.fns K.gl l1 (A8 c1) (em K.fns K.gl c1) e=Bp at *;unfold Bx;go_enter Tryz.func56,Tryz.ntmps56;go_wp2_with fail
 refine(HC.o).mono ?_;rintro r w1 ⟨rfl,Ad,A3⟩;have Aq:=A0 Ad;have Ab:=A0 A3;clear Ad A3 d1 ld;go_wp2_with fail
 refine(Aq.o.step (by omega) 5 0 0).mono ?_;rintro r w2 ⟨rfl,Av,A9⟩;have Bi:=A0 Av;have Ai:Hid (A4 D w w2):=Ab.o.trans A9;clear Av A9;go_wp2;go_end0;subst Is;exact⟨rfl,Bi.o,Ai.o⟩
theorem Ae7(K:EC)(l:A2)(c:BT A2)(hk:l.kd=21)(hwf:Wf 0 c):Lz K l c:=by
 intro lbs D w e v ks hst hn hr hlp hbb hsz hlo hll;obtain⟨hlw,lcb,hncb⟩:=hst.lo;have hnds:=B8 l c;unfold Ba at hn;rw[if_neg (by omega)]at hn;obtain⟨b,cs,rfl,hD,hb,hl⟩:=hn;have e1:C3 l.kd=145:=by rw[hk];rfl
 have e2:Db l.kd=152:=by rw[hk];rfl
 rw[e1];rw[e2]at hb;unfold Ck at hl;simp only[hk]at hl;rw[A4y hk];obtain⟨a,rfl,rfl⟩:=hl;obtain⟨x1,y1,l1,c1,r1,Cx,rfl,B1,B0,hz⟩:=hr.cons';obtain rfl:=hz.nil';have C4:bsize (.node x1 y1 l1 c1 .nil)=bsize (nd l1 c1):=by rw[B8,bsize];rfl
 have hlen1:=Hj K.fns K.gl l1 c1 e;have hloc1:(Am K.fns K.gl l1 (A8 c1) (em K.fns K.gl c1) e).loc.length<=e.loc.length:=by rw[(O6 K.fns K.gl l1 c1 hwf.exs.1 hwf.exs.2.1 e).2.1];exact Nat.le_refl _
 have hxs:=hwf.exs;rw[Jk,em];have HC:=A0 (hst.expr hxs.1 hxs.2.1 B1 B0 (by omega));have HBk:=A0 hb;have d1:=Ac hb 2 a rfl;have ld:=A5 hb;have D4:=p8;clear hst hb e1 e2 hk hr B1 B0 hz hwf hxs hlp hbb;generalize Is:Am K.fns K.gl l1 (A8 c1) (em K.fns K.gl c1) e=Bp at *;unfold Bx;go_enter Tryz.func56,Tryz.ntmps56;go_wp2_with fail
 refine(HC.o).mono ?_;rintro r w1 ⟨rfl,Ad,A3⟩;have Aq:=A0 Ad;have Ab:=A0 A3;have B7:=(A3.block b hD).trans HBk.o;have HBk1:=A0 B7;clear Ad A3 d1 ld;have d0:w1.cell? ⟨b,1,none⟩=some (.string ⟨l.s.toArray⟩):=Ac B7 1 _ rfl;have ld:=A5 B7;clear B7;go_wp2_with fail
 refine(A0c Aq.o (by omega) l.s).mono ?_;rintro r w2 ⟨rfl,Av,A9⟩;have Bi:=A0 Av;have Ai:Hid (A4 D w w2):=Ab.o.trans A9;clear Av A9;go_wp2_with fail
 refine(Bi.o.step (by show Bp.st.length<=_;omega) 3 (Bp.loc.length:Nat) 0).mono ?_;rintro r w3 ⟨rfl,At,Ar⟩;have Df:=A0 At;have B4:Hid (A4 D w w3):=Ai.o.trans Ar;clear At Ar;go_wp2;go_end0;subst Is;exact⟨rfl,Df.o,B4.o⟩
theorem Aed(K:EC)(l:A2)(c:BT A2)(hk:l.kd=24)(hwf:Wf 0 c)  (lbs:List Nat) (D:Nat->Prop) (w:World) (e:Em) (b:Nat) (a:Value) (ks:List Value) (hst:K.St lbs D w e) (hb:w.heap[b]?=some (.cells #[.int .i64 (l.line:Nat),a] 318 (0,0))) (hks:(ks=[]/\a=.nilIface)\/ks=[a]) (hr:Aj D w c ks) (hsz:e.st.length+2*bsize (nd l c)<=800000) :
  Calls Tryz.prog 95 #[.pointer (some ⟨K.wb,0,none⟩),.pointer (some ⟨b,0,none⟩)] w fun r w'=>r=.returned (.tuple #[])/\K.St lbs D w' (Am K.fns K.gl l (A8 c) (em K.fns K.gl c) e)/\A4 D w w':=by
 obtain⟨hlw,lcb,hncb⟩:=hst.lo;have hnds:=B8 l c;rw[Xu hk];have d1:=Ac hb 1 _ rfl;have ld:=A5 hb;have HBk:=A0 hb;rcases hks with⟨rfl,rfl⟩|rfl
 ·rw[hr.nil'];have HC:=A0 (hst.step (by omega) 43 0 0);clear hst hb hr hwf hk;go_enter Tryz.func95,Tryz.ntmps95;go_wp2_with fail
  refine HC.o.mono ?_;rintro r w1 ⟨rfl,Ad,A3⟩;have Aq:=A0 Ad;have Ab:=A0 A3;clear Ad A3;go_wp2;refine bodyPost_ret (v:=.tuple #[]) (by simp[results,Tryz.results95,go_sem]) rfl ?_;exact⟨rfl,Aq.o,Ab.o⟩
 ·obtain⟨x1,y1,l1,c1,r1,Cx,rfl,B1,B0,hz⟩:=hr.cons';obtain rfl:=hz.nil';have hxs:=hwf.exs;have C4:bsize (.node x1 y1 l1 c1 .nil)=bsize (nd l1 c1):=by rw[B8,bsize];rfl
  have hlen1:=Hj K.fns K.gl l1 c1 e;rw[if_neg (by simp[A8]),Jk,em];obtain⟨t,x,rfl⟩:∃t x,a=.iface t x:=B1.isIface (Oo hxs.1).1 (Oo hxs.1).2.1;have HC:=A0 (hst.expr hxs.1 hxs.2.1 B1 B0 (by omega));clear hst hb hr hwf hk B1 B0 hz hxs;generalize Is:Am K.fns K.gl l1 (A8 c1) (em K.fns K.gl c1) e=Bp at *;go_enter Tryz.func95,Tryz.ntmps95;go_wp2_with fail
  refine HC.o.mono ?_;rintro r w1 ⟨rfl,Ad,A3⟩;have Aq:=A0 Ad;have Ab:=A0 A3;clear Ad A3;go_wp2_with fail
  refine(Aq.o.step (by omega) 44 0 0).mono ?_;rintro r w2 ⟨rfl,Av,A9⟩;have Bi:=A0 Av;have Ai:Hid (A4 D w w2):=Ab.o.trans A9;clear Av A9;go_wp2;go_end0;subst Is;exact⟨rfl,Bi.o,Ai.o⟩
theorem Ae6(K:EC)(l:A2)(c:BT A2)(hk:l.kd=24)(hwf:Wf 0 c):Lz K l c:=by
 intro lbs D w e v ks hst hn hr hlp hbb hsz hlo hll;obtain⟨hlw,lcb,hncb⟩:=hst.lo;have hnds:=B8 l c;unfold Ba at hn;rw[if_neg (by omega)]at hn;obtain⟨b,cs,rfl,hD,hb,hl⟩:=hn;have e1:C3 l.kd=257:=by rw[hk];rfl
 have e2:Db l.kd=318:=by rw[hk];rfl
 rw[e1];rw[e2]at hb;unfold Ck at hl;simp only[hk]at hl;obtain⟨a,rfl,hks⟩:=hl;have HC:=A0 (Aed K l c hk hwf lbs D w e b a ks hst hb hks hr hsz);have ld:=A5 hb;have D4:=Nx 257 (by decide);have Dt:=P8 257 (by decide);have Er:=Q9 257 (by decide);have Fm:=Abc;clear hst hb e1 e2 hk hr hwf hlp hbb hks;unfold Bx;go_enter Tryz.func56,Tryz.ntmps56;go_wp2_with fail
 refine(HC.o).mono ?_;rintro r w1 ⟨rfl,Ad,A3⟩;have Aq:=A0 Ad;have Ab:=A0 A3;clear Ad A3;go_wp2;go_end0;exact⟨rfl,Aq.o,Ab.o⟩
theorem Aeg(K:EC)(l:A2)(c:BT A2)(hk:l.kd=28)(hwf:Wf 0 c)(lbs:List Nat)(D:Nat->Prop)(w:World)(e:Em)(b:Nat)(b2:Nat)(a:Value)(hD2:D b2)(hb:w.heap[b]?=some (.cells #[.iface 238 (Bx b2),a] 322 (0,0)))(A9:w.heap[b2]?=some (.cells #[Gz l.line,Ln l.s] 240 (0,0)))(hr:Aj D w c [a])(hst:K.St lbs D w e)(hsz:e.st.length+2*bsize (nd l c)<=800000) :
  Calls Tryz.prog 97 #[.pointer (some ⟨K.wb,0,none⟩),.pointer (some ⟨b,0,none⟩)] w fun r w'=>r=.returned (.tuple #[])/\K.St lbs D w' (Am K.fns K.gl l (A8 c) (em K.fns K.gl c) e)/\A4 D w w':=by
 obtain⟨hlw,lcb,hncb⟩:=hst.lo;have hnds:=B8 l c;rw[Xy hk];obtain⟨x1,y1,l1,c1,r1,Cx,rfl,B1,B0,hz⟩:=hr.cons';obtain rfl:=hz.nil';have hxs:=hwf.exs;have C4:bsize (.node x1 y1 l1 c1 .nil)=bsize (nd l1 c1):=by rw[B8,bsize];rfl
 have hlen1:=Hj K.fns K.gl l1 c1 e;rw[Jk,em];have HC:=A0 (hst.expr hxs.1 hxs.2.1 B1 B0 (by omega));have Ai:=A0 A9;have d0:=Ac hb 0 _ rfl;have d1:=Ac hb 1 a rfl;have ld:=A5 hb;have D4:=A0m;clear hst hb hr hwf hk B1 B0 hz hxs A9;generalize Is:Am K.fns K.gl l1 (A8 c1) (em K.fns K.gl c1) e=Bp at *;unfold Bx at d0;go_enter Tryz.func97,Tryz.ntmps97;go_wp2_with fail
 refine(HC.o).mono ?_;rintro r w1 ⟨rfl,Ad,A3⟩;have Aq:=A0 Ad;have Ab:=A0 A3;have B7:=(A3.block b2 hD2).trans Ai.o;clear Ad A3 d0 d1 ld;have d1:w1.cell? ⟨b2,1,none⟩=some (.string ⟨l.s.toArray⟩):=Ac B7 1 _ rfl;have ld:=A5 B7;clear B7;go_wp2_with fail
 refine(Aq.o.var (by omega) l.s 3 4).mono ?_;rintro r w2 ⟨rfl,Av,A9⟩;have Bi:=A0 Av;have HBB:Hid (A4 D w w2):=Ab.o.trans A9;clear Av A9;go_wp2;go_end0;subst Is;exact⟨rfl,Bi.o,HBB.o⟩
theorem Aea(K:EC)(l:A2)(c:BT A2)(hk:l.kd=28)(hwf:Wf 0 c):Lz K l c:=by
 intro lbs D w e v ks hst hn hr hlp hbb hsz hlo hll;obtain⟨hlw,lcb,hncb⟩:=hst.lo;have hnds:=B8 l c;unfold Ba at hn;rw[if_neg (by omega)]at hn;obtain⟨b,cs,rfl,hD,hb,hl⟩:=hn;have e1:C3 l.kd=268:=by rw[hk];rfl
 have e2:Db l.kd=322:=by rw[hk];rfl
 rw[e1];rw[e2]at hb;unfold Ck at hl;simp only[hk]at hl;obtain⟨b2,a,rfl,hD2,A9,rfl⟩:=hl;have HC:=A0 (Aeg K l c hk hwf lbs D w e b b2 a hD2 hb A9 hr hst hsz);have ld:=A5 hb;have D4:=Nx 268 (by decide);have Dt:=P8 268 (by decide);have Er:=Q9 268 (by decide);have Fm:=R9 268 (by decide);have Gs:=Se 268 (by decide);have Iy:=Tz 268 (by decide);have Kh:=Wc 268 (by decide);have ta7:=p9;clear hst hb e1 e2 hk hr hlp hbb hwf A9;unfold Bx;go_enter Tryz.func56,Tryz.ntmps56;go_wp2_with fail
 refine(HC.o).mono ?_;rintro r w1 ⟨rfl,Ad,A3⟩;have Aq:=A0 Ad;have Ab:=A0 A3;clear Ad A3;go_wp2;go_end0;exact⟨rfl,Aq.o,Ab.o⟩
theorem Aef(K:EC)(l:A2)(c:BT A2)(hk:l.kd=29)(hwf:Wf 0 c)(lbs:List Nat)(D:Nat->Prop)(w:World)(e:Em)(b:Nat)(b2:Nat)(o p a:Value)(hD:D b)(hD2:D b2)(hb:w.heap[b]?=some (.cells #[.iface 310 (Bx b2),a] 322 (0,0)))(A9:w.heap[b2]?=some (.cells #[Gz l.line,o,p] 312 (0,0)))(hr:Aj D w c [o,p,a])(hst:K.St lbs D w e)(hsz:e.st.length+2*bsize (nd l c)<=800000) :
  Calls Tryz.prog 97 #[.pointer (some ⟨K.wb,0,none⟩),.pointer (some ⟨b,0,none⟩)] w fun r w'=>r=.returned (.tuple #[])/\K.St lbs D w' (Am K.fns K.gl l (A8 c) (em K.fns K.gl c) e)/\A4 D w w':=by
 obtain⟨hlw,lcb,hncb⟩:=hst.lo;have hnds:=B8 l c;rw[Xz hk];obtain⟨x1,y1,l1,c1,r1,Cx,rfl,B1,B0,hz⟩:=hr.cons';obtain⟨x2,y2,l2,c2,r2,Ho,rfl,D9,Bt,Bv⟩:=hz.cons';obtain⟨x3,y3,l3,c3,r3,ks3,rfl,hn3,Cs,Gi⟩:=Bv.cons';obtain rfl:=Gi.nil';have G0:=hwf.exs;have G9:=G0.2.2.exs;have hx3:=G9.2.2.exs;have C4:bsize (.node x1 y1 l1 c1 (.node x2 y2 l2 c2 (.node x3 y3 l3 c3 .nil)))=bsize (nd l1 c1)+bsize (nd l2 c2)+bsize (nd l3 c3):=by rw[B8,B8,B8,bsize,bsize,bsize,bsize];omega
 rw[Jk,Jk,Jk,em];have hl1:=Hj K.fns K.gl l1 c1 e;have J5:=Hj K.fns K.gl l2 c2 (Am K.fns K.gl l1 (A8 c1) (em K.fns K.gl c1) e);have hl3:=Hj K.fns K.gl l3 c3 (Am K.fns K.gl l2 (A8 c2) (em K.fns K.gl c2) (Am K.fns K.gl l1 (A8 c1) (em K.fns K.gl c1) e));have I3:=A0 (hst.expr G0.1 G0.2.1 B1 B0 (by omega));have E8:=A0 (fun(W:World) (e2:Em) (he:e2.st.length+2*bsize (nd l2 c2)<=800000) (hx:K.St lbs D W e2) (hbd:A4 D w W)=>hx.expr G9.1 G9.2.1 (D9.Be hbd) (Bt.Be hbd) he);have HC3:=A0 (fun(W:World) (e2:Em) (he:e2.st.length+2*bsize (nd l3 c3)<=800000) (hx:K.St lbs D W e2) (hbd:A4 D w W)=>hx.expr hx3.1 hx3.2.1 (hn3.Be hbd) (Cs.Be hbd) he);have HBk:=A0 hb;have HBj:=A0 A9;have d0:=Ac hb 0 _ rfl;have ld:=A5 hb;have g1:=Ac A9 1 o rfl;have lg:=A5 A9;have D4:=O1 310 (by decide);have Dt:=A0k;clear hst hb hr hwf hk B1 B0 hz A9 D9 Bt Bv hn3 Cs Gi G0 G9 hx3;generalize Is:Am K.fns K.gl l1 (A8 c1) (em K.fns K.gl c1) e=Bp at *;generalize hE2:Am K.fns K.gl l2 (A8 c2) (em K.fns K.gl c2) Bp=Fh at *;generalize hE3:Am K.fns K.gl l3 (A8 c3) (em K.fns K.gl c3) Fh=em3 at *;unfold Bx at d0;go_enter Tryz.func97,Tryz.ntmps97;go_wp2_with fail
 refine(I3.o).mono ?_;rintro r w1 ⟨rfl,Ad,A3⟩;have Aq:=A0 Ad;have Ab:=A0 A3;have hbj1:=(A3.block b2 hD2).trans HBj.o;have HBj1:=A0 hbj1;have HBk1:=A0 ((A3.block b hD).trans HBk.o);clear Ad A3 d0 g1 ld lg;have g2:=Ac hbj1 2 p rfl;have lg:=A5 hbj1;clear hbj1;go_wp2_with fail
 refine(E8.o _ _ (by omega) Aq.o Ab.o).mono ?_;rintro r w2 ⟨rfl,Av,A9⟩;rw[hE2]at Av;have Bi:=A0 Av;have Ai:Hid (A4 D w w2):=Ab.o.trans A9;have Cw:=(A9.block b hD).trans HBk1.o;have HBj2:=A0 ((A9.block b2 hD2).trans HBj1.o);clear Av A9 g2 lg;have d1:=Ac Cw 1 a rfl;have ld:=A5 Cw;clear Cw;go_wp2_with fail
 refine(HC3.o _ _ (by omega) Bi.o Ai.o).mono ?_;rintro r w3 ⟨rfl,At,Ar⟩;rw[hE3]at At;have Df:=A0 At;have B4:Hid (A4 D w w3):=Ai.o.trans Ar;have hbj3:=(Ar.block b2 hD2).trans HBj2.o;clear At Ar d1 ld;have g0:w3.cell? ⟨b2,0,none⟩=some (.int .i64 (l.line:Nat)):=Ac hbj3 0 _ rfl;have lg:=A5 hbj3;clear hbj3;go_wp2_with fail
 refine(Df.o.step (by omega) 40 0 l.line).mono ?_;rintro r w4 ⟨rfl,Dx,Bc⟩;have Ia:=A0 Dx;have Dm:Hid (A4 D w w4):=B4.o.trans Bc;clear Dx Bc;go_wp2;go_end0;exact⟨rfl,Ia.o,Dm.o⟩
theorem Ae9(K:EC)(l:A2)(c:BT A2)(hk:l.kd=29)(hwf:Wf 0 c):Lz K l c:=by
 intro lbs D w e v ks hst hn hr hlp hbb hsz hlo hll;obtain⟨hlw,lcb,hncb⟩:=hst.lo;have hnds:=B8 l c;unfold Ba at hn;rw[if_neg (by omega)]at hn;obtain⟨b,cs,rfl,hD,hb,hl⟩:=hn;have e1:C3 l.kd=268:=by rw[hk];rfl
 have e2:Db l.kd=322:=by rw[hk];rfl
 rw[e1];rw[e2]at hb;unfold Ck at hl;simp only[hk]at hl;obtain⟨b2,o,p,a,rfl,hD2,A9,rfl⟩:=hl;have HC:=A0 (Aef K l c hk hwf lbs D w e b b2 o p a hD hD2 hb A9 hr hst hsz);have ld:=A5 hb;have D4:=Nx 268 (by decide);have Dt:=P8 268 (by decide);have Er:=Q9 268 (by decide);have Fm:=R9 268 (by decide);have Gs:=Se 268 (by decide);have Iy:=Tz 268 (by decide);have Kh:=Wc 268 (by decide);have ta7:=p9;clear hst hb e1 e2 hk hr hlp hbb hwf A9;unfold Bx;go_enter Tryz.func56,Tryz.ntmps56;go_wp2_with fail
 refine(HC.o).mono ?_;rintro r w1 ⟨rfl,Ad,A3⟩;have Aq:=A0 Ad;have Ab:=A0 A3;clear Ad A3;go_wp2;go_end0;exact⟨rfl,Aq.o,Ab.o⟩
def Qh(K:EC)(l:A2)(c:BT A2):Prop:=(l.kd=31\/l.kd=32)->Co (Lz K) c
theorem A4d(d:Em):d.cut d.loc.length=d:=by
 unfold Em.cut;rw[List.take_length]
theorem O5(n:Nat)(e:Em):(e.cut n).st.length=e.st.length:=rfl
theorem A4w(fns:List (Nm×Nat))(gl:List Nm)(line x1 y1 x2 y2:Nat)(l1 l2:A2)(c1 c2:BT A2)(e:Em)(h31:l2.kd=31) :
  Mf line (A8 (.node x1 y1 l1 c1 (.node x2 y2 l2 c2 .nil))) (em fns gl (.node x1 y1 l1 c1 (.node x2 y2 l2 c2 .nil))) e =
   ((((em fns gl c2 0 ((Am fns gl l1 (A8 c1) (em fns gl c1) e).step 8 0 line)).cut (Am fns gl l1 (A8 c1) (em fns gl c1) e).loc.length).step 6 0 0).land (Am fns gl l1 (A8 c1) (em fns gl c1) e).st.length).land (em fns gl c2 0 ((Am fns gl l1 (A8 c1) (em fns gl c1) e).step 8 0 line)).st.length:=by
 simp[Mf,Qq,T1,A8,Sy h31];rfl
theorem A4x(fns:List (Nm×Nat))(gl:List Nm)(line x1 y1 x2 y2 x3 y3:Nat)(l1 l2 l3:A2)(c1 c2 c3:BT A2)(e:Em)(h31:l2.kd=31)(h32:l3.kd=31) :
  Mf line (A8 (.node x1 y1 l1 c1 (.node x2 y2 l2 c2 (.node x3 y3 l3 c3 .nil)))) (em fns gl (.node x1 y1 l1 c1 (.node x2 y2 l2 c2 (.node x3 y3 l3 c3 .nil)))) e =
   ((em fns gl c3 0 ((((em fns gl c2 0 ((Am fns gl l1 (A8 c1) (em fns gl c1) e).step 8 0 line)).cut (Am fns gl l1 (A8 c1) (em fns gl c1) e).loc.length).step 6 0 0).land (Am fns gl l1 (A8 c1) (em fns gl c1) e).st.length)).cut
    ((em fns gl c2 0 ((Am fns gl l1 (A8 c1) (em fns gl c1) e).step 8 0 line)).cut (Am fns gl l1 (A8 c1) (em fns gl c1) e).loc.length).loc.length).land (em fns gl c2 0 ((Am fns gl l1 (A8 c1) (em fns gl c1) e).step 8 0 line)).st.length:=by
 simp[Mf,Qq,T1,A59,A8,Sy h31,Sy h32];rfl
theorem Aec(K:EC)(l:A2)(c:BT A2)(hk:l.kd=22)(ih:Co (Qh K) c)(hwf:Wf 2 c)(lbs:List Nat)(D:Nat->Prop)(w:World)(e:Em)(b:Nat)(t:TypeId)(x:Value)(s1:Option Addr)(n1 m1:Nat)(s2:Option Addr)(n2 m2:Nat)(ks:List Value)(hD:D b)
  (hb:w.heap[b]?=some (.cells #[.int .i64 (l.line:Nat),.iface t x,.slice s1 n1 m1,.slice s2 n2 m2] 314 (0,0))) (hks:(ks=[.iface t x,.slice s1 n1 m1]/\Value.slice s2 n2 m2=.slice none 0 0)\/ks=[.iface t x,.slice s1 n1 m1,.slice s2 n2 m2])
  (hr:Aj D w c ks) (hst:K.St lbs D w e) (hlp:Lp (nd l c) e.lps.length) (hbb:Da e) (hsz:e.st.length+2*bsize (nd l c)<=800000) (hlo:e.loc.length+bsize (nd l c)<=90000) (hll:e.lps.length+bsize (nd l c)<=90000) :
  Calls Tryz.prog 93 #[.pointer (some ⟨K.wb,0,none⟩),.pointer (some ⟨b,0,none⟩)] w fun r w'=>r=.returned (.tuple #[])/\K.St lbs D w' (Am K.fns K.gl l (A8 c) (em K.fns K.gl c) e)/\A4 D w w':=by
 obtain⟨hlw,lcb,hncb⟩:=hst.lo;have hnds:=B8 l c;rw[Xs hk];have HBk:=A0 hb;have d1:=Ac hb 1 _ rfl;have ld:=A5 hb;rcases hks with⟨rfl,Av⟩|rfl
 ·obtain⟨x1,y1,l1,c1,r1,Cx,rfl,B1,B0,hz⟩:=hr.cons';obtain⟨x2,y2,l2,c2,r2,Ho,rfl,D9,Bt,hzz⟩:=hz.cons';obtain rfl:=hzz.nil';injection Av with q1 q2 q3;subst q1 q2 q3;obtain⟨G0,G9⟩:=hwf.Mh.1 B1.Qv.1;obtain⟨Bk,Ap⟩:=D9.Ou;obtain⟨h31,_⟩:=hwf.1.Mh.2 Bk;have C4:bsize (.node x1 y1 l1 c1 (.node x2 y2 l2 c2 .nil))=bsize (nd l1 c1)+1+l2.ps.length+bsize c2:=by rw[B8];simp only[bsize];omega
  have hl1:=Hj K.fns K.gl l1 c1 e;have J5:=(On K.fns K.gl c2).1 ((Am K.fns K.gl l1 (A8 c1) (em K.fns K.gl c1) e).step 8 0 l.line);have Eo:=Ro K.fns K.gl c2 0 ((Am K.fns K.gl l1 (A8 c1) (em K.fns K.gl c1) e).step 8 0 l.line);rw[Ds]at J5 Eo;have hsm:=O6 K.fns K.gl l1 c1 G0 G9 e;have hlc1:(Am K.fns K.gl l1 (A8 c1) (em K.fns K.gl c1) e).loc.length<=e.loc.length:=by rw[hsm.2.1];exact Nat.le_refl _
  have HLp1:Hid ((Am K.fns K.gl l1 (A8 c1) (em K.fns K.gl c1) e).lps.length=e.lps.length):=by show _=_;rw[hsm.1]
  have HLpc:Hid (Lp (.node x1 y1 l1 c1 (.node x2 y2 l2 c2 .nil)) e.lps.length):=by have:=hlp.2.1;rw[if_neg (by omega)]at this;exact this
  have hpc2:Lp c2 e.lps.length:=by have:=HLpc.o.2.2.2.1;rw[if_neg (by omega)]at this;exact this
  have HLp2:Hid ((em K.fns K.gl c2 0 ((Am K.fns K.gl l1 (A8 c1) (em K.fns K.gl c1) e).step 8 0 l.line)).lps.length=e.lps.length):=(Uz _ _ _ _ _).trans HLp1.o;rw[A4w K.fns K.gl l.line x1 y1 x2 y2 l1 l2 c1 c2 e h31];have I3:=A0 (hst.expr G0 G9 B1 B0 (by omega));have HBm1:=A0 (Sz K.fns K.gl l1 c1 e hbb);have HBm2:=A0 (T0 K.fns K.gl c2 0 _ (HBm1.o.step 8 0 l.line));have E8:=A0 (fun(W:World) (e2:Em) (hx:K.St lbs D W e2) (hbd:A4 D w W) (h1:e2.st.length+2*bsize c2<=800000) (h2:e2.loc.length+bsize c2<=90000) (h3:e2.lps.length=e.lps.length) (h4:Da e2)=>Si K c2 (ih.2.1 Bk) lbs D W e2 s1 n1 m1 Ho hx (Ap.Be hbd) (Bt.Be hbd) (by rw[h3];exact hpc2) h4 h1 h2 (by omega));have HC3:=A0 (fun(W:World) (e2:Em) (hx:K.St lbs D W e2) (h1:e2.st.length<=800000) (h2:e2.loc.length<=90000) (h3:e2.lps.length<=90000) (h4:Da e2)=>Si K .nil trivial lbs D W e2 none 0 0 [] hx (M7 _ _ _ _) rfl trivial h4 (by simp only[bsize];omega) (by simp only[bsize];omega) (by simp only[bsize];omega));clear hst hb hr hbb B1 B0 hz ih hwf hk D9 Bt hzz G0 G9 Bk Ap hlp hsm hpc2 HLpc h31;generalize Is:Am K.fns K.gl l1 (A8 c1) (em K.fns K.gl c1) e=Bp at *;generalize hE2:em K.fns K.gl c2 0 (Bp.step 8 0 l.line)=Fh at *;go_enter Tryz.func93,Tryz.ntmps93;go_wp2_with fail
  refine(I3.o).mono ?_;rintro r w1 ⟨rfl,Ad,A3⟩;have Aq:=A0 Ad;have Ab:Hid (A4 D w w1):=A3;have B7:=(Ab.o.block b hD).trans HBk.o;clear Ad A3 ld;clear d1;have d0:w1.cell? ⟨b,0,none⟩=some (.int .i64 (l.line:Nat)):=Ac B7 0 _ rfl;have ld:=A5 B7;clear B7;go_wp2_with fail
  refine(Aq.o.step (by omega) 8 0 l.line).mono ?_;rintro r w2 ⟨rfl,Av,A9⟩;have Bi:=A0 Av;have Ai:Hid (A4 D w w2):=Ab.o.trans A9;have Cw:=(Ai.o.block b hD).trans HBk.o;clear Av A9 ld;clear d0;have d2:=Ac Cw 2 _ rfl;have ld:=A5 Cw;clear Cw;go_wp2_with fail
  refine(E8.o _ _ Bi.o Ai.o (by rw[Ds];omega) (by show Bp.loc.length+_<=_;omega) HLp1.o (HBm1.o.step _ _ _)).mono ?_;rintro r w3 ⟨rfl,At,Ar⟩;rw[hE2]at At;have Df:=A0 At;have B4:Hid (A4 D w w3):=Ai.o.trans Ar;have En:=(B4.o.block b hD).trans HBk.o;clear At Ar ld;clear d2;have ld:=A5 En;clear En;go_wp2_with fail
  refine(Df.o.step (by show Fh.st.length<=_;omega) 6 0 0).mono ?_;rintro r w4 ⟨rfl,Dx,Bc⟩;have Ia:=A0 Dx;have Dm:Hid (A4 D w w4):=B4.o.trans Bc;have hbk4:=(Dm.o.block b hD).trans HBk.o;clear Dx Bc ld;have ld:=A5 hbk4;clear hbk4;have hm1:(Fh.cut (Bp.step 8 0 l.line).loc.length).loc.length<=Bp.loc.length:=by show(Fh.loc.take Bp.loc.length).length<=_;simp;omega
  go_wp2_with fail
  refine(Ia.o.land Bp.st.length (by rw[Ds,O5];omega)).mono ?_;rintro r w5 ⟨rfl,C0,C7⟩;have HS5:=A0 C0;have Fo:Hid (A4 D w w5):=Dm.o.trans C7;have hbk5:=(Fo.o.block b hD).trans HBk.o;clear C0 C7 ld;have d3:=Ac hbk5 3 _ rfl;have ld:=A5 hbk5;clear hbk5;go_wp2_with fail
  refine(HC3.o _ _ HS5.o (by rw[Lb,Ds,O5];omega) (by show(Fh.cut (Bp.step 8 0 l.line).loc.length).loc.length<=_;omega) (by have:=HLp2.o;show Fh.lps.length<=_;omega) (((HBm2.o.cut _).step _ _ _).land _)).mono ?_;rintro r w6 ⟨rfl,E5,Kq⟩;rw[em,A4d]at E5;have HS6:=A0 E5;have K3:Hid (A4 D w w6):=Fo.o.trans Kq;have hbk6:=(K3.o.block b hD).trans HBk.o;clear E5 Kq ld;clear d3;have ld:=A5 hbk6;clear hbk6;go_wp2_with fail
  refine(HS6.o.land Fh.st.length (by rw[Lb,Ds,O5];omega)).mono ?_;rintro r w7 ⟨rfl,Fz,Jl⟩;have HS7:=A0 Fz;have HB7:Hid (A4 D w w7):=K3.o.trans Jl;clear Fz Jl;go_wp2;go_end0;exact⟨rfl,HS7.o,HB7.o⟩
 ·obtain⟨x1,y1,l1,c1,r1,Cx,rfl,B1,B0,hz⟩:=hr.cons';obtain⟨x2,y2,l2,c2,r2,Ho,rfl,D9,Bt,hzz⟩:=hz.cons';obtain⟨x3,y3,l3,c3,r3,ks3,rfl,hn3,Cs,Gi⟩:=hzz.cons';obtain rfl:=Gi.nil';obtain⟨G0,G9⟩:=hwf.Mh.1 B1.Qv.1;obtain⟨Bk,Ap⟩:=D9.Ou;obtain⟨h31,_⟩:=hwf.1.Mh.2 Bk;obtain⟨hk3,Af⟩:=hn3.Ou;obtain⟨h33,_⟩:=hwf.1.1.Mh.2 hk3;have C4:bsize (.node x1 y1 l1 c1 (.node x2 y2 l2 c2 (.node x3 y3 l3 c3 .nil)))=bsize (nd l1 c1)+1+l2.ps.length+bsize c2+1+l3.ps.length+bsize c3:=by rw[B8];simp only[bsize];omega
  have hl1:=Hj K.fns K.gl l1 c1 e;have J5:=(On K.fns K.gl c2).1 ((Am K.fns K.gl l1 (A8 c1) (em K.fns K.gl c1) e).step 8 0 l.line);have Eo:=Ro K.fns K.gl c2 0 ((Am K.fns K.gl l1 (A8 c1) (em K.fns K.gl c1) e).step 8 0 l.line);rw[Ds]at J5 Eo;have hsm:=O6 K.fns K.gl l1 c1 G0 G9 e;have hlc1:(Am K.fns K.gl l1 (A8 c1) (em K.fns K.gl c1) e).loc.length<=e.loc.length:=by rw[hsm.2.1];exact Nat.le_refl _
  have HLp1:Hid ((Am K.fns K.gl l1 (A8 c1) (em K.fns K.gl c1) e).lps.length=e.lps.length):=by show _=_;rw[hsm.1]
  have HLpc:Hid (Lp (.node x1 y1 l1 c1 (.node x2 y2 l2 c2 (.node x3 y3 l3 c3 .nil))) e.lps.length):=by have:=hlp.2.1;rw[if_neg (by omega)]at this;exact this
  have hpc2:Lp c2 e.lps.length:=by have:=HLpc.o.2.2.2.1;rw[if_neg (by omega)]at this;exact this
  have HLp2:Hid ((em K.fns K.gl c2 0 ((Am K.fns K.gl l1 (A8 c1) (em K.fns K.gl c1) e).step 8 0 l.line)).lps.length=e.lps.length):=(Uz _ _ _ _ _).trans HLp1.o;have hpc3:Lp c3 e.lps.length:=by have:=HLpc.o.2.2.2.2.2.1;rw[if_neg (by omega)]at this;exact this
  rw[A4x K.fns K.gl l.line x1 y1 x2 y2 x3 y3 l1 l2 l3 c1 c2 c3 e h31 h33];have I3:=A0 (hst.expr G0 G9 B1 B0 (by omega));have HBm1:=A0 (Sz K.fns K.gl l1 c1 e hbb);have HBm2:=A0 (T0 K.fns K.gl c2 0 _ (HBm1.o.step 8 0 l.line));have E8:=A0 (fun(W:World) (e2:Em) (hx:K.St lbs D W e2) (hbd:A4 D w W) (h1:e2.st.length+2*bsize c2<=800000) (h2:e2.loc.length+bsize c2<=90000) (h3:e2.lps.length=e.lps.length) (h4:Da e2)=>Si K c2 (ih.2.1 Bk) lbs D W e2 s1 n1 m1 Ho hx (Ap.Be hbd) (Bt.Be hbd) (by rw[h3];exact hpc2) h4 h1 h2 (by omega));have HC3:=A0 (fun(W:World) (e2:Em) (hx:K.St lbs D W e2) (hbd:A4 D w W) (h1:e2.st.length+2*bsize c3<=800000) (h2:e2.loc.length+bsize c3<=90000) (h3:e2.lps.length=e.lps.length) (h4:Da e2)=>Si K c3 (ih.2.2.1 hk3) lbs D W e2 s2 n2 m2 ks3 hx (Af.Be hbd) (Cs.Be hbd) (by rw[h3];exact hpc3) h4 h1 h2 (by omega));clear hst hb hr hbb B1 B0 hz ih hwf hk D9 Bt hzz G0 G9 Bk Ap hlp hsm hpc2 HLpc h31 hn3 Cs Gi hk3 Af hpc3 h33;generalize Is:Am K.fns K.gl l1 (A8 c1) (em K.fns K.gl c1) e=Bp at *;generalize hE2:em K.fns K.gl c2 0 (Bp.step 8 0 l.line)=Fh at *;go_enter Tryz.func93,Tryz.ntmps93;go_wp2_with fail
  refine(I3.o).mono ?_;rintro r w1 ⟨rfl,Ad,A3⟩;have Aq:=A0 Ad;have Ab:Hid (A4 D w w1):=A3;have B7:=(Ab.o.block b hD).trans HBk.o;clear Ad A3 ld;clear d1;have d0:w1.cell? ⟨b,0,none⟩=some (.int .i64 (l.line:Nat)):=Ac B7 0 _ rfl;have ld:=A5 B7;clear B7;go_wp2_with fail
  refine(Aq.o.step (by omega) 8 0 l.line).mono ?_;rintro r w2 ⟨rfl,Av,A9⟩;have Bi:=A0 Av;have Ai:Hid (A4 D w w2):=Ab.o.trans A9;have Cw:=(Ai.o.block b hD).trans HBk.o;clear Av A9 ld;clear d0;have d2:=Ac Cw 2 _ rfl;have ld:=A5 Cw;clear Cw;go_wp2_with fail
  refine(E8.o _ _ Bi.o Ai.o (by rw[Ds];omega) (by show Bp.loc.length+_<=_;omega) HLp1.o (HBm1.o.step _ _ _)).mono ?_;rintro r w3 ⟨rfl,At,Ar⟩;rw[hE2]at At;have Df:=A0 At;have B4:Hid (A4 D w w3):=Ai.o.trans Ar;have En:=(B4.o.block b hD).trans HBk.o;clear At Ar ld;clear d2;have ld:=A5 En;clear En;go_wp2_with fail
  refine(Df.o.step (by show Fh.st.length<=_;omega) 6 0 0).mono ?_;rintro r w4 ⟨rfl,Dx,Bc⟩;have Ia:=A0 Dx;have Dm:Hid (A4 D w w4):=B4.o.trans Bc;have hbk4:=(Dm.o.block b hD).trans HBk.o;clear Dx Bc ld;have ld:=A5 hbk4;clear hbk4;have hm1:(Fh.cut (Bp.step 8 0 l.line).loc.length).loc.length<=Bp.loc.length:=by show(Fh.loc.take Bp.loc.length).length<=_;simp;omega
  go_wp2_with fail
  refine(Ia.o.land Bp.st.length (by rw[Ds,O5];omega)).mono ?_;rintro r w5 ⟨rfl,C0,C7⟩;have HS5:=A0 C0;have Fo:Hid (A4 D w w5):=Dm.o.trans C7;have hbk5:=(Fo.o.block b hD).trans HBk.o;clear C0 C7 ld;have d3:=Ac hbk5 3 _ rfl;have ld:=A5 hbk5;clear hbk5;have hl3:=(On K.fns K.gl c3).1 (((Fh.cut (Bp.step 8 0 l.line).loc.length).step 6 0 0).land Bp.st.length);have hg3:=Ro K.fns K.gl c3 0 (((Fh.cut (Bp.step 8 0 l.line).loc.length).step 6 0 0).land Bp.st.length);rw[Lb,Ds,O5]at hg3 hl3;go_wp2_with fail
  refine(HC3.o _ _ HS5.o Fo.o (by rw[Lb,Ds,O5];omega) (by show(Fh.cut (Bp.step 8 0 l.line).loc.length).loc.length+_<=_;omega) HLp2.o (((HBm2.o.cut _).step _ _ _).land _)).mono ?_;rintro r w6 ⟨rfl,E5,Kq⟩;have HS6:=A0 E5;have K3:Hid (A4 D w w6):=Fo.o.trans Kq;have hbk6:=(K3.o.block b hD).trans HBk.o;clear E5 Kq ld;clear d3;have ld:=A5 hbk6;clear hbk6;go_wp2_with fail
  refine(HS6.o.land Fh.st.length (by rw[O5];omega)).mono ?_;rintro r w7 ⟨rfl,Fz,Jl⟩;have HS7:=A0 Fz;have HB7:Hid (A4 D w w7):=K3.o.trans Jl;clear Fz Jl;go_wp2;go_end0;exact⟨rfl,HS7.o,HB7.o⟩
theorem Ae5(K:EC)(l:A2)(c:BT A2)(hk:l.kd=22)(ih:Co (Qh K) c)(hwf:Wf 2 c):Lz K l c:=by
 intro lbs D w e v ks hst hn hr hlp hbb hsz hlo hll;obtain⟨hlw,lcb,hncb⟩:=hst.lo;have hnds:=B8 l c;unfold Ba at hn;rw[if_neg (by omega)]at hn;obtain⟨b,cs,rfl,hD,hb,hl⟩:=hn;have e1:C3 l.kd=253:=by rw[hk];rfl
 have e2:Db l.kd=314:=by rw[hk];rfl
 rw[e1];rw[e2]at hb;unfold Ck at hl;simp only[hk]at hl;obtain⟨t,x,s1,n1,m1,s2,n2,m2,rfl,hks⟩:=hl;have HC:=A0 (Aec K l c hk ih hwf lbs D w e b t x s1 n1 m1 s2 n2 m2 ks hD hb hks hr hst hlp hbb hsz hlo hll);have ld:=A5 hb;have D4:=Nx 253 (by decide);have Dt:=Aba;clear hst hb e1 e2 hk hr hlp hbb hks ih hwf;unfold Bx;go_enter Tryz.func56,Tryz.ntmps56;go_wp2_with fail
 refine(HC.o).mono ?_;rintro r w1 ⟨rfl,Ad,A3⟩;have Aq:=A0 Ad;have Ab:=A0 A3;clear Ad A3;go_wp2;go_end0;exact⟨rfl,Aq.o,Ab.o⟩
end
section
set_option maxRecDepth 100000
open Go.RowKit
open Go.Deep (BT)
variable {K:EC}{D:Nat->Prop}{w:World}{e:Em}{ρ:Nat->Nat}{la:Option Addr}{ln lc:Nat}{pa:Option Addr}{pn pc:Nat}{lb:Nat}{ba:Option Addr}{bn bc:Nat}{br:List LB}
theorem EC.St.top{K:EC}{lbs:List Nat}{D:Nat->Prop}{w:World}{e:Em}(h:K.St lbs D w e)(h0:e.lps.length≠0)(hb:e.lps.length<=90000) :
  ∃lb lr s bs r ba bn bc,lbs=lb::lr/\e.lps=(s,bs)::r/\lb<w.heap.size/\w.heap[lb]?=some (.cells #[.int .i64 (s:Nat),.slice ba bn bc] 263 (0,0))/\w.ownsRow 0 3 1 (.slice ba bn bc) (Cr bs).length (Cr bs)/\bn=bs.length/\
   Calls Tryz.prog 96 #[.pointer (some ⟨K.wb,3,none⟩)] w (fun r' w'=>r'=.returned (.pointer (some ⟨lb,0,none⟩))/\w'=w):=by
 obtain⟨ρ,la,ln,lc,pa,pn,pc,bl,h,hlb⟩:=h;obtain⟨sa,sn,sc,hv⟩:=h.ew;have hlp:=h.lps;have hln:=hlp.len;cases hq:e.lps with
 | nil=>rw[hq]at h0;exact absurd rfl h0
 | cons x r=>
  cases hbl:bl with
  | nil=>rw[hbl,hq]at hlp;exact hlp.elim
  | cons b br=>
   rw[hbl,hq]at hlp;obtain⟨k1,k2,k3,k4,k5⟩:=hlp;have hst:=h.Qb hv;rw[hbl]at hst;have hl:((b::br).map fun b=>Bx b.1).reverse.length=br.length+1:=by simp
   have hbr:br.length<=90000:=by rw[hbl]at hln;simp at hln;omega
   have ht:=y9 hst (by rw[hl];omega) br.length (by rw[hl];omega) hl;have hx:(((b::br).map fun b=>Bx b.1).reverse)[br.length]'(by rw[hl];omega)=.pointer (some ⟨b.1,0,none⟩):=by
    simp[Bx]
   rw[hx]at ht;refine⟨b.1,br.map Prod.fst,x.1,x.2,r,b.2.1,b.2.2.1,b.2.2.2,by rw[←hlb,hbl];rfl,rfl,A5 k1,k1,k2,?_,ht⟩;have:=(C9 k2).1;rw[this];simp[Cr]
theorem EC.Sv.Zf(h:K.Sv D w e ρ la ln lc pa pn pc ((lb,ba,bn,bc)::br)){s:Nat}{bs:List Nat}{r:List (Nat×List Nat)}(hq:e.lps=(s,bs)::r) :
  w.heap[lb]?=some (.cells #[.int .i64 (s:Nat),.slice ba bn bc] 263 (0,0)):=by
 have:=h.lps;rw[hq]at this;exact this.1
theorem EC.Sv.Vf(h:K.Sv D w e ρ la ln lc pa pn pc ((lb,ba,bn,bc)::br)){s:Nat}{bs:List Nat}{r:List (Nat×List Nat)}(hq:e.lps=(s,bs)::r) :
  w.ownsRow 0 3 1 (.slice ba bn bc) (Cr bs).length (Cr bs):=by
 have:=h.lps;rw[hq]at this;exact this.2.1
theorem EC.Sv.A70(h:K.Sv D w e ρ la ln lc pa pn pc ((lb,ba,bn,bc)::br)){s:Nat}{bs:List Nat}{r:List (Nat×List Nat)}(hq:e.lps=(s,bs)::r) :
  (Value.slice ba bn bc).ownBlock≠some lb:=by
 have:=h.lps;rw[hq]at this;intro e1;have h1:=this.2.2.2.1 lb e1;have h2:=this.2.2.1;simp only at h2;omega
theorem Ae3(K:EC)(l:A2)(c:BT A2)(hk:l.kd=26):Lz K l c:=by
 intro lbs D w e v ks hst hn hr hlp hbb hsz hlo hll;obtain⟨hlw,lcb,hncb⟩:=hst.lo;have hnds:=B8 l c;unfold Ba at hn;rw[if_neg (by omega)]at hn;obtain⟨b,cs,rfl,hD,hb,hl⟩:=hn;have e1:C3 l.kd=264:=by rw[hk];rfl
 have e2:Db l.kd=368:=by rw[hk];rfl
 rw[e1];rw[e2]at hb;unfold Ck at hl;simp only[hk]at hl;rw[Xw hk];obtain⟨rfl,rfl⟩:=hl;have hn0:e.lps.length≠0:=hlp.1 (.inr hk);obtain⟨lb,lr,s,bs,r,ba,bn,bc,rfl,hq,llb,hlb,hown,rfl,HT⟩:=hst.top hn0 (by omega);have hE:e.cnt=e.step 6 (s:Nat) 0:=by unfold Em.cnt;rw[hq]
 rw[hE];have HSt:=A0 (hst.step (by omega) 6 (s:Nat) 0);have HTop:=A0 HT;have g0:=Ac hlb 0 _ rfl;have ld:=A5 hb;have D4:=Nx 264 (by decide);have Dt:=P8 264 (by decide);have Er:=Q9 264 (by decide);have Fm:=R9 264 (by decide);have Gs:=Se 264 (by decide);have Iy:=Ab7;clear hst hb e1 e2 hk hr hlp hbb hq hE HT hown hn0 hlb;unfold Bx;go_enter Tryz.func56,Tryz.ntmps56;go_wp2_with fail
 refine HTop.o.mono ?_;rintro r w ⟨rfl,rfl⟩;go_wp2_with fail
 refine(HSt.o).mono ?_;rintro r w1 ⟨rfl,Ad,A3⟩;have Aq:=A0 Ad;have Ab:=A0 A3;clear Ad A3;go_wp2;go_end0;exact⟨rfl,Aq.o,Ab.o⟩
theorem Ae2(K:EC)(l:A2)(c:BT A2)(hk:l.kd=25):Lz K l c:=by
 intro lbs D w e v ks hst hn hr hlp hbb hsz hlo hll;obtain⟨hlw,lcb,hncb⟩:=hst.lo;have hnds:=B8 l c;unfold Ba at hn;rw[if_neg (by omega)]at hn;obtain⟨b,cs,rfl,hD,hb,hl⟩:=hn;have e1:C3 l.kd=259:=by rw[hk];rfl
 have e2:Db l.kd=367:=by rw[hk];rfl
 rw[e1];rw[e2]at hb;unfold Ck at hl;simp only[hk]at hl;rw[Xv hk];obtain⟨rfl,rfl⟩:=hl;have hn0:e.lps.length≠0:=hlp.1 (.inl hk);obtain⟨lb,lr,s,bs,r,ba,bn,bc,rfl,hq,llb,_,_,rfl,HT⟩:=hst.top hn0 (by omega);have HTop:=A0 HT;obtain⟨ρ,la,ln,lc,pa,pn,pc,bl,h,hlb⟩:=hst;obtain⟨b2,br,rfl⟩:∃b2 br,bl=b2::br:=by
  cases bl with
  | nil=>simp at hlb
  | cons b2 br=>exact⟨b2,br,rfl⟩
 simp only[List.map_cons,List.cons.injEq]at hlb;obtain⟨rfl,rfl⟩:=hlb;have hlps:=h.lps;rw[hq]at hlps;obtain⟨k1,k2,k3,k4,k5⟩:=hlps;obtain⟨lb,ba,bn,bc⟩:=b2;simp only[Oc]at k1 k2 k4 llb HTop HT k3;have hbn:bn=(Cr bs).length:=(C9 k2).1;have hbk:(Cr bs).length=bs.length:=by simp[Cr]
 subst hbn;obtain⟨hd,hdb⟩:=h.Oz (Hi _ w 1) (h.Ny.drewN 1) rfl;have HStep:=A0 (Ly hd.ew (by omega) 6 0 0);have HD:=A0 hd;have hbs:bs.length<=800000:=by
  have:=(hbb (s,bs) (by rw[hq];simp)).1;simp only at this;omega
 have hbl:(Cr bs).length<=800000:=by rw[hbk];exact hbs
 clear hbk hbs;have g0:=Ac k1 0 _ rfl;have g1:=Ac k1 1 _ rfl;have fz:=Ce k1;have HK1:=A0 k1;have HK3:=A0 k3;have HE:Hid (e.M0=⟨e.loc,e.slots,e.st++[⟨6,0,0,Nb⟩],(s,bs++[e.st.length])::r⟩):=by show _=_;unfold Em.M0;rw[hq]
 have HQ:=A0 hq;have ld:=A5 hb;have D4:=Nx 259 (by decide);have Dt:=P8 259 (by decide);have Er:=Q9 259 (by decide);have Fm:=R9 259 (by decide);have Gs:=Ab6;clear hb e1 e2 hk hr hlp hbb HT hn0 h hd hdb k1 k2 k3 k4 k5 hq;unfold Bx;go_enter Tryz.func56,Tryz.ntmps56;go_wp2_with fail
 refine HTop.o.mono ?_;rintro r w ⟨rfl,rfl⟩;go_wp2_with fail
 go_region_law (first
  | (refine P9 _ w5.heap.size #[.int .i64 (e.st.length:Nat)] 3 (heap_alloc_new w5 (.cells #[.int .i64 (e.st.length:Nat)] 3)) rfl (.tmp 62) (.tmp 65) 34 rfl 0 1 8 (.int .i64 0) Tryz.underlying34 V6 rfl (by omega) (.slice ba (Cr bs).length bc) (Cr bs).length (Cr bs) rfl rfl (Fj.alloc _) rfl (fun u hu=>by simp at hu;rw[hu];rfl) (by omega) (by omega) (Nat.zero_le _) ?_;intro g6 cap6 w6 hown6 hgrow6' hat6' hg6;have hgrow6:w5.grownBy w6 (Value.slice ba (Cr bs).length bc).ownBlock:=N6 (World.grownBy_alloc w5 (.cells #[.int .i64 (e.st.length:Nat)] 3) none) hgrow6';have hat6:(Value.slice ba (Cr bs).length bc).ownBlock=some g6\/w5.heap.size<=g6:=(hat6'.imp id (fun e=>by rw[e];simp));have hl6:=(hgrow6.block lb l5 (fun e=>hnl5 e.symm)).trans hl5;have q1:=Ac hl6 1 _ rfl;have fq:=Ce hl6;have lq:=A5 hl6;clear hl6 hgrow6' hat6')
  | (refine Nf rfl 55 _ _ rfl #[.pointer (some ⟨K.wb,0,none⟩),.int .i64 6,.int .i64 0,.int .i64 0] (by kernel_rfl) HStep.o ?_;rintro r5 w5 ⟨rfl,C0,C7⟩;refine⟨_,rfl,?_⟩;have Jo:=HD.o.Oz C7 (HD.o.Ny.next (e':=e.step 6 0 0) C7 C0 rfl) rfl;have hl5:w5.heap[lb]?=some (.cells #[.int .i64 (s:Nat),.slice ba (Cr bs).length bc] 263 (0,0)):=Jo.1.Zf HQ.o;have Fj:w5.ownsRow 0 3 1 (.slice ba (Cr bs).length bc) (Cr bs).length (Cr bs):=Jo.1.Vf HQ.o;have hnl5:(Value.slice ba (Cr bs).length bc).ownBlock≠some lb:=Jo.1.A70 HQ.o;have l5:=A5 hl5;have z0:=Ac hl5 0 _ rfl;have z1:=Ac hl5 1 _ rfl;have f5:=Ce hl5;have HV5:=A0 Jo;clear C0 C7 Jo))
 all_goals go_wp2
 all_goals go_end0
 all_goals
  obtain⟨k1,k2⟩:=HV5.o.1.A1j HQ.o e.st.length hown6 hgrow6 hat6;rw[HE.o];exact⟨rfl,k1,(Hi D w 1).trans (HV5.o.2.trans k2)⟩
end
section
set_option maxRecDepth 100000
open Go.RowKit
open Go.Deep (BT)
theorem A2q{bs:List Nat}{i:Nat}(h:i<bs.length):(Cr bs)[i]?=some (.int .i64 (bs[i]:Nat)):=by
 rw[Cr,List.getElem?_map,List.getElem?_eq_getElem h];rfl
theorem A56(fns:List (Nm×Nat))(gl:List Nm)(line x1 y1 x2 y2:Nat)(l1 l2:A2)(c1 c2:BT A2)(e:Em)(h32:l2.kd=32) :
  N4 line (em fns gl (.node x1 y1 l1 c1 (.node x2 y2 l2 c2 .nil))) e =
   (((((em fns gl c2 0 ((Am fns gl l1 (A8 c1) (em fns gl c1) e.open').step 7 0 line)).cut (Am fns gl l1 (A8 c1) (em fns gl c1) e.open').loc.length).step 6 (e.st.length:Nat) 0).land (Am fns gl l1 (A8 c1) (em fns gl c1) e.open').st.length).Iw
    ((((em fns gl c2 0 ((Am fns gl l1 (A8 c1) (em fns gl c1) e.open').step 7 0 line)).cut (Am fns gl l1 (A8 c1) (em fns gl c1) e.open').loc.length).step 6 (e.st.length:Nat) 0).land (Am fns gl l1 (A8 c1) (em fns gl c1) e.open').st.length).Sr).close:=by
 simp[N4,Qq,T1,Y2 h32];rfl
theorem Aee(K:EC)(l:A2)(c:BT A2)(hk:l.kd=23)(ih:Co (Qh K) c)(hwf:Wf 3 c)(lbs:List Nat)(D:Nat->Prop)(w:World)(e:Em)(b:Nat)(t:TypeId)(x:Value)(s1:Option Addr)(n1 m1:Nat)(hD:D b)
  (hb:w.heap[b]?=some (.cells #[.int .i64 (l.line:Nat),.iface t x,.slice s1 n1 m1] 317 (0,0)))
  (hr:Aj D w c [.iface t x,.slice s1 n1 m1]) (hst:K.St lbs D w e) (hlp:Lp (nd l c) e.lps.length) (hbb:Da e) (hsz:e.st.length+2*bsize (nd l c)<=800000) (hlo:e.loc.length+bsize (nd l c)<=90000) (hll:e.lps.length+bsize (nd l c)<=90000) :
  Calls Tryz.prog 94 #[.pointer (some ⟨K.wb,0,none⟩),.pointer (some ⟨b,0,none⟩)] w fun r w'=>r=.returned (.tuple #[])/\K.St lbs D w' (Am K.fns K.gl l (A8 c) (em K.fns K.gl c) e)/\A4 D w w':=by
 obtain⟨hlw,lcb,hncb⟩:=hst.lo;have hnds:=B8 l c;rw[Xt hk];have HBk:=A0 hb;have d1:=Ac hb 1 _ rfl;have ld:=A5 hb;obtain⟨x1,y1,l1,c1,r1,Cx,rfl,B1,B0,hz⟩:=hr.cons';obtain⟨x2,y2,l2,c2,r2,Ho,rfl,D9,Bt,hzz⟩:=hz.cons';obtain rfl:=hzz.nil';obtain⟨G0,G9⟩:=hwf.Q7.1 B1.Qv.2;obtain⟨Bk,Ap⟩:=D9.Ou;obtain⟨h32,_⟩:=hwf.1.Q7.2 Bk;have C4:bsize (.node x1 y1 l1 c1 (.node x2 y2 l2 c2 .nil))=bsize (nd l1 c1)+1+l2.ps.length+bsize c2:=by rw[B8];simp only[bsize];omega
 have hl1:=Hj K.fns K.gl l1 c1 e.open';have hg1:=Uy K.fns K.gl l1 c1 e.open';have J5:=(On K.fns K.gl c2).1 ((Am K.fns K.gl l1 (A8 c1) (em K.fns K.gl c1) e.open').step 7 0 l.line);have Eo:=Ro K.fns K.gl c2 0 ((Am K.fns K.gl l1 (A8 c1) (em K.fns K.gl c1) e.open').step 7 0 l.line);rw[Ds]at J5 Eo;have B5:e.open'.st.length=e.st.length:=rfl;rw[B5]at hl1 hg1;clear B5;have hsm:=O6 K.fns K.gl l1 c1 G0 G9 e.open';have hlc1:(Am K.fns K.gl l1 (A8 c1) (em K.fns K.gl c1) e.open').loc.length<=e.loc.length:=by rw[hsm.2.1];exact Nat.le_refl _
 have HLp1:Hid ((Am K.fns K.gl l1 (A8 c1) (em K.fns K.gl c1) e.open').lps.length=e.lps.length+1):=by show _=_;rw[hsm.1];rfl
 have hpc2:Lp c2 (e.lps.length+1):=by
  have h1:=hlp.2.1;rw[if_neg (by omega)]at h1;have h2:=h1.2.2.2.1;rw[if_pos h32]at h2;exact h2
 have HSts:Hid (H8 (em K.fns K.gl c2 0 ((Am K.fns K.gl l1 (A8 c1) (em K.fns K.gl c1) e.open').step 7 0 l.line))=e.st.length::H8 e):=by
  show _=_;rw[Yj];show H8 (Am K.fns K.gl l1 (A8 c1) (em K.fns K.gl c1) e.open')=_;unfold H8;rw[hsm.1];rfl
 have HBm1:=A0 (Sz K.fns K.gl l1 c1 e.open' hbb.open');have HBm2:=A0 (T0 K.fns K.gl c2 0 _ (HBm1.o.step 7 0 l.line));rw[A56 K.fns K.gl l.line x1 y1 x2 y2 l1 l2 c1 c2 e h32];have HHere:=A0 hst.here;obtain⟨ρ,la,ln,lc,pa,pn,pc,bl,h,hlb⟩:=hst;have hbl:bl.length<=90000:=by have:=h.lps.len;omega
 have h1:=h.alloc (.cells #[.int .i64 (e.st.length:Nat),.slice none 0 0] 263) (5+2*bl.length) (by omega);have hbd1:A4 D w (w.alloc (.cells #[.int .i64 (e.st.length:Nat),.slice none 0 0] 263)):=(A4.refl D w).alloc hlw _;have hnew:=heap_alloc_new w (.cells #[.int .i64 (e.st.length:Nat),.slice none 0 0] 263);obtain⟨sa,sn,sc,hv⟩:=h1.ew;have HPu:=A0 (Ac4 (h1.Qb hv) (by simp;omega) (some ⟨w.heap.size,0,none⟩) (by simp));have HPL:=A0 (fun(w1:World) hp=>h1.Vv e.st.length w.heap.size hv hnew (My (Nat.le_refl _)) (w':=w1) hp);rw[hlb]at HPL;have I3:=A0 (fun(W:World) (hx:K.St (w.heap.size::lbs) D W e.open') (hbd:A4 D w W)=>hx.expr G0 G9 (B1.Be hbd) (B0.Be hbd) (by show e.st.length+_<=_;omega));have E8:=A0 (fun(W:World) (e2:Em) (hx:K.St (w.heap.size::lbs) D W e2) (hbd:A4 D w W) (h1:e2.st.length+2*bsize c2<=800000) (h2:e2.loc.length+bsize c2<=90000) (h3:e2.lps.length=e.lps.length+1) (h4:Da e2)=>Si K c2 (ih.2.1 Bk) (w.heap.size::lbs) D W e2 s1 n1 m1 Ho hx (Ap.Be hbd) (Bt.Be hbd) (by rw[h3];exact hpc2) h4 h1 h2 (by omega));have HBd1:=A0 hbd1;clear hb hr hbb B1 B0 hz ih hwf hk D9 Bt hzz G0 G9 Bk Ap hlp hsm hpc2 h32 h h1 hv hnew hbd1 hlb;generalize Is:Am K.fns K.gl l1 (A8 c1) (em K.fns K.gl c1) e.open'=Bp at *;generalize hE2:em K.fns K.gl c2 0 (Bp.step 7 0 l.line)=Fh at *;go_enter Tryz.func94,Tryz.ntmps94;go_wp2_with fail
 refine HHere.o.mono ?_;rintro r w ⟨rfl,rfl⟩;go_wp2_with fail
 refine HPu.o.mono ?_;rintro r w1 ⟨rfl,hp⟩;obtain⟨Ad,hb1'⟩:=HPL.o w1 hp;have Aq:=A0 Ad;have Ab:Hid (A4 D w w1):=HBd1.o.trans hb1';have B7:=(Ab.o.block b hD).trans HBk.o;clear Ad hb1' hp d1 ld;have d1:=Ac B7 1 _ rfl;have ld:=A5 B7;clear B7;go_wp2_with fail
 refine(I3.o w1 Aq.o Ab.o).mono ?_;rintro r w2 ⟨rfl,Av,A9⟩;have Bi:=A0 Av;have Ai:Hid (A4 D w w2):=Ab.o.trans A9;have Cw:=(Ai.o.block b hD).trans HBk.o;clear Av A9 ld;clear d1;have d0:w2.cell? ⟨b,0,none⟩=some (.int .i64 (l.line:Nat)):=Ac Cw 0 _ rfl;have ld:=A5 Cw;clear Cw;go_wp2_with fail
 refine(Bi.o.step (by omega) 7 0 l.line).mono ?_;rintro r w3 ⟨rfl,At,Ar⟩;have Df:=A0 At;have B4:Hid (A4 D w w3):=Ai.o.trans Ar;have En:=(B4.o.block b hD).trans HBk.o;clear At Ar ld;clear d0;have d2:=Ac En 2 _ rfl;have ld:=A5 En;clear En;go_wp2_with fail
 refine(E8.o _ _ Df.o B4.o (by rw[Ds];omega) (by show Bp.loc.length+_<=_;omega) HLp1.o (HBm1.o.step _ _ _)).mono ?_;rintro r w4 ⟨rfl,Dx,Bc⟩;rw[hE2]at Dx;have Ia:=A0 Dx;have Dm:Hid (A4 D w w4):=B4.o.trans Bc;have hbk4:=(Dm.o.block b hD).trans HBk.o;clear Dx Bc ld;clear d2;have ld:=A5 hbk4;clear hbk4;have hq0:(Fh.cut (Bp.step 7 0 l.line).loc.length).lps.length≠0:=by
  have:=congrArg List.length HSts.o;simp only[H8,List.length_map,List.length_cons]at this;show Fh.lps.length≠0;omega
 have hq9:(Fh.cut (Bp.step 7 0 l.line).loc.length).lps.length<=90000:=by
  have:=congrArg List.length HSts.o;simp only[H8,List.length_map,List.length_cons]at this;show Fh.lps.length<=90000;omega
 obtain⟨lb,lr,s,bs,r4,ba,bn,bc,hlbs,hq,llb,hlb4,K0,rfl,_⟩:=Ia.o.top hq0 hq9;injection hlbs with hlb5 hlr5;have hs0:s=e.st.length:=by
  have:=HSts.o;have hq':Fh.lps=(s,bs)::r4:=hq;unfold H8 at this;rw[hq']at this;simp only[List.map_cons,List.cons.injEq]at this;exact this.1
 have Ch:r4.length=e.lps.length:=by
  have:=congrArg List.length HSts.o;have hq':Fh.lps=(s,bs)::r4:=hq;unfold H8 at this;rw[hq']at this;simp at this;exact this
 subst hs0;subst hlb5;have g0:=Ac hlb4 0 _ rfl;have HQ:=A0 hq;clear hlb4 K0 hlr5 hq hq0 hq9 llb;go_wp2_with fail
 refine(Ia.o.step (by show Fh.st.length<=_;omega) 6 (e.st.length:Nat) 0).mono ?_;rintro r w5 ⟨rfl,C0,C7⟩;have HS5:=A0 C0;have Fo:Hid (A4 D w w5):=Dm.o.trans C7;have hbk5:=(Fo.o.block b hD).trans HBk.o;clear C0 C7 ld;clear g0;have ld:=A5 hbk5;clear hbk5;go_wp2_with fail
 refine(HS5.o.land Bp.st.length (by rw[Ds,O5];omega)).mono ?_;rintro r w6 ⟨rfl,E5,Kq⟩;have HS6:=A0 E5;have K3:Hid (A4 D w w6):=Fo.o.trans Kq;have hbk6:=(K3.o.block b hD).trans HBk.o;clear E5 Kq ld;have ld:=A5 hbk6;clear hbk6;have HQ6:Hid ((((Fh.cut (Bp.step 7 0 l.line).loc.length).step 6 (e.st.length:Nat) 0).land Bp.st.length).lps=(e.st.length,bs)::r4):=HQ.o;have HBm6:Hid (Da (((Fh.cut (Bp.step 7 0 l.line).loc.length).step 6 (e.st.length:Nat) 0).land Bp.st.length)):=(((HBm2.o.cut _).step _ _ _).land _);have HE6:Hid ((((Fh.cut (Bp.step 7 0 l.line).loc.length).step 6 (e.st.length:Nat) 0).land Bp.st.length).Sr=bs):=by show _=_;unfold Em.Sr;rw[HQ6.o]
 have hbs:bs.length<=800000:=by
  have:=(HBm6.o (e.st.length,bs) (by rw[HQ6.o];simp)).1;rw[Lb,Ds,O5]at this;simp only at this;omega
 generalize hE6:(((Fh.cut (Bp.step 7 0 l.line).loc.length).step 6 (e.st.length:Nat) 0).land Bp.st.length)=em6 at *;have HE6':=A0 hE6;clear hE6;obtain⟨ρ,la,ln,lc,pa,pn,pc,bl,h6,hlb6⟩:=HS6.o;obtain⟨b2,br,rfl⟩:∃b2 br,bl=b2::br:=by
  cases bl with
  | nil=>simp at hlb6
  | cons b2 br=>exact⟨b2,br,rfl⟩
 obtain⟨lb,ba,bn,bc⟩:=b2;simp only[List.map_cons,List.cons.injEq]at hlb6;obtain⟨hlb7,hlbr⟩:=hlb6;subst hlb7;have hl6:=h6.Zf HQ6.o;have hbn:bn=bs.length:=by have:=(C9 (h6.Vf HQ6.o)).1;rw[this];simp[Cr]
 subst hbn;have g1:=Ac hl6 1 _ rfl;have lg:=A5 hl6;have H6:=A0 h6;have HLbr:=A0 hlbr;have hbr:br.length<=90000:=by have:=h6.lps.len;rw[HQ6.o]at this;simp at this;omega
 clear h6 hl6 hlbr;go_wp2;go_loopg [49] bs.length (fun k v wr=>∃(i:Nat) (ρ':Nat->Nat),v=.int .i64 i/\i+k=bs.length/\K.Sv D wr (em6.Iw (bs.take i)) ρ' la ln lc pa pn pc ((w.heap.size,ba,bs.length,bc)::br)/\A4 D w wr)
 case atStart=>exact⟨0,ρ,rfl,by omega,H6.o,K3.o⟩
 case round=>
  clear H6 HS6;obtain⟨i,ρ',rfl,hik,hsv,hbel⟩:=hrel;have HBel:=A0 hbel;have HQi:Hid ((em6.Iw (bs.take i)).lps=(e.st.length,bs)::r4):=(Vb _ _).trans HQ6.o;have hll6:=T6 (bs.take i) em6;clear hbel;by_cases hlt:i<bs.length
  ·obtain⟨g,rfl,hvn9,hcap,lg2,hcell⟩:=Fs (hsv.Vf HQi.o) (by simp[Cr];omega);clear hvn9;have d0:=hcell i _ (A2q hlt);have hjl:bs[i]<(em6.Iw (bs.take i)).st.length:=by
    rw[hll6];exact(HBm6.o (e.st.length,bs) (by rw[HQ6.o];simp)).2 _ (List.getElem_mem hlt)
   have HL:=A0 (Uc hsv.ew bs[i] hjl);have HNx:=A0 (A6m bs i hlt em6);have HV:=A0 hsv;clear hcell hsv hjl hll6;generalize bs[i]=jj at *;go_wp2_with fail
   refine HL.o.mono ?_;rintro r w7 ⟨rfl,Fz,Jl⟩;obtain⟨k1,k2⟩:=HV.o.Oz Jl (HV.o.Ny.next (e':=(em6.Iw (bs.take i)).land jj) Jl Fz rfl) rfl;rw[←HNx.o]at k1;have HK1:=A0 k1;have HB7:Hid (A4 D w w7):=HBel.o.trans k2;clear Fz Jl k1 k2;go_wp2;go_roundg (gk-1)
   case measure=>omega
   case rel=>exact⟨i+1,_,rfl,by omega,HK1.o,HB7.o⟩
  ·obtain rfl:i=bs.length:=by omega
   rw[List.take_length]at hsv;obtain⟨sa,sn,sc,hv⟩:=hsv.ew;have lbw:=A5 hv.cell;have hpl:(((w.heap.size,ba,bs.length,bc)::br:List LB).map fun b=>Bx b.1).reverse.length=br.length+1:=by simp
   have HPo:=A0 (Ac0 (hsv.Qb hv) (by rw[hpl];omega) br.length (by rw[hpl];omega) hpl (by simp));have HPL:=A0 (fun(w9:World) hp=>hsv.A8l hv (w':=w9) hp);rw[HLbr.o]at HPL;clear hsv hv hll6;go_wp2_with fail
   refine HPo.o.mono ?_;rintro r w9 ⟨rfl,hp⟩;obtain⟨k1,k2⟩:=HPL.o w9 hp;have HK1:=A0 k1;have Jv:Hid (A4 D w w9):=HBel.o.trans k2;clear k1 k2 hp;go_wp2;go_end0;have hE7:(((Fh.cut Bp.loc.length).step 6 (e.st.length:Nat) 0).land Bp.st.length)=em6:=HE6'.o;rw[hE7,HE6.o];exact⟨rfl,HK1.o,Jv.o⟩
theorem Aeb(K:EC)(l:A2)(c:BT A2)(hk:l.kd=23)(ih:Co (Qh K) c)(hwf:Wf 3 c):Lz K l c:=by
 intro lbs D w e v ks hst hn hr hlp hbb hsz hlo hll;obtain⟨hlw,lcb,hncb⟩:=hst.lo;have hnds:=B8 l c;unfold Ba at hn;rw[if_neg (by omega)]at hn;obtain⟨b,cs,rfl,hD,hb,hl⟩:=hn;have e1:C3 l.kd=255:=by rw[hk];rfl
 have e2:Db l.kd=317:=by rw[hk];rfl
 rw[e1];rw[e2]at hb;unfold Ck at hl;simp only[hk]at hl;obtain⟨t,x,s1,n1,m1,rfl,rfl⟩:=hl;have HC:=A0 (Aee K l c hk ih hwf lbs D w e b t x s1 n1 m1 hD hb hr hst hlp hbb hsz hlo hll);have ld:=A5 hb;have D4:=Nx 255 (by decide);have Dt:=P8 255 (by decide);have Er:=Abd;clear hst hb e1 e2 hk hr hlp hbb ih hwf;unfold Bx;go_enter Tryz.func56,Tryz.ntmps56;go_wp2_with fail
 refine(HC.o).mono ?_;rintro r w1 ⟨rfl,Ad,A3⟩;have Aq:=A0 Ad;have Ab:=A0 A3;clear Ad A3;go_wp2;go_end0;exact⟨rfl,Aq.o,Ab.o⟩
theorem A0g(K:EC):∀f:BT A2,(Wf 1 f->Co (Lz K) f)/\(Wf 2 f->Co (Qh K) f)/\(Wf 3 f->Co (Qh K) f):=by
 intro f;induction f with
 | nil=>exact⟨fun _=>trivial,fun _=>trivial,fun _=>trivial⟩
 | node x y l c r C2 Bl=>
  obtain⟨i1,i2,i3⟩:=C2;obtain⟨j1,j2,j3⟩:=Bl;refine⟨fun h=>⟨?_,j1 h.1⟩,fun h=>⟨fun hx=>i1 (h.Mh.2 hx).2,j2 h.1⟩,fun h=>⟨fun hx=>i1 (h.Q7.2 hx).2,j3 h.1⟩⟩;rcases h.2 with⟨h0,_⟩|⟨h0,_⟩|⟨h0,_⟩|⟨_,h1,h2⟩|⟨_,h1,h2⟩|⟨_,h1,h2⟩|⟨h0,_⟩
  ·omega
  ·omega
  ·omega
  ·exact Ae5 K l c h1 (i2 h2) h2
  ·exact Aeb K l c h1 (i3 h2) h2
  ·unfold Qa at h1;simp only[Bool.or_eq_true,Bool.and_eq_true,decide_eq_true_eq,beq_iff_eq]at h1;have hc:l.kd=21\/l.kd=24\/l.kd=25\/l.kd=26\/l.kd=27\/l.kd=28\/l.kd=29\/l.kd=30:=by omega
   rcases hc with e|e|e|e|e|e|e|e
   ·exact Ae7 K l c e h2
   ·exact Ae6 K l c e h2
   ·exact Ae2 K l c e
   ·exact Ae3 K l c e
   ·exact Ae8 K l c e h2
   ·exact Aea K l c e h2
   ·exact Ae9 K l c e h2
   ·exact Ae4 K l c e h2
  ·omega
end
section
open Go.RowKit
open Go.Deep (BT)
variable {K:EC} {D:Nat->Prop} {w w':World} {e:Em} {ρ:Nat->Nat} {la:Option Addr} {ln lc:Nat} {pa:Option Addr} {pn pc:Nat} {bl:List LB}
theorem Ik.Qx{fs gs ls ps:Value}{slots:Nat}{st:List G4}{wb te:Nat}{sa:Option Addr}{sn sc:Nat}(h:Ik (dX w.heap.size ρ) wb te w fs gs ls ps slots st sa sn sc)(hone:∀g,ρ g=1->g=wb):∀g,(Value.slice sa sn sc).ownBlock=some g->ρ g=4:=by
 intro g hg;have h1:=h.C5 g hg;have h2:=Ca h.own g hg;by_cases e1:ρ g=1
 ·exact absurd (hone g e1) h1.2
 ·by_cases e4:ρ g=4
  ·exact e4
  ·exact absurd ⟨h2,e1,e4⟩ h1.1
theorem EC.Sv.swap(h:K.Sv D w e ρ la ln lc pa pn pc bl){sa:Option Addr}{sn sc:Nat}(hv:Ik (dX w.heap.size ρ) K.wb K.te w (.slice K.fa K.fn K.fc) (.slice K.ga K.gn K.gc) (.slice la ln lc) (.slice pa pn pc) e.slots e.st sa sn sc)
  (D0:Nat->Prop) {ta:Option Addr} {tn tc:Nat} {st':List G4} {slots':Nat} (hrow:w.ownsRow 0 251 8 (.slice ta tn tc) st'.length (G1 st')) (hT:∀g,(Value.slice ta tn tc).ownBlock=some g->ρ g=0) (hD0:∀g,D0 g->D g/\(Value.slice ta tn tc).ownBlock≠some g)
  (hfr:Je D0 w K.fns K.fa K.fn K.fc) (hgr:C1 D0 w 9 1 (.slice K.ga K.gn K.gc) K.gl.length (D3 K.gl))
  (hcell:w'.heap[K.wb]?=some (.cells #[.slice K.fa K.fn K.fc,.slice K.ga K.gn K.gc,.slice la ln lc,.slice pa pn pc,.int .i64 (slots':Nat),.slice ta tn tc] K.te (0,0))) (y:Nat) (hy:(ρ y=0/\¬D0 y/\(Value.slice ta tn tc).ownBlock≠some y)\/w.heap.size<=y) (hk:∀g,g<w.heap.size->g≠K.wb->g≠y->w'.heap[g]?=w.heap[g]?) (hs:w.heap.size<=w'.heap.size) (ho:w'.os=w.os) (ht:w'.tape=w.tape) (hu:w'.output=w.output) :
  (∃ρ',K.Sv (fun g=>D0 g\/(Value.slice sa sn sc).ownBlock=some g) w' ⟨e.loc,slots',st',e.lps⟩ ρ' la ln lc pa pn pc bl/\∀g,w.heap.size<=g->ρ' g=4)/\A4 D0 w w':=by
 have hwb:=A5 hv.cell;have h4:=hv.Qx h.one.2;have hyn:∀g,g<w.heap.size->ρ g≠0->g≠y:=by
  intro g hg h1 e;subst e;rcases hy with hy|hy
  ·exact h1 hy.1
  ·omega
 have hbd0:A4 D0 w w':=⟨ho,ht,hu,hs,fun k hk'=>by
  have h1:=h.prot k (hD0 k hk').1;refine hk k h1.1 (fun e=>by have:=h1.2;rw[e,h.one.1]at this;cases this) (fun e=>?_);subst e;rcases hy with hy|hy
  ·exact hy.2.1 hk'
  ·omega⟩
 have hTy:∀g,(Value.slice ta tn tc).ownBlock=some g->g≠y:=by
  intro g hg e;subst e;rcases hy with hy|hy
  ·exact hy.2.2 hg
  ·have:=Ca hrow g hg;omega
 have hne:∀g,ρ g≠0->ρ g≠4->¬(Value.slice ta tn tc).ownBlock=some g/\¬(Value.slice sa sn sc).ownBlock=some g:=fun g h1 h2=>⟨fun e=>h1 (hT g e),fun e=>h2 (h4 g e)⟩;have hρ:∀g,g<w.heap.size->ρ g≠0->ρ g≠4->I2 (fun g=>if(Value.slice ta tn tc).ownBlock=some g then 4 else if(Value.slice sa sn sc).ownBlock=some g then 0 else ρ g) w.heap.size 4 g=ρ g:=by
  intro g hg h1 h2;rw[Cu hg,if_neg (hne g h1 h2).1,if_neg (hne g h1 h2).2]
 refine⟨⟨I2 (fun g=>if(Value.slice ta tn tc).ownBlock=some g then 4 else if(Value.slice sa sn sc).ownBlock=some g then 0 else ρ g) w.heap.size 4,⟨⟨ta,tn,tc,hcell,?_,?_,?_,fun g hg=>hg.1⟩,(hfr.keep hbd0).weak (fun g hg=>.inl hg),(hgr.Be hbd0).weak (fun g hg=>.inl hg),?_,?_,?_,?_,?_,?_,⟨?_,?_⟩,h.few⟩,fun g hg=>My hg⟩,hbd0⟩
 ·exact Bb hrow (fun g hg hl=>hk g hl (fun e=>by have:=hT g hg;rw[e,h.one.1]at this;cases this) (hTy g hg))
 ·intro hd;apply hd.2.1;rw[hρ K.wb hwb (by rw[h.one.1];omega) (by rw[h.one.1];omega)];exact h.one.1
 ·intro g hg;refine⟨fun hd=>hd.2.2 ?_,fun e=>by have:=hT g hg;rw[e,h.one.1]at this;cases this⟩;rw[Cu (Ca hrow g hg),if_pos hg]
 ·exact Bb h.lr (fun g hg hl=>hk g hl (fun e=>by have:=h.lro g hg;rw[e,h.one.1]at this;omega) (hyn g hl (by rw[h.lro g hg];omega)))
 ·intro g hg;have:=h.lro g hg;rw[hρ g (Ca h.lr g hg) (by omega) (by omega)];exact this
 ·exact Bb h.pr (fun g hg hl=>hk g hl (fun e=>by have:=h.pro g hg;rw[e,h.one.1]at this;omega) (hyn g hl (by rw[h.pro g hg];omega)))
 ·intro g hg;have:=h.pro g hg;rw[hρ g (Ca h.pr g hg) (by omega) (by omega)];exact this
 ·exact h.lps.keep bl.length (fun g hl h5 _=>⟨hk g hl (fun e=>by rw[e,h.one.1]at h5;omega) (hyn g hl (by omega)),hρ g hl (by omega) (by omega)⟩) (Nat.le_refl _)
 ·intro g hg;rcases hg with hg|hg
  ·have h1:=hD0 g hg;have h2:=h.prot g h1.1;refine⟨Nat.lt_of_lt_of_le h2.1 hs,?_⟩;rw[Cu h2.1,if_neg h1.2,if_neg (fun e=>by have:=h4 g e;omega)];exact h2.2
  ·have h2:=Ca hv.own g hg;refine⟨Nat.lt_of_lt_of_le h2 hs,?_⟩;rw[Cu h2,if_neg (fun e=>by have:=hT g e;have:=h4 g hg;omega),if_pos hg]
 ·rw[hρ K.wb hwb (by rw[h.one.1];omega) (by rw[h.one.1];omega)];exact h.one.1
 ·intro g hg;by_cases hl:g<w.heap.size
  ·rw[Cu hl]at hg;split at hg
   ·cases hg
   ·split at hg
    ·cases hg
    ·exact h.one.2 g hg
  ·rw[My (by omega)]at hg;cases hg
theorem EC.Sv.more(h:K.Sv D w e ρ la ln lc pa pn pc bl){sa:Option Addr}{sn sc:Nat}(hv:Ik (dX w.heap.size ρ) K.wb K.te w (.slice K.fa K.fn K.fc) (.slice K.ga K.gn K.gc) (.slice la ln lc) (.slice pa pn pc) e.slots e.st sa sn sc)(X:Nat->Prop)
  (hX:∀g,X g->g<w.heap.size/\ρ g=4/\(Value.slice sa sn sc).ownBlock≠some g):∃ρ',K.Sv (fun g=>D g\/X g) w e ρ' la ln lc pa pn pc bl:=by
 classical
 have h4:=hv.Qx h.one.2;have hρ:∀g,ρ g≠4->(if X g then 0 else ρ g)=ρ g:=fun g hg=>if_neg (fun hx=>hg (hX g hx).2.1);refine⟨fun g=>if X g then 0 else ρ g,⟨sa,sn,sc,hv.cell,hv.own,?_,?_,fun g hg=>hg.1⟩,h.fr.weak (fun g hg=>.inl hg),h.gr.weak (fun g hg=>.inl hg),h.lr,?_,h.pr,?_,?_,?_,⟨?_,?_⟩,h.few⟩
 ·intro hd;apply hd.2.1;show(if X K.wb then 0 else ρ K.wb)=1;rw[hρ _ (by rw[h.one.1];omega)];exact h.one.1
 ·intro g hg;refine⟨fun hd=>hd.2.2 ?_,(hv.C5 g hg).2⟩;show(if X g then 0 else ρ g)=4;rw[if_neg (fun hx=>(hX g hx).2.2 hg)];exact h4 g hg
 ·intro g hg;have:=h.lro g hg;show(if X g then 0 else ρ g)=2;rw[hρ _ (by omega)];exact this
 ·intro g hg;have:=h.pro g hg;show(if X g then 0 else ρ g)=3;rw[hρ _ (by omega)];exact this
 ·exact h.lps.keep bl.length (fun g _ h5 _=>⟨rfl,by show(if X g then 0 else ρ g)=ρ g;by_cases h4':ρ g=4 <;> first|omega|exact hρ g h4'⟩) (Nat.le_refl _)
 ·intro g hg;show _/\(if X g then 0 else ρ g)=0;rcases hg with hg|hg
  ·have:=h.prot g hg;refine⟨this.1,?_⟩;rw[hρ _ (by omega)];exact this.2
  ·exact⟨(hX g hg).1,if_pos hg⟩
 ·show(if X K.wb then 0 else ρ K.wb)=1;rw[hρ _ (by rw[h.one.1];omega)];exact h.one.1
 ·intro g hg;have hg:(if X g then 0 else ρ g)=1:=hg;split at hg
  ·cases hg
  ·exact h.one.2 g hg
theorem EC.St.alloc{lbs:List Nat}(h:K.St lbs D w e)(o:Obj):K.St lbs D (w.alloc o) e:=by
 obtain⟨ρ,la,ln,lc,pa,pn,pc,bl,h,hlb⟩:=h;exact⟨_,_,_,_,_,_,_,_,h.alloc o 5 (Nat.le_refl _),hlb⟩
theorem Aai(w:World)(a:Addr)(v:Value):(w.setCell a v).os=w.os:=rfl
theorem A1k(w:World)(o:Obj):(w.alloc o).os=w.os:=rfl
theorem A4p(w:World):w.drew.os=w.os:=rfl
theorem Aak(w:World)(a:Addr)(v:Value):(w.setCell a v).tape=w.tape:=rfl
theorem A1m(w:World)(o:Obj):(w.alloc o).tape=w.tape:=rfl
theorem A4r(w:World):w.drew.tape=w.tape:=rfl
theorem Aaj(w:World)(a:Addr)(v:Value):(w.setCell a v).output=w.output:=rfl
theorem A1l(w:World)(o:Obj):(w.alloc o).output=w.output:=rfl
theorem A4q(w:World):w.drew.output=w.output:=rfl
theorem Ux(w:World):w.drew.heap=w.heap:=rfl
theorem Adn{D2:Nat->Prop}(h:K.Sv D2 w e ρ la ln lc pa pn pc []){sb:Option Addr}{sm sd:Nat}(hv:Ik (dX w.heap.size ρ) K.wb K.te w (.slice K.fa K.fn K.fc) (.slice K.ga K.gn K.gc) (.slice la ln lc) (.slice pa pn pc) e.slots e.st sb sm sd)(rb:Nat){slots:Nat}{st:List G4}{sa:Option Addr}{sn sc:Nat}
  (hrow:w.ownsRow 0 251 8 (.slice sa sn sc) st.length (G1 st)) (Du:∀g,(Value.slice sa sn sc).ownBlock=some g->D2 g) (hSD:∀g,(Value.slice sa sn sc).ownBlock=some g->¬D g) (hD2:∀g,D g->D2 g) (hrb:D2 rb) (hrbD:¬D rb) (hrbS:(Value.slice sa sn sc).ownBlock≠some rb)
  (hfr:Je D w K.fns K.fa K.fn K.fc) (hgr:C1 D w 9 1 (.slice K.ga K.gn K.gc) K.gl.length (D3 K.gl)) (v0 v1 v2 v3:Value) (o:Obj) (W:World)
  (hW:W=(((((((w.setCell ⟨K.wb,4,none⟩ (.int .i64 (slots:Nat))).setCell ⟨K.wb,5,none⟩ (.slice sa sn sc)).setCell ⟨rb,0,none⟩ v0).setCell ⟨rb,1,none⟩ v1).setCell ⟨rb,2,none⟩ v2).setCell ⟨rb,3,none⟩ v3).alloc o).drew) :
  W.ownsRow 0 251 8 (.slice sb sm sd) e.st.length (G1 e.st)/\K.St [] (fun g=>D g\/(Value.slice sb sm sd).ownBlock=some g) W ⟨e.loc,slots,st,e.lps⟩/\A4 D w W:=by
 have hwb:=A5 hv.cell;have hrbw:rb≠K.wb:=fun e=>by have:=(h.prot rb hrb).2;rw[e,h.one.1]at this;cases this
 have hrl:=(h.prot rb hrb).1;have hsz:W.heap.size=w.heap.size+1:=by rw[hW,Ux];simp[World.setCell]
 have hk:∀g,g<w.heap.size->g≠K.wb->g≠rb->W.heap[g]?=w.heap[g]?:=by
  intro g hg h1 h2;rw[hW,Ux,Below.heap_alloc _ _ _ (by simp[World.setCell];exact hg),Below.heap_setCell _ _ _ _ (by exact h2),Below.heap_setCell _ _ _ _ (by exact h2),Below.heap_setCell _ _ _ _ (by exact h2),Below.heap_setCell _ _ _ _ (by exact h2),Below.heap_setCell _ _ _ _ (by exact h1),Below.heap_setCell _ _ _ _ (by exact h1)]
 have hcell:W.heap[K.wb]?=some (.cells #[.slice K.fa K.fn K.fc,.slice K.ga K.gn K.gc,.slice la ln lc,.slice pa pn pc,.int .i64 (slots:Nat),.slice sa sn sc] K.te (0,0)):=by
  rw[hW,Ux,Below.heap_alloc _ _ _ (by simp[World.setCell];exact hwb),Below.heap_setCell _ _ _ _ (by exact fun e=>hrbw e.symm),Below.heap_setCell _ _ _ _ (by exact fun e=>hrbw e.symm),Below.heap_setCell _ _ _ _ (by exact fun e=>hrbw e.symm),Below.heap_setCell _ _ _ _ (by exact fun e=>hrbw e.symm)];have:=heap_set (j:=5) (heap_set (j:=4) hv.cell (.int .i64 (slots:Nat))) (.slice sa sn sc);rw[this];simp
 obtain⟨⟨ρ9,h9,_⟩,E0⟩:=h.swap hv D hrow (fun g hg=>(h.prot g (Du g hg)).2) (fun g hg=>⟨hD2 g hg,fun e=>hSD g e hg⟩) hfr hgr hcell rb (.inl ⟨(h.prot rb hrb).2,hrbD,hrbS⟩) hk (by omega) (by simp only[hW,A4p,A1k,Aai]) (by simp only[hW,A4r,A1m,Aak]) (by simp only[hW,A4q,A1l,Aaj]);have h4:=hv.Qx h.one.2;refine⟨Bb hv.own (fun g hg hl=>hk g hl (hv.C5 g hg).2 (fun e=>?_)),⟨_,_,_,_,_,_,_,_,h9,rfl⟩,E0⟩;have h1:=h4 g hg;rw[e,(h.prot rb hrb).2]at h1;cases h1
end
end Go.Proofs.YtjdlndhfaaolaaaGreatDoor
