import Derived.Test.YtjdlndhfaaolaaaGreatDoorX23
import Derived.Test.YtjdlndhfaaolaaaGreatDoorX25
set_option maxHeartbeats 20000000
namespace Go.Proofs.YtjdlndhfaaolaaaGreatDoor
section
set_option maxRecDepth 100000
open Go.RowKit
open Go.Deep (BT)
theorem Ank(K:EC)(l:A3)(c:BT A3)(hk:l.kd=10)(ih:Cq (Fb K) c)  (D:Nat->Prop) (w:World) (la:Option Addr) (ln lc:Nat) (ps:Value) (e:Em) (v:Value) (ks:List Value)
  (hst:K.Ex D w la ln lc ps e) (hn:Bh D w l v ks) (hr:Al D w c ks) (hsz:e.st.length+2*bsize (nd l c)<=800000) :
  Calls Tryz.prog 91 #[.pointer (some ⟨K.wb,0,none⟩),v] w fun r w'=>r=.returned (.tuple #[])/\K.Ex D w' la ln lc ps (Am K.fns K.gl l (Ak c) (em K.fns K.gl c) e)/\A2 D w w':=by
 obtain⟨hlo,lcb,hncb⟩:=hst.lo;have hnds:=Br l c;unfold Bh at hn;rw[if_neg z4sa]at hn;obtain⟨b,cs,rfl,hD,hb,hl⟩:=hn;have e1:Cc l.kd=304:=by rw[hk];rfl
 have e2:D8 l.kd=306:=by rw[hk];rfl
 rw[e1];rw[e2]at hb;unfold Cm at hl;simp only[hk]at hl;rw[Wd hk];obtain⟨a,rfl,rfl⟩:=hl;obtain⟨x1,y1,l1,c1,r1,Cx,rfl,B9,B8,hz⟩:=hr.cons';obtain rfl:=hz.nil';have Bq:bsize (.node x1 y1 l1 c1 .nil)=bsize (nd l1 c1):=by rw[Br,bsize];rfl
 have hlen1:=Gh K.fns K.gl l1 c1 e;rw[Ib,em];have HC:=A0 (ih.1 D w la ln lc ps e a Cx hst B9 B8 z4sa);have d0:=A7 hb 1 a rfl;have ld:=A6 hb;have HBk:=A0 hb;have D4:=V2 304 z4ta;have Dp:=Zo 304 z4ta;have Ej:=Aov;clear hst hb e1 e2 hk hr B9 B8 hz ih;unfold C3;go_enter Tryz.func91,Tryz.ntmps91;go_wp2_with fail
 refine(HC.o).mono ?_;rintro r w1 ⟨rfl,Ai,A1⟩;have A8:=A0 Ai;have A4:=A0 A1;have Bd:=(A1.block b hD).trans HBk.o;clear Ai A1 d0 ld;have d0:w1.cell? ⟨b,0,none⟩=some (.int .i64 (l.line:Nat)):=A7 Bd 0 _ rfl;have ld:=A6 Bd;clear Bd;generalize I0:Am K.fns K.gl l1 (Ak c1) (em K.fns K.gl c1) e=Bu at *;go_wp2_with fail
 refine(Ku A8.o.ew z4sa 37 0 l.line).mono ?_;rintro r w9 ⟨rfl,F7,Dl⟩;have HS9:=A0 (A8.o.next (e':=Bu.step 37 0 l.line) Dl F7 rfl);have Gx:Hid (A2 D w w9):=A4.o.trans Dl;clear F7 Dl;go_wp2;go_end0;subst I0;exact⟨rfl,HS9.o,Gx.o⟩
theorem z15a {P:Prop} (h:P:=by
  clear hst hb e1 hk hr hl ih;unfold C3 at HM ⊢;go_enter Tryz.func54,Tryz.ntmps54;go_wp2_with fail
  refine HM.o.mono ?_;exact z0ca):P:=h
theorem Aoi(K:EC)(l:A3)(c:BT A3)(hk:l.kd=10)(ih:Cq (Fb K) c):Fb K l c:=by
 intro D w la ln lc ps e v ks hst hn hr hsz;have HM:=A0 (Ank K l c hk ih D w la ln lc ps e v ks hst hn hr hsz);obtain⟨hlo,lcb,hncb⟩:=hst.lo;unfold Bh at hn;rw[if_neg z4sa]at hn;obtain⟨b,cs,rfl,hD,hb,hl⟩:=hn;have e1:Cc l.kd=304:=by rw[hk];rfl
 rw[e1]at HM ⊢;have ld:=A6 hb;have D4:=Lb 304 z4ta;have Dp:=Lr 304 z4ta;have Ej:=Ml 304 z4ta;have F9:=Nb 304 z4ta;have G6:=Nc 304 z4ta;have I7:=Ox 304 z4ta;have Jg:=Qz 304 z4ta;have ta7:=Sr 304 z4ta;exact z15a
theorem z3ua {P:Prop} (h:P:=by
  have Gx:Hid (A2 D w w9):=Aa.o.trans Dl;clear F7 Dl;go_wp2;go_end0;exact⟨rfl,HS9.o,Gx.o⟩):P:=h
theorem Anm(K:EC)(l:A3)(c:BT A3)(hk:l.kd=11)(ih:Cq (Fb K) c)  (D:Nat->Prop) (w:World) (la:Option Addr) (ln lc:Nat) (ps:Value) (e:Em) (v:Value) (ks:List Value)
  (hst:K.Ex D w la ln lc ps e) (hn:Bh D w l v ks) (hr:Al D w c ks) (hsz:e.st.length+2*bsize (nd l c)<=800000) :
  Calls Tryz.prog 91 #[.pointer (some ⟨K.wb,0,none⟩),v] w fun r w'=>r=.returned (.tuple #[])/\K.Ex D w' la ln lc ps (Am K.fns K.gl l (Ak c) (em K.fns K.gl c) e)/\A2 D w w':=by
 obtain⟨hlo,lcb,hncb⟩:=hst.lo;have hnds:=Br l c;unfold Bh at hn;rw[if_neg z4sa]at hn;obtain⟨b,cs,rfl,hD,hb,hl⟩:=hn;have e1:Cc l.kd=307:=by rw[hk];rfl
 have e2:D8 l.kd=309:=by rw[hk];rfl
 rw[e1];rw[e2]at hb;unfold Cm at hl;simp only[hk]at hl;rw[We hk];obtain⟨a1,a2,rfl,rfl⟩:=hl;obtain⟨x1,y1,l1,c1,r1,Cx,rfl,B9,B8,hz⟩:=hr.cons';obtain⟨x2,y2,l2,c2,r2,Gl,rfl,D7,Bm,Bw⟩:=hz.cons';obtain rfl:=Bw.nil';have Bq:bsize (.node x1 y1 l1 c1 (.node x2 y2 l2 c2 .nil))=bsize (nd l1 c1)+bsize (nd l2 c2):=by rw[Br,Br,bsize,bsize,bsize];omega
 rw[Ib,Ib,em];have Jm:=Gh K.fns K.gl l1 c1 e;have Ip:=Gh K.fns K.gl l2 c2 (Am K.fns K.gl l1 (Ak c1) (em K.fns K.gl c1) e);have Gy:=A0 (ih.1 D w la ln lc ps e a1 Cx hst B9 B8 z4sa);have Ed:=A0 (fun(W:World) (e2:Em) (he:e2.st.length+2*bsize (nd l2 c2)<=800000) (hx:K.Ex D W la ln lc ps e2) (hbd:A2 D w W)=>ih.2.1 D W la ln lc ps e2 a2 Gl hx (D7.Bf hbd) (Bm.Bf hbd) he);have HBk:=A0 hb;have d1:=A7 hb 1 a1 rfl;have ld:=A6 hb;have D4:=V2 307 z4ta;have Dp:=Zo 307 z4ta;have Ej:=A5h 307 z4ta;have F9:=Aoy;clear hst hb hr B9 B8 hz D7 Bm Bw ih e1 e2 hk;generalize I0:Am K.fns K.gl l1 (Ak c1) (em K.fns K.gl c1) e=Bu at *;generalize hE2:Am K.fns K.gl l2 (Ak c2) (em K.fns K.gl c2) Bu=F5 at *;unfold C3;go_enter Tryz.func91,Tryz.ntmps91;go_wp2_with fail
 refine(Gy.o).mono ?_;rintro r w1 ⟨rfl,Ai,A1⟩;have A8:=A0 Ai;have A4:=A0 A1;have Bd:=(A1.block b hD).trans HBk.o;have HBk1:=A0 Bd;clear Ai A1 d1 ld;have d2:=A7 Bd 2 a2 rfl;have ld:=A6 Bd;clear Bd;go_wp2_with fail
 refine(Ed.o _ _ z4sa A8.o A4.o).mono ?_;rintro r w2 ⟨rfl,Az,A9⟩;rw[hE2]at Az;have Ah:=A0 Az;have Aa:Hid (A2 D w w2):=A4.o.trans A9;have Cv:=(A9.block b hD).trans HBk1.o;clear Az A9 d2 ld;have d0:w2.cell? ⟨b,0,none⟩=some (.int .i64 (l.line:Nat)):=A7 Cv 0 _ rfl;have ld:=A6 Cv;clear Cv;go_wp2_with fail
 refine(Ku Ah.o.ew z4sa 38 0 l.line).mono ?_;rintro r w9 ⟨rfl,F7,Dl⟩;have HS9:=A0 (Ah.o.next (e':=F5.step 38 0 l.line) Dl F7 rfl);exact z3ua
theorem Aon(K:EC)(l:A3)(c:BT A3)(hk:l.kd=11)(ih:Cq (Fb K) c):Fb K l c:=by
 intro D w la ln lc ps e v ks hst hn hr hsz;have HM:=A0 (Anm K l c hk ih D w la ln lc ps e v ks hst hn hr hsz);obtain⟨hlo,lcb,hncb⟩:=hst.lo;unfold Bh at hn;rw[if_neg z4sa]at hn;obtain⟨b,cs,rfl,hD,hb,hl⟩:=hn;have e1:Cc l.kd=307:=by rw[hk];rfl
 rw[e1]at HM ⊢;have ld:=A6 hb;have D4:=Lb 307 z4ta;have Dp:=Lr 307 z4ta;have Ej:=Ml 307 z4ta;have F9:=Nb 307 z4ta;have G6:=Nc 307 z4ta;have I7:=Ox 307 z4ta;have Jg:=Qz 307 z4ta;have ta7:=Sr 307 z4ta;exact z15a
theorem Anj(K:EC)(l:A3)(c:BT A3)(hk:l.kd=12)(ih:Cq (Fb K) c)  (D:Nat->Prop) (w:World) (la:Option Addr) (ln lc:Nat) (ps:Value) (e:Em) (v:Value) (ks:List Value)
  (hst:K.Ex D w la ln lc ps e) (hn:Bh D w l v ks) (hr:Al D w c ks) (hsz:e.st.length+2*bsize (nd l c)<=800000) :
  Calls Tryz.prog 91 #[.pointer (some ⟨K.wb,0,none⟩),v] w fun r w'=>r=.returned (.tuple #[])/\K.Ex D w' la ln lc ps (Am K.fns K.gl l (Ak c) (em K.fns K.gl c) e)/\A2 D w w':=by
 obtain⟨hlo,lcb,hncb⟩:=hst.lo;have hnds:=Br l c;unfold Bh at hn;rw[if_neg z4sa]at hn;obtain⟨b,cs,rfl,hD,hb,hl⟩:=hn;have e1:Cc l.kd=310:=by rw[hk];rfl
 have e2:D8 l.kd=312:=by rw[hk];rfl
 rw[e1];rw[e2]at hb;unfold Cm at hl;simp only[hk]at hl;rw[Wg hk];obtain⟨a1,a2,rfl,rfl⟩:=hl;obtain⟨x1,y1,l1,c1,r1,Cx,rfl,B9,B8,hz⟩:=hr.cons';obtain⟨x2,y2,l2,c2,r2,Gl,rfl,D7,Bm,Bw⟩:=hz.cons';obtain rfl:=Bw.nil';have Bq:bsize (.node x1 y1 l1 c1 (.node x2 y2 l2 c2 .nil))=bsize (nd l1 c1)+bsize (nd l2 c2):=by rw[Br,Br,bsize,bsize,bsize];omega
 rw[Ib,Ib,em];have Jm:=Gh K.fns K.gl l1 c1 e;have Ip:=Gh K.fns K.gl l2 c2 (Am K.fns K.gl l1 (Ak c1) (em K.fns K.gl c1) e);have Gy:=A0 (ih.1 D w la ln lc ps e a1 Cx hst B9 B8 z4sa);have Ed:=A0 (fun(W:World) (e2:Em) (he:e2.st.length+2*bsize (nd l2 c2)<=800000) (hx:K.Ex D W la ln lc ps e2) (hbd:A2 D w W)=>ih.2.1 D W la ln lc ps e2 a2 Gl hx (D7.Bf hbd) (Bm.Bf hbd) he);have HBk:=A0 hb;have d1:=A7 hb 1 a1 rfl;have ld:=A6 hb;have D4:=V2 310 z4ta;have Dp:=Zo 310 z4ta;have Ej:=A5h 310 z4ta;have F9:=Ap0 310 z4ta;have G6:=A5e;clear hst hb hr B9 B8 hz D7 Bm Bw ih e1 e2 hk;generalize I0:Am K.fns K.gl l1 (Ak c1) (em K.fns K.gl c1) e=Bu at *;generalize hE2:Am K.fns K.gl l2 (Ak c2) (em K.fns K.gl c2) Bu=F5 at *;unfold C3;go_enter Tryz.func91,Tryz.ntmps91;go_wp2_with fail
 refine(Gy.o).mono ?_;rintro r w1 ⟨rfl,Ai,A1⟩;have A8:=A0 Ai;have A4:=A0 A1;have Bd:=(A1.block b hD).trans HBk.o;have HBk1:=A0 Bd;clear Ai A1 d1 ld;have d2:=A7 Bd 2 a2 rfl;have ld:=A6 Bd;clear Bd;go_wp2_with fail
 refine(Ed.o _ _ z4sa A8.o A4.o).mono ?_;rintro r w2 ⟨rfl,Az,A9⟩;rw[hE2]at Az;have Ah:=A0 Az;have Aa:Hid (A2 D w w2):=A4.o.trans A9;have Cv:=(A9.block b hD).trans HBk1.o;clear Az A9 d2 ld;have d0:w2.cell? ⟨b,0,none⟩=some (.int .i64 (l.line:Nat)):=A7 Cv 0 _ rfl;have ld:=A6 Cv;clear Cv;go_wp2_with fail
 refine(Ku Ah.o.ew z4sa 39 0 l.line).mono ?_;rintro r w9 ⟨rfl,F7,Dl⟩;have HS9:=A0 (Ah.o.next (e':=F5.step 39 0 l.line) Dl F7 rfl);exact z3ua
theorem Aog(K:EC)(l:A3)(c:BT A3)(hk:l.kd=12)(ih:Cq (Fb K) c):Fb K l c:=by
 intro D w la ln lc ps e v ks hst hn hr hsz;have HM:=A0 (Anj K l c hk ih D w la ln lc ps e v ks hst hn hr hsz);obtain⟨hlo,lcb,hncb⟩:=hst.lo;unfold Bh at hn;rw[if_neg z4sa]at hn;obtain⟨b,cs,rfl,hD,hb,hl⟩:=hn;have e1:Cc l.kd=310:=by rw[hk];rfl
 rw[e1]at HM ⊢;have ld:=A6 hb;have D4:=Lb 310 z4ta;have Dp:=Lr 310 z4ta;have Ej:=Ml 310 z4ta;have F9:=Nb 310 z4ta;have G6:=Nc 310 z4ta;have I7:=Ox 310 z4ta;have Jg:=Qz 310 z4ta;have ta7:=Sr 310 z4ta;exact z15a
theorem Anl(K:EC)(l:A3)(c:BT A3)(hk:l.kd=9)(ih:Cq (Fb K) c)  (D:Nat->Prop) (w:World) (la:Option Addr) (ln lc:Nat) (ps:Value) (e:Em) (v:Value) (ks:List Value)
  (hst:K.Ex D w la ln lc ps e) (hn:Bh D w l v ks) (hr:Al D w c ks) (hsz:e.st.length+2*bsize (nd l c)<=800000) :
  Calls Tryz.prog 91 #[.pointer (some ⟨K.wb,0,none⟩),v] w fun r w'=>r=.returned (.tuple #[])/\K.Ex D w' la ln lc ps (Am K.fns K.gl l (Ak c) (em K.fns K.gl c) e)/\A2 D w w':=by
 obtain⟨hlo,lcb,hncb⟩:=hst.lo;have hnds:=Br l c;unfold Bh at hn;rw[if_neg z4sa]at hn;obtain⟨b,cs,rfl,hD,hb,hl⟩:=hn;have e1:Cc l.kd=296:=by rw[hk];rfl
 have e2:D8 l.kd=300:=by rw[hk];rfl
 rw[e1];rw[e2]at hb;unfold Cm at hl;simp only[hk]at hl;rw[Wy hk];obtain⟨sl,rfl,ho⟩:=hl;obtain⟨va,vn,vc,rfl⟩:∃va vn vc,sl=.slice va vn vc:=Nu ho.1;have hvn:vn=ks.length:=(Cf ho.1).1;have hkl:=hr.len;have hbl:=Ni c;rw[←hkl];have hem:=(Mb K.fns K.gl c).1 e;have HC:=A0 (A53 K c ih D w la ln lc ps e va vn vc ks hst ho hr z4sa);have HBk:=A0 hb;have d1:=A7 hb 1 _ rfl;have ld:=A6 hb;have D4:=Aow;clear hst hb e1 e2 hk hr ih ho hkl hbl;subst hvn;generalize I0:em K.fns K.gl c 0 e=Bu at *;unfold C3;go_enter Tryz.func91,Tryz.ntmps91;go_wp2_with fail
 refine(HC.o).mono ?_;rintro r w1 ⟨rfl,Ai,A1⟩;have A8:=A0 Ai;have A4:=A0 A1;have Bd:=(A1.block b hD).trans HBk.o;clear Ai A1 d1 ld;have d0:w1.cell? ⟨b,0,none⟩=some (.int .i64 (l.line:Nat)):=A7 Bd 0 _ rfl;have d1:=A7 Bd 1 _ rfl;have ld:=A6 Bd;clear Bd;go_wp2;refine Jr 10 (by kernel_rfl) (by kernel_rfl) ?_;simp only[List.take_succ_cons,List.take_zero,List.drop_succ_cons,List.drop_zero];iterate 10 (refine F4 (fun K' hK'=>?_);go_simp;refine hK' _ ?_;clear hK' K')
 refine Jq ?_;go_wp2_with fail
 refine(Ku (A8.o.drewN 1).ew z4sa 36 (ks.length:Nat) l.line).mono ?_;rintro r w9 ⟨rfl,F7,Dl⟩;have HS9:=A0 ((A8.o.drewN 1).next (e':=(Bu).step 36 (ks.length:Nat) l.line) Dl F7 rfl);exact z1ia
theorem Aoj(K:EC)(l:A3)(c:BT A3)(hk:l.kd=9)(ih:Cq (Fb K) c):Fb K l c:=by
 intro D w la ln lc ps e v ks hst hn hr hsz;have HM:=A0 (Anl K l c hk ih D w la ln lc ps e v ks hst hn hr hsz);obtain⟨hlo,lcb,hncb⟩:=hst.lo;unfold Bh at hn;rw[if_neg z4sa]at hn;obtain⟨b,cs,rfl,hD,hb,hl⟩:=hn;have e1:Cc l.kd=296:=by rw[hk];rfl
 rw[e1]at HM ⊢;have ld:=A6 hb;have D4:=Lb 296 z4ta;have Dp:=Lr 296 z4ta;have Ej:=Ml 296 z4ta;have F9:=Nb 296 z4ta;have G6:=Nc 296 z4ta;have I7:=Ox 296 z4ta;have Jg:=Qz 296 z4ta;have ta7:=Sr 296 z4ta;exact z15a
theorem Ani(K:EC)(l:A3)(c:BT A3)(hk:l.kd=7)(ih:Cq (Fb K) c)  (D:Nat->Prop) (w:World) (la:Option Addr) (ln lc:Nat) (ps:Value) (e:Em) (v:Value) (ks:List Value)
  (hst:K.Ex D w la ln lc ps e) (hn:Bh D w l v ks) (hr:Al D w c ks) (hsz:e.st.length+2*bsize (nd l c)<=800000) :
  Calls Tryz.prog 91 #[.pointer (some ⟨K.wb,0,none⟩),v] w fun r w'=>r=.returned (.tuple #[])/\K.Ex D w' la ln lc ps (Am K.fns K.gl l (Ak c) (em K.fns K.gl c) e)/\A2 D w w':=by
 obtain⟨hlo,lcb,hncb⟩:=hst.lo;have hnds:=Br l c;unfold Bh at hn;rw[if_neg z4sa]at hn;obtain⟨b,cs,rfl,hD,hb,hl⟩:=hn;have e1:Cc l.kd=301:=by rw[hk];rfl
 have e2:D8 l.kd=303:=by rw[hk];rfl
 rw[e1];rw[e2]at hb;unfold Cm at hl;simp only[hk]at hl;rw[Ww hk];obtain⟨sl,rfl,ho⟩:=hl;obtain⟨va,vn,vc,rfl⟩:∃va vn vc,sl=.slice va vn vc:=Nu ho.1;have hvn:vn=ks.length:=(Cf ho.1).1;have hkl:=hr.len;have hbl:=Ni c;have hem:=(Mb K.fns K.gl c).1 e;have HC:=A0 (A53 K c ih D w la ln lc ps e va vn vc ks hst ho hr z4sa);have HBk:=A0 hb;have d1:=A7 hb 2 _ rfl;have ld:=A6 hb;have D4:=V2 301 z4ta;have Dp:=Aos;clear hst hb e1 e2 hk hr ih ho hkl hbl;subst hvn;generalize I0:em K.fns K.gl c 0 e=Bu at *;unfold C3;go_enter Tryz.func91,Tryz.ntmps91;go_wp2_with fail
 refine(HC.o).mono ?_;rintro r w1 ⟨rfl,Ai,A1⟩;have A8:=A0 Ai;have A4:=A0 A1;have Bd:=(A1.block b hD).trans HBk.o;clear Ai A1 d1 ld;have HNum:=A0 (Ann (A8.o.drewN 1).ew (A8.o.drewN 1).fr l.s);have d0:w1.cell? ⟨b,0,none⟩=some (.int .i64 (l.line:Nat)):=A7 Bd 0 _ rfl;have d1:w1.cell? ⟨b,1,none⟩=some (.string ⟨l.s.toArray⟩):=A7 Bd 1 _ rfl;have ld:=A6 Bd;clear Bd;go_wp2;refine Jr 11 (by kernel_rfl) (by kernel_rfl) ?_;simp only[List.take_succ_cons,List.take_zero,List.drop_succ_cons,List.drop_zero];iterate 6 (refine F4 (fun K' hK'=>?_);go_simp;refine hK' _ ?_;clear hK' K')
 refine F4 (fun K' hK'=>?_);go_simp;refine⟨_,HNum.o,hK' _ ?_⟩;clear hK' K';iterate 4 (refine F4 (fun K' hK'=>?_);go_simp;refine hK' _ ?_;clear hK' K')
 refine Jq ?_;go_wp2_with fail
 refine(Ku (A8.o.drewN 1).ew z4sa 42 (L3 K.fns l.s) l.line).mono ?_;rintro r w9 ⟨rfl,F7,Dl⟩;have HS9:=A0 ((A8.o.drewN 1).next (e':=(Bu).step 42 (L3 K.fns l.s) l.line) Dl F7 rfl);exact z1ia
theorem Aod(K:EC)(l:A3)(c:BT A3)(hk:l.kd=7)(ih:Cq (Fb K) c):Fb K l c:=by
 intro D w la ln lc ps e v ks hst hn hr hsz;have HM:=A0 (Ani K l c hk ih D w la ln lc ps e v ks hst hn hr hsz);obtain⟨hlo,lcb,hncb⟩:=hst.lo;unfold Bh at hn;rw[if_neg z4sa]at hn;obtain⟨b,cs,rfl,hD,hb,hl⟩:=hn;have e1:Cc l.kd=301:=by rw[hk];rfl
 rw[e1]at HM ⊢;have ld:=A6 hb;have D4:=Lb 301 z4ta;have Dp:=Lr 301 z4ta;have Ej:=Ml 301 z4ta;have F9:=Nb 301 z4ta;have G6:=Nc 301 z4ta;have I7:=Ox 301 z4ta;have Jg:=Qz 301 z4ta;have ta7:=Sr 301 z4ta;exact z15a
theorem Anc(K:EC):∀(c:BT A3),Wf 0 c->Cq (Fb K) c:=by
 intro c;induction c with
 | nil=>intro _;trivial
 | node x y l c r Cb Bn=>
  intro h;have hx:=h.exs;have hc:=Cb hx.2.1;refine⟨?_,Bn h.1⟩;have hk:=hx.1;unfold Gi at hk;simp only[Bool.or_eq_true,Bool.and_eq_true,decide_eq_true_eq]at hk;by_cases hb:127<=l.kd
  ·exact Aoc K l c hb z4sa hc
  ·have C7:l.kd=1\/l.kd=2\/l.kd=3\/l.kd=4\/l.kd=5\/l.kd=6\/l.kd=7\/l.kd=8\/l.kd=9\/l.kd=10\/l.kd=11\/l.kd=12\/l.kd=13\/l.kd=14:=by omega
   rcases C7 with h|h|h|h|h|h|h|h|h|h|h|h|h|h
   ·exact Aoh K l c h
   ·exact Aoo K l c h
   ·exact Aop K l c h
   ·exact Aoe K l c h
   ·exact Aom K l c h
   ·exact Aoq K l c h
   ·exact Aod K l c h hc
   ·exact Aof K l c h hc
   ·exact Aoj K l c h hc
   ·exact Aoi K l c h hc
   ·exact Aon K l c h hc
   ·exact Aog K l c h hc
   ·exact Aol K l c h hc
   ·exact Aok K l c h hc
end
section
set_option maxRecDepth 100000
open Go.RowKit
open Go.Deep (BT)
variable {K:EC} {lbs:List Nat} {D:Nat->Prop} {w w':World} {e e':Em}
theorem z35a {P:Prop} (h:P:=by
  exact⟨rfl,⟨_,_,_,_,_,_,_,_,k1,hlb⟩,k2⟩):P:=h
theorem EC.St.step(h:K.St lbs D w e)(hn:e.st.length<=900000)(op:Nat)(arg:Int)(line:Nat) :
  Calls Tryz.prog 55 #[.pointer (some ⟨K.wb,0,none⟩),.int .i64 (op:Nat),.int .i64 arg,.int .i64 (line:Nat)] w fun r w'=>r=.returned (.int .i64 (e.st.length:Nat))/\K.St lbs D w' (e.step op arg line)/\A2 D w w':=by
 obtain⟨ρ,la,ln,lc,pa,pn,pc,bl,h,hlb⟩:=h;refine(Ku h.ew hn op arg line).mono ?_;rintro r w1 ⟨rfl,h1,h2⟩;obtain⟨k1,k2⟩:=h.Oj h2 (h.Na.next (e':=e.step op arg line) h2 h1 rfl) rfl;exact z35a
theorem EC.St.land(h:K.St lbs D w e)(j:Nat)(hj:j<e.st.length) :
  Calls Tryz.prog 140 #[.pointer (some ⟨K.wb,0,none⟩),.int .i64 (j:Nat)] w fun r w'=>r=.returned (.tuple #[])/\K.St lbs D w' (e.land j)/\A2 D w w':=by
 obtain⟨ρ,la,ln,lc,pa,pn,pc,bl,h,hlb⟩:=h;refine(Uz h.ew j hj).mono ?_;rintro r w1 ⟨rfl,h1,h2⟩;obtain⟨k1,k2⟩:=h.Oj h2 (h.Na.next (e':=e.land j) h2 h1 rfl) rfl;exact z35a
theorem EC.St.here(h:K.St lbs D w e):Calls Tryz.prog 92 #[.pointer (some ⟨K.wb,0,none⟩)] w fun r w'=>r=.returned (.int .i64 (e.st.length:Nat))/\w'=w:=by
 obtain⟨ρ,la,ln,lc,pa,pn,pc,bl,h,hlb⟩:=h;exact Xm h.ew
theorem EC.St.var(h:K.St lbs D w e)(hn:e.st.length<=900000)(s:Nm)(lo gb:Nat) :
  Calls Tryz.prog 88 #[.pointer (some ⟨K.wb,0,none⟩),.string ⟨s.toArray⟩,.int .i64 (lo:Nat),.int .i64 (gb:Nat)] w fun r w'=>r=.returned (.tuple #[])/\K.St lbs D w' (e.var K.gl s lo gb)/\A2 D w w':=by
 obtain⟨ρ,la,ln,lc,pa,pn,pc,bl,h,hlb⟩:=h;refine(A5c h.Na hn s lo gb).mono ?_;rintro r w1 ⟨rfl,h1,h2⟩;obtain⟨k1,k2⟩:=h.Oj h2 h1 (Pu _ _ _ _ _).1;exact z35a
theorem EC.St.expr{l:A3}{c:BT A3}{v:Value}{ks:List Value}(h:K.St lbs D w e)(hk:Gi l.kd=true)(hw:Wf 0 c)(hn:Bh D w l v ks)(hr:Al D w c ks)(hsz:e.st.length+2*bsize (nd l c)<=800000) :
  Calls Tryz.prog 54 #[.pointer (some ⟨K.wb,0,none⟩),v] w fun r w'=>r=.returned (.tuple #[])/\K.St lbs D w' (Am K.fns K.gl l (Ak c) (em K.fns K.gl c) e)/\A2 D w w':=by
 obtain⟨ρ,la,ln,lc,pa,pn,pc,bl,h,hlb⟩:=h;have hx:=(Anc K (nd l c) ⟨trivial,.inl ⟨.inl rfl,hk,hw⟩⟩).1;refine(hx _ w la ln lc _ e v ks h.Na (hn.weak h.dx) (Al.keep (fun g hg _=>⟨rfl,h.dx g hg⟩) _ _ hr) hsz).mono ?_;rintro r w1 ⟨rfl,h1,h2⟩;obtain⟨k1,k2⟩:=h.Oj h2 h1 (Nn K.fns K.gl l c hk hw e).1;exact z35a
theorem EC.St.drewN(h:K.St lbs D w e)(n:Nat):K.St lbs D (w.drewN n) e:=by
 obtain⟨ρ,la,ln,lc,pa,pn,pc,bl,h,hlb⟩:=h;obtain⟨k1,k2⟩:=h.Oj (Dk _ w n) (h.Na.drewN n) rfl;exact⟨_,_,_,_,_,_,_,_,k1,hlb⟩
theorem EC.Sv.Lj{ρ:Nat->Nat}{la:Option Addr}{ln lc:Nat}{pa:Option Addr}{pn pc:Nat}{bl:List LB}{sa:Option Addr}{sn sc:Nat}(h:K.Sv D w e ρ la ln lc pa pn pc bl)(hv:Hq (dX w.heap.size ρ) K.wb K.te w (.slice K.fa K.fn K.fc) (.slice K.ga K.gn K.gc) (.slice la ln lc) (.slice pa pn pc) e.slots e.st sa sn sc) :
  G0 9 K.wb 2 w #[.slice K.fa K.fn K.fc,.slice K.ga K.gn K.gc,.slice la ln lc,.slice pa pn pc,.int .i64 (e.slots:Nat),.slice sa sn sc] K.te la ln lc (Cz e.loc):=h.Na.stk hv
theorem EC.Sv.Pq{ρ:Nat->Nat}{la:Option Addr}{ln lc:Nat}{pa:Option Addr}{pn pc:Nat}{bl:List LB}{sa:Option Addr}{sn sc:Nat}(h:K.Sv D w e ρ la ln lc pa pn pc bl)(hv:Hq (dX w.heap.size ρ) K.wb K.te w (.slice K.fa K.fn K.fc) (.slice K.ga K.gn K.gc) (.slice la ln lc) (.slice pa pn pc) e.slots e.st sa sn sc) :
  G0 260 K.wb 3 w #[.slice K.fa K.fn K.fc,.slice K.ga K.gn K.gc,.slice la ln lc,.slice pa pn pc,.int .i64 (e.slots:Nat),.slice sa sn sc] K.te pa pn pc (bl.map fun b=>C3 b.1).reverse:=
 ⟨hv.cell,rfl,h.pr,fun e=>by have:=h.pro _ e;have:=h.one.1;omega⟩
theorem A56(h:K.St lbs D w e)(hn:e.loc.length+1<=100000)(s:Nm) :
  Calls Tryz.prog 81 #[.pointer (some ⟨K.wb,0,none⟩),.string ⟨s.toArray⟩] w fun r w'=>r=.returned (.int .i64 (e.loc.length:Nat))/\K.St lbs D w' (e.local' s)/\A2 D w w':=by
 obtain⟨ρ,la,ln,lc,pa,pn,pc,bl,h,hlb⟩:=h;obtain⟨sa,sn,sc,hv⟩:=h.ew;have lb:=A6 hv.cell;have HL:=A0 (Qs (h.Lj hv));have HPu:=A0 (Ur (h.Lj hv) (by rw[Oh];omega) ⟨s.toArray⟩ z4wa);have HPL:=A0 (fun(w1:World) hp=>h.Ah9 s hv (w1:=w1) hn hp);rw[hlb]at HPL;rw[Oh]at HL;clear h hv;go_enter Tryz.func81,Tryz.ntmps81;go_wp2_with fail
 refine HL.o.mono ?_;rintro r w ⟨rfl,rfl⟩;go_wp2_with fail
 refine HPu.o.mono ?_;rintro r w1 ⟨rfl,hp⟩;have Bo:=A0 (HPL.o w1 hp);obtain⟨g,cap,Ai,_,_⟩:=hp;have HL2:=A0 (Qs (w:=w1.drew) ⟨Ai.blk,Ai.cell,B2 Ai.own (fun _ _ _=>rfl),Ai.ne⟩);have c4:=A7 Ai.blk 4 (.int .i64 (e.slots:Nat)) z4wa;have Bk:=A6 Ai.blk;have f1:=Ci Ai.blk;rw[List.length_append,Oh]at HL2;clear Ai HL HPu;go_wp2;refine Jr 11 (by kernel_rfl) (by kernel_rfl) ?_;simp only[List.take_succ_cons,List.take_zero,List.drop_succ_cons,List.drop_zero];iterate 9 (refine F4 (fun K' hK'=>?_);go_simp;refine hK' _ ?_;clear hK' K')
 refine F4 (fun K' hK'=>?_);go_simp;refine⟨_,HL2.o,hK' _ ?_⟩;clear hK' K';refine F4 (fun K' hK'=>?_);go_simp;have hmax:(if(e.slots:Int)<(e.loc.length:Int)+1 then(e.loc.length:Int)+1 else(e.slots:Int))=((max e.slots (e.loc.length+1):Nat):Int):=by
  split <;> omega
 rw[hmax];refine hK' _ ?_;clear hK' K' hmax;refine Jq ?_;go_wp2;go_ret;obtain⟨k1,k2⟩:=Bo.o;exact⟨rfl,k1.drewN 1,k2.trans (Dk D _ 1)⟩
def Kw(K:EC)(l:A3)(c:BT A3):Prop:=∀(lbs:List Nat) (D:Nat->Prop) (w:World) (e:Em) (v:Value) (ks:List Value),
 K.St lbs D w e->Bh D w l v ks->Al D w c ks->Lp (nd l c) e.lps.length->D6 e->e.st.length+2*bsize (nd l c)<=800000->e.loc.length+bsize (nd l c)<=90000->e.lps.length+bsize (nd l c)<=90000->
 Calls Tryz.prog 56 #[.pointer (some ⟨K.wb,0,none⟩),v] w fun r w'=>r=.returned (.tuple #[])/\K.St lbs D w' (Am K.fns K.gl l (Ak c) (em K.fns K.gl c) e)/\A2 D w w'
theorem Lp.nd{x y:Nat}{l:A3}{c r:BT A3}{n:Nat}(h:Lp (.node x y l c r) n):Lp (nd l c) n:=⟨h.1,h.2.1,trivial⟩
theorem Lp.drop:∀(i:Nat) (c:BT A3) (n:Nat),Lp c n->Lp (C2 i c) n:=by
 intro i;induction i with
 | zero=>intro c n h;rw[show C2 0 c=c from by cases c <;> rfl];exact h
 | succ i ih=>
  intro c n h;cases c with
  | nil=>exact h
  | node x y l c r=>exact ih r n h.2.2
end
section
set_option maxRecDepth 100000
open Go.RowKit
open Go.Deep (BT)
theorem A5b(K:EC)(c:BT A3)(hok:Cq (Kw K) c)(lbs:List Nat)(D:Nat->Prop)(w:World)(e:Em)(va:Option Addr)(vn vc:Nat)(ks:List Value)
  (hst:K.St lbs D w e) (hown:Cr D w 142 1 (.slice va vn vc) ks.length ks) (hrep:Al D w c ks) (hlp:Lp c e.lps.length) (hbb:D6 e) (hsz:e.st.length+2*bsize c<=800000) (hlo:e.loc.length+bsize c<=90000) (hll:e.lps.length+bsize c<=90000) :
  Calls Tryz.prog 82 #[.pointer (some ⟨K.wb,0,none⟩),.slice va vn vc] w fun r w'=>r=.returned (.tuple #[])/\K.St lbs D w' (em K.fns K.gl c 0 e)/\A2 D w w':=by
 have hvn:vn=ks.length:=(Cf hown.1).1;subst hvn;have HSt0:=A0 hst;have HOwn:=A0 hown;have HRep:=A0 hrep;have hlen:=hrep.len;have HLen:=A0 hlen;have HLp:=A0 hlp;have hls:=Ni c;have hkl:ks.length<=400000:=by omega
 have HBb0:=A0 hbb;clear hst hown hrep hlen hlp hbb;go_enter Tryz.func82,Tryz.ntmps82;go_wp2;go_loopg [8] ks.length (fun k v wr=>∃(i:Nat) (ei:Em),v=.int .i64 i/\i+k=ks.length/\K.St lbs D wr ei/\em K.fns K.gl (C2 i c) 0 ei=em K.fns K.gl c 0 e/\ei.lps.length=e.lps.length/\D6 ei/\ei.st.length+2*bsize (C2 i c)<=800000/\ei.loc.length+bsize (C2 i c)<=90000/\bsize (C2 i c)<=bsize c/\A2 D w wr)
 case atStart=>exact⟨0,e,rfl,by omega,HSt0.o,rfl,rfl,HBb0.o,hsz,hlo,Nat.le_refl _,A2.refl _ _⟩
 case round=>
  clear HSt0 HBb0;obtain⟨i,ei,rfl,hik,hst,hse,hli,hbb,hsi,hci,hbi,hbel⟩:=hrel;have HBb:=A0 hbb;have HSt:=A0 hst;have HSe:=A0 hse;have HLi:=A0 hli;have HBel:=A0 hbel;clear hst hse hbel hli hbb;by_cases hlt:i<ks.length
  ·have hr:=HRep.o.Bf HBel.o;obtain⟨x,y,l,cc,r,hd,v,ks',hv,hn,hrk⟩:=Al.at' i c ks hr z5ca;obtain⟨g,rfl,_,hcap,lg,hcell⟩:=Hg (HOwn.o.Bf HBel.o).1 z4sa;have d0:=hcell i v hv;have hE:=A0 (hok.at' i c x y l cc r hd);have hz:bsize (C2 i c)=bsize (nd l cc)+bsize r:=by rw[hd,Br,bsize]
   have hdn:=O8 i c x y l cc r hd;have HNx:Hid (em K.fns K.gl (C2 (i+1) c) 0 (Am K.fns K.gl l (Ak cc) (em K.fns K.gl cc) ei)=em K.fns K.gl c 0 e):=by
    show _=_;rw[hdn,←HSe.o,hd,Ib]
   have hsn:(Am K.fns K.gl l (Ak cc) (em K.fns K.gl cc) ei).st.length+2*bsize (C2 (i+1) c)<=800000:=by
    have:=Gh K.fns K.gl l cc ei;rw[hdn];omega
   have hcn:(Am K.fns K.gl l (Ak cc) (em K.fns K.gl cc) ei).loc.length+bsize (C2 (i+1) c)<=90000/\bsize (C2 (i+1) c)<=bsize c:=by
    have:=Abf K.fns K.gl l cc ei;rw[hdn];omega
   have HLn:Hid ((Am K.fns K.gl l (Ak cc) (em K.fns K.gl cc) ei).lps.length=e.lps.length):=(A08 K.fns K.gl l cc ei).trans HLi.o;have hlpn:Lp (nd l cc) ei.lps.length:=by
    have:=Lp.drop i c _ HLp.o;rw[hd,←HLi.o]at this;exact this.nd
   have HC:=A0 (hE.out lbs D wr ei v ks' HSt.o hn hrk hlpn HBb.o z4sa z4sa (by have:=HLi.o;omega));have HSn:=A0 hsn;have HBn:=A0 (Tg K.fns K.gl l cc ei HBb.o);have HCn:=A0 hcn;clear hr hd hv hn hrk hcell hsn hz hcn hdn hlpn;go_wp2_with fail
   refine HC.o.mono ?_;rintro r' w1 ⟨rfl,Ai,A1⟩;have A8:=A0 Ai;have A4:Hid (A2 D w w1):=HBel.o.trans A1;clear Ai A1;go_wp2;go_roundg (gk-1)
   case measure=>omega
   case rel=>exact⟨i+1,_,rfl,by omega,A8.o,HNx.o,HLn.o,HBn.o,HSn.o,HCn.o.1,HCn.o.2,A4.o⟩
  ·have HE:Hid (ei=em K.fns K.gl c 0 e):=by
    exact z0pa
   exact z2qa
theorem Sp(K:EC)(c:BT A3)(hok:Cq (Kw K) c)(lbs:List Nat)(D:Nat->Prop)(w:World)(e:Em)(va:Option Addr)(vn vc:Nat)(ks:List Value)
  (hst:K.St lbs D w e) (hown:Cr D w 142 1 (.slice va vn vc) ks.length ks) (hrep:Al D w c ks) (hlp:Lp c e.lps.length) (hbb:D6 e) (hsz:e.st.length+2*bsize c<=800000) (hlo:e.loc.length+bsize c<=90000) (hll:e.lps.length+bsize c<=90000) :
  Calls Tryz.prog 143 #[.pointer (some ⟨K.wb,0,none⟩),.slice va vn vc] w fun r w'=>r=.returned (.tuple #[])/\K.St lbs D w' ((em K.fns K.gl c 0 e).cut e.loc.length)/\A2 D w w':=by
 have HC:=A0 (A5b K c hok lbs D w e va vn vc ks hst hown hrep hlp hbb hsz hlo hll);have hlb:=hst.lo.2.1;have Jm:e.loc.length<=(em K.fns K.gl c 0 e).loc.length:=Abr K.fns K.gl c 0 e;obtain⟨ρ,la,ln,lc,pa,pn,pc,bl,h,_⟩:=hst;obtain⟨sa,sn,sc,hv⟩:=h.ew;have HL:=A0 (Qs (h.Lj hv));rw[Oh]at HL;clear h hv hown hrep hlp hbb;go_enter Tryz.func143,Tryz.ntmps143;go_wp2_with fail
 refine HL.o.mono ?_;rintro r w ⟨rfl,rfl⟩;go_wp2_with fail
 refine HC.o.mono ?_;rintro r w1 ⟨rfl,Ai,A1⟩;have hlb1:=Ai.lo.2.1;have A4:=A0 A1;obtain⟨ρ,la,ln,lc,pa,pn,pc,bl,h,hlb⟩:=Ai;obtain⟨sa,sn,sc,hv⟩:=h.ew;have HCut:=A0 (Z0 (h.Lj hv) e.loc.length (by rw[Oh];exact Jm) z4wa);have HTo:=A0 (fun(w2:World) hp=>h.A02 e.loc.length hv (w':=w2) hp);rw[hlb]at HTo;clear h hv A1;go_wp2_with fail
 refine HCut.o.mono ?_;rintro r w2 ⟨rfl,hp⟩;obtain⟨k1,k2⟩:=HTo.o w2 hp;have Ah:=A0 k1;have Aa:Hid (A2 D w w2):=A4.o.trans k2;clear hp k1 k2;go_wp2;go_end0;exact z4aa
theorem z1ma {P:Prop} (h:P:=by
  rintro r w2 ⟨rfl,Az,A9⟩;have Ah:=A0 Az;have Aa:Hid (A2 D w w2):=A4.o.trans A9;clear Az A9;go_wp2;go_end0;subst I0;exact⟨rfl,Ah.o,Aa.o⟩):P:=h
theorem Ao3(K:EC)(l:A3)(c:BT A3)(hk:l.kd=27)(hwf:Wf 0 c):Kw K l c:=by
 intro lbs D w e v ks hst hn hr hlp hbb hsz hlo hll;obtain⟨hlw,lcb,hncb⟩:=hst.lo;have hnds:=Br l c;unfold Bh at hn;rw[if_neg z4sa]at hn;obtain⟨b,cs,rfl,hD,hb,hl⟩:=hn;have e1:Cc l.kd=265:=by rw[hk];rfl
 have e2:D8 l.kd=267:=by rw[hk];rfl
 rw[e1];rw[e2]at hb;unfold Cm at hl;simp only[hk]at hl;rw[Wn hk];obtain⟨a,rfl,rfl⟩:=hl;obtain⟨x1,y1,l1,c1,r1,Cx,rfl,B9,B8,hz⟩:=hr.cons';obtain rfl:=hz.nil';have Bq:bsize (.node x1 y1 l1 c1 .nil)=bsize (nd l1 c1):=by rw[Br,bsize];rfl
 have hlen1:=Gh K.fns K.gl l1 c1 e;have hloc1:(Am K.fns K.gl l1 (Ak c1) (em K.fns K.gl c1) e).loc.length<=e.loc.length:=by rw[(Nn K.fns K.gl l1 c1 hwf.exs.1 hwf.exs.2.1 e).2.1];exact Nat.le_refl _
 have hxs:=hwf.exs;rw[Ib,em];have HC:=A0 (hst.expr hxs.1 hxs.2.1 B9 B8 z4sa);have HBk:=A0 hb;have d1:=A7 hb 1 a rfl;have ld:=A6 hb;have D4:=N8 265 z4ta;have Dp:=Oq 265 z4ta;have Ej:=Pp 265 z4ta;have F9:=Qt 265 z4ta;have G6:=Sh 265 z4ta;have I7:=Uq 265 z4ta;have Jg:=Ak1;clear hst hb e1 e2 hk hr B9 B8 hz hwf hxs hlp hbb;generalize I0:Am K.fns K.gl l1 (Ak c1) (em K.fns K.gl c1) e=Bu at *;unfold C3;go_enter Tryz.func56,Tryz.ntmps56;go_wp2_with fail
 refine(HC.o).mono ?_;rintro r w1 ⟨rfl,Ai,A1⟩;have A8:=A0 Ai;have A4:=A0 A1;have Bd:=(A1.block b hD).trans HBk.o;have HBk1:=A0 Bd;clear Ai A1 d1 ld;have d0:w1.cell? ⟨b,0,none⟩=some (.int .i64 (l.line:Nat)):=A7 Bd 0 _ rfl;have ld:=A6 Bd;clear Bd;go_wp2_with fail
 refine(A8.o.step z4sa 41 0 l.line).mono ?_;exact z1ma
theorem Anz(K:EC)(l:A3)(c:BT A3)(hk:l.kd=30)(hwf:Wf 0 c):Kw K l c:=by
 intro lbs D w e v ks hst hn hr hlp hbb hsz hlo hll;obtain⟨hlw,lcb,hncb⟩:=hst.lo;have hnds:=Br l c;unfold Bh at hn;rw[if_neg z4sa]at hn;obtain⟨b,cs,rfl,hD,hb,hl⟩:=hn;have e1:Cc l.kd=270:=by rw[hk];rfl
 have e2:D8 l.kd=272:=by rw[hk];rfl
 rw[e1];rw[e2]at hb;unfold Cm at hl;simp only[hk]at hl;rw[Wr hk];obtain⟨a,rfl,rfl⟩:=hl;obtain⟨x1,y1,l1,c1,r1,Cx,rfl,B9,B8,hz⟩:=hr.cons';obtain rfl:=hz.nil';have Bq:bsize (.node x1 y1 l1 c1 .nil)=bsize (nd l1 c1):=by rw[Br,bsize];rfl
 have hlen1:=Gh K.fns K.gl l1 c1 e;have hloc1:(Am K.fns K.gl l1 (Ak c1) (em K.fns K.gl c1) e).loc.length<=e.loc.length:=by rw[(Nn K.fns K.gl l1 c1 hwf.exs.1 hwf.exs.2.1 e).2.1];exact Nat.le_refl _
 have hxs:=hwf.exs;rw[Ib,em];have HC:=A0 (hst.expr hxs.1 hxs.2.1 B9 B8 z4sa);have HBk:=A0 hb;have d1:=A7 hb 0 a rfl;have ld:=A6 hb;have D4:=N8 270 z4ta;have Dp:=Oq 270 z4ta;have Ej:=Pp 270 z4ta;have F9:=Qt 270 z4ta;have G6:=Sh 270 z4ta;have I7:=Uq 270 z4ta;have Jg:=Z8 270 z4ta;have ta7:=Akj 270 z4ta;have ta8:=Ajy;clear hst hb e1 e2 hk hr B9 B8 hz hwf hxs hlp hbb;generalize I0:Am K.fns K.gl l1 (Ak c1) (em K.fns K.gl c1) e=Bu at *;unfold C3;go_enter Tryz.func56,Tryz.ntmps56;go_wp2_with fail
 refine(HC.o).mono ?_;rintro r w1 ⟨rfl,Ai,A1⟩;have A8:=A0 Ai;have A4:=A0 A1;clear Ai A1 d1 ld;go_wp2_with fail
 refine(A8.o.step z4sa 5 0 0).mono ?_;exact z1ma
theorem Ao2(K:EC)(l:A3)(c:BT A3)(hk:l.kd=21)(hwf:Wf 0 c):Kw K l c:=by
 intro lbs D w e v ks hst hn hr hlp hbb hsz hlo hll;obtain⟨hlw,lcb,hncb⟩:=hst.lo;have hnds:=Br l c;unfold Bh at hn;rw[if_neg z4sa]at hn;obtain⟨b,cs,rfl,hD,hb,hl⟩:=hn;have e1:Cc l.kd=145:=by rw[hk];rfl
 have e2:D8 l.kd=152:=by rw[hk];rfl
 rw[e1];rw[e2]at hb;unfold Cm at hl;simp only[hk]at hl;rw[A05 hk];obtain⟨a,rfl,rfl⟩:=hl;obtain⟨x1,y1,l1,c1,r1,Cx,rfl,B9,B8,hz⟩:=hr.cons';obtain rfl:=hz.nil';have Bq:bsize (.node x1 y1 l1 c1 .nil)=bsize (nd l1 c1):=by rw[Br,bsize];rfl
 have hlen1:=Gh K.fns K.gl l1 c1 e;have hloc1:(Am K.fns K.gl l1 (Ak c1) (em K.fns K.gl c1) e).loc.length<=e.loc.length:=by rw[(Nn K.fns K.gl l1 c1 hwf.exs.1 hwf.exs.2.1 e).2.1];exact Nat.le_refl _
 have hxs:=hwf.exs;rw[Ib,em];have HC:=A0 (hst.expr hxs.1 hxs.2.1 B9 B8 z4sa);have HBk:=A0 hb;have d1:=A7 hb 2 a rfl;have ld:=A6 hb;have D4:=A3t;clear hst hb e1 e2 hk hr B9 B8 hz hwf hxs hlp hbb;generalize I0:Am K.fns K.gl l1 (Ak c1) (em K.fns K.gl c1) e=Bu at *;unfold C3;go_enter Tryz.func56,Tryz.ntmps56;go_wp2_with fail
 refine(HC.o).mono ?_;rintro r w1 ⟨rfl,Ai,A1⟩;have A8:=A0 Ai;have A4:=A0 A1;have Bd:=(A1.block b hD).trans HBk.o;have HBk1:=A0 Bd;clear Ai A1 d1 ld;have d0:w1.cell? ⟨b,1,none⟩=some (.string ⟨l.s.toArray⟩):=A7 Bd 1 _ rfl;have ld:=A6 Bd;clear Bd;go_wp2_with fail
 refine(A56 A8.o z4sa l.s).mono ?_;rintro r w2 ⟨rfl,Az,A9⟩;have Ah:=A0 Az;have Aa:Hid (A2 D w w2):=A4.o.trans A9;clear Az A9;go_wp2_with fail
 refine(Ah.o.step (by show Bu.st.length<=_;omega) 3 (Bu.loc.length:Nat) 0).mono ?_;rintro r w3 ⟨rfl,C0,Ar⟩;have Be:=A0 C0;have Ay:Hid (A2 D w w3):=Aa.o.trans Ar;clear C0 Ar;go_wp2;go_end0;subst I0;exact z4qa
theorem Ao8(K:EC)(l:A3)(c:BT A3)(hk:l.kd=24)(hwf:Wf 0 c)  (lbs:List Nat) (D:Nat->Prop) (w:World) (e:Em) (b:Nat) (a:Value) (ks:List Value) (hst:K.St lbs D w e) (hb:w.heap[b]?=some (.cells #[.int .i64 (l.line:Nat),a] 318 (0,0))) (hks:(ks=[]/\a=.nilIface)\/ks=[a]) (hr:Al D w c ks) (hsz:e.st.length+2*bsize (nd l c)<=800000) :
  Calls Tryz.prog 95 #[.pointer (some ⟨K.wb,0,none⟩),.pointer (some ⟨b,0,none⟩)] w fun r w'=>r=.returned (.tuple #[])/\K.St lbs D w' (Am K.fns K.gl l (Ak c) (em K.fns K.gl c) e)/\A2 D w w':=by
 obtain⟨hlw,lcb,hncb⟩:=hst.lo;have hnds:=Br l c;rw[Tf hk];have d1:=A7 hb 1 _ rfl;have ld:=A6 hb;have HBk:=A0 hb;rcases hks with⟨rfl,rfl⟩|rfl
 ·rw[hr.nil'];have HC:=A0 (hst.step z4sa 43 0 0);clear hst hb hr hwf hk;go_enter Tryz.func95,Tryz.ntmps95;go_wp2_with fail
  refine HC.o.mono ?_;rintro r w1 ⟨rfl,Ai,A1⟩;have A8:=A0 Ai;have A4:=A0 A1;clear Ai A1;go_wp2;refine bodyPost_ret (v:=.tuple #[]) (by simp[results,Tryz.results95,go_sem]) rfl ?_;exact z4ba
 ·obtain⟨x1,y1,l1,c1,r1,Cx,rfl,B9,B8,hz⟩:=hr.cons';obtain rfl:=hz.nil';have hxs:=hwf.exs;have Bq:bsize (.node x1 y1 l1 c1 .nil)=bsize (nd l1 c1):=by rw[Br,bsize];rfl
  have hlen1:=Gh K.fns K.gl l1 c1 e;rw[if_neg (by simp[Ak]),Ib,em];obtain⟨t,x,rfl⟩:∃t x,a=.iface t x:=B9.isIface (Oa hxs.1).1 (Oa hxs.1).2.1;have HC:=A0 (hst.expr hxs.1 hxs.2.1 B9 B8 z4sa);clear hst hb hr hwf hk B9 B8 hz hxs;generalize I0:Am K.fns K.gl l1 (Ak c1) (em K.fns K.gl c1) e=Bu at *;go_enter Tryz.func95,Tryz.ntmps95;go_wp2_with fail
  refine HC.o.mono ?_;rintro r w1 ⟨rfl,Ai,A1⟩;have A8:=A0 Ai;have A4:=A0 A1;clear Ai A1;go_wp2_with fail
  refine(A8.o.step z4sa 44 0 0).mono ?_;exact z1ma
theorem z47a {P:Prop} (h:P:=by
  unfold C3;go_enter Tryz.func56,Tryz.ntmps56;go_wp2_with fail
  refine(HC.o).mono ?_;exact z0ca):P:=h
theorem Ao1(K:EC)(l:A3)(c:BT A3)(hk:l.kd=24)(hwf:Wf 0 c):Kw K l c:=by
 intro lbs D w e v ks hst hn hr hlp hbb hsz hlo hll;obtain⟨hlw,lcb,hncb⟩:=hst.lo;have hnds:=Br l c;unfold Bh at hn;rw[if_neg z4sa]at hn;obtain⟨b,cs,rfl,hD,hb,hl⟩:=hn;have e1:Cc l.kd=257:=by rw[hk];rfl
 have e2:D8 l.kd=318:=by rw[hk];rfl
 rw[e1];rw[e2]at hb;unfold Cm at hl;simp only[hk]at hl;obtain⟨a,rfl,hks⟩:=hl;have HC:=A0 (Ao8 K l c hk hwf lbs D w e b a ks hst hb hks hr hsz);have ld:=A6 hb;have D4:=N8 257 z4ta;have Dp:=Oq 257 z4ta;have Ej:=Pp 257 z4ta;have F9:=Ak2;clear hst hb e1 e2 hk hr hwf hlp hbb hks;exact z47a
theorem Aob(K:EC)(l:A3)(c:BT A3)(hk:l.kd=28)(hwf:Wf 0 c)(lbs:List Nat)(D:Nat->Prop)(w:World)(e:Em)(b:Nat)(b2:Nat)(a:Value)(Jc:D b2)(hb:w.heap[b]?=some (.cells #[.iface 238 (C3 b2),a] 322 (0,0)))(A9:w.heap[b2]?=some (.cells #[Gd l.line,L9 l.s] 240 (0,0)))(hr:Al D w c [a])(hst:K.St lbs D w e)(hsz:e.st.length+2*bsize (nd l c)<=800000) :
  Calls Tryz.prog 97 #[.pointer (some ⟨K.wb,0,none⟩),.pointer (some ⟨b,0,none⟩)] w fun r w'=>r=.returned (.tuple #[])/\K.St lbs D w' (Am K.fns K.gl l (Ak c) (em K.fns K.gl c) e)/\A2 D w w':=by
 obtain⟨hlw,lcb,hncb⟩:=hst.lo;have hnds:=Br l c;rw[Wo hk];obtain⟨x1,y1,l1,c1,r1,Cx,rfl,B9,B8,hz⟩:=hr.cons';obtain rfl:=hz.nil';have hxs:=hwf.exs;have Bq:bsize (.node x1 y1 l1 c1 .nil)=bsize (nd l1 c1):=by rw[Br,bsize];rfl
 have hlen1:=Gh K.fns K.gl l1 c1 e;rw[Ib,em];have HC:=A0 (hst.expr hxs.1 hxs.2.1 B9 B8 z4sa);have Aa:=A0 A9;have d0:=A7 hb 0 _ rfl;have d1:=A7 hb 1 a rfl;have ld:=A6 hb;have D4:=A5g;clear hst hb hr hwf hk B9 B8 hz hxs A9;generalize I0:Am K.fns K.gl l1 (Ak c1) (em K.fns K.gl c1) e=Bu at *;unfold C3 at d0;go_enter Tryz.func97,Tryz.ntmps97;go_wp2_with fail
 refine(HC.o).mono ?_;rintro r w1 ⟨rfl,Ai,A1⟩;have A8:=A0 Ai;have A4:=A0 A1;have Bd:=(A1.block b2 Jc).trans Aa.o;clear Ai A1 d0 d1 ld;have d1:w1.cell? ⟨b2,1,none⟩=some (.string ⟨l.s.toArray⟩):=A7 Bd 1 _ rfl;have ld:=A6 Bd;clear Bd;go_wp2_with fail
 refine(A8.o.var z4sa l.s 3 4).mono ?_;rintro r w2 ⟨rfl,Az,A9⟩;have Ah:=A0 Az;have HBB:Hid (A2 D w w2):=A4.o.trans A9;clear Az A9;go_wp2;go_end0;subst I0;exact⟨rfl,Ah.o,HBB.o⟩
theorem z1ea {P:Prop} (h:P:=by
  have ld:=A6 hb;have D4:=N8 268 z4ta;have Dp:=Oq 268 z4ta;have Ej:=Pp 268 z4ta;have F9:=Qt 268 z4ta;have G6:=Sh 268 z4ta;have I7:=Uq 268 z4ta;have Jg:=Z8 268 z4ta;have ta7:=A3u;clear hst hb e1 e2 hk hr hlp hbb hwf A9;unfold C3;go_enter Tryz.func56,Tryz.ntmps56;go_wp2_with fail
  refine(HC.o).mono ?_;exact z0ca):P:=h
theorem Ao5(K:EC)(l:A3)(c:BT A3)(hk:l.kd=28)(hwf:Wf 0 c):Kw K l c:=by
 intro lbs D w e v ks hst hn hr hlp hbb hsz hlo hll;obtain⟨hlw,lcb,hncb⟩:=hst.lo;have hnds:=Br l c;unfold Bh at hn;rw[if_neg z4sa]at hn;obtain⟨b,cs,rfl,hD,hb,hl⟩:=hn;have e1:Cc l.kd=268:=by rw[hk];rfl
 have e2:D8 l.kd=322:=by rw[hk];rfl
 rw[e1];rw[e2]at hb;unfold Cm at hl;simp only[hk]at hl;obtain⟨b2,a,rfl,Jc,A9,rfl⟩:=hl;have HC:=A0 (Aob K l c hk hwf lbs D w e b b2 a Jc hb A9 hr hst hsz);exact z1ea
theorem Aoa(K:EC)(l:A3)(c:BT A3)(hk:l.kd=29)(hwf:Wf 0 c)(lbs:List Nat)(D:Nat->Prop)(w:World)(e:Em)(b:Nat)(b2:Nat)(o p a:Value)(hD:D b)(Jc:D b2)(hb:w.heap[b]?=some (.cells #[.iface 310 (C3 b2),a] 322 (0,0)))(A9:w.heap[b2]?=some (.cells #[Gd l.line,o,p] 312 (0,0)))(hr:Al D w c [o,p,a])(hst:K.St lbs D w e)(hsz:e.st.length+2*bsize (nd l c)<=800000) :
  Calls Tryz.prog 97 #[.pointer (some ⟨K.wb,0,none⟩),.pointer (some ⟨b,0,none⟩)] w fun r w'=>r=.returned (.tuple #[])/\K.St lbs D w' (Am K.fns K.gl l (Ak c) (em K.fns K.gl c) e)/\A2 D w w':=by
 obtain⟨hlw,lcb,hncb⟩:=hst.lo;have hnds:=Br l c;rw[Wp hk];obtain⟨x1,y1,l1,c1,r1,Cx,rfl,B9,B8,hz⟩:=hr.cons';obtain⟨x2,y2,l2,c2,r2,Gl,rfl,D7,Bm,Bw⟩:=hz.cons';obtain⟨x3,y3,l3,c3,r3,ks3,rfl,hn3,Du,Fy⟩:=Bw.cons';obtain rfl:=Fy.nil';have Dm:=hwf.exs;have Fc:=Dm.2.2.exs;have hx3:=Fc.2.2.exs;have Bq:bsize (.node x1 y1 l1 c1 (.node x2 y2 l2 c2 (.node x3 y3 l3 c3 .nil)))=bsize (nd l1 c1)+bsize (nd l2 c2)+bsize (nd l3 c3):=by rw[Br,Br,Br,bsize,bsize,bsize,bsize];omega
 rw[Ib,Ib,Ib,em];have Jm:=Gh K.fns K.gl l1 c1 e;have Ip:=Gh K.fns K.gl l2 c2 (Am K.fns K.gl l1 (Ak c1) (em K.fns K.gl c1) e);have hl3:=Gh K.fns K.gl l3 c3 (Am K.fns K.gl l2 (Ak c2) (em K.fns K.gl c2) (Am K.fns K.gl l1 (Ak c1) (em K.fns K.gl c1) e));have Gy:=A0 (hst.expr Dm.1 Dm.2.1 B9 B8 z4sa);have Ed:=A0 (fun(W:World) (e2:Em) (he:e2.st.length+2*bsize (nd l2 c2)<=800000) (hx:K.St lbs D W e2) (hbd:A2 D w W)=>hx.expr Fc.1 Fc.2.1 (D7.Bf hbd) (Bm.Bf hbd) he);have HC3:=A0 (fun(W:World) (e2:Em) (he:e2.st.length+2*bsize (nd l3 c3)<=800000) (hx:K.St lbs D W e2) (hbd:A2 D w W)=>hx.expr hx3.1 hx3.2.1 (hn3.Bf hbd) (Du.Bf hbd) he);have HBk:=A0 hb;have HBj:=A0 A9;have d0:=A7 hb 0 _ rfl;have ld:=A6 hb;have g1:=A7 A9 1 o rfl;have lg:=A6 A9;have D4:=Nc 310 z4ta;have Dp:=A5e;clear hst hb hr hwf hk B9 B8 hz A9 D7 Bm Bw hn3 Du Fy Dm Fc hx3;generalize I0:Am K.fns K.gl l1 (Ak c1) (em K.fns K.gl c1) e=Bu at *;generalize hE2:Am K.fns K.gl l2 (Ak c2) (em K.fns K.gl c2) Bu=F5 at *;generalize hE3:Am K.fns K.gl l3 (Ak c3) (em K.fns K.gl c3) F5=em3 at *;unfold C3 at d0;go_enter Tryz.func97,Tryz.ntmps97;go_wp2_with fail
 refine(Gy.o).mono ?_;rintro r w1 ⟨rfl,Ai,A1⟩;have A8:=A0 Ai;have A4:=A0 A1;have hbj1:=(A1.block b2 Jc).trans HBj.o;have HBj1:=A0 hbj1;have HBk1:=A0 ((A1.block b hD).trans HBk.o);clear Ai A1 d0 g1 ld lg;have g2:=A7 hbj1 2 p rfl;have lg:=A6 hbj1;clear hbj1;go_wp2_with fail
 refine(Ed.o _ _ z4sa A8.o A4.o).mono ?_;rintro r w2 ⟨rfl,Az,A9⟩;rw[hE2]at Az;have Ah:=A0 Az;have Aa:Hid (A2 D w w2):=A4.o.trans A9;have Cv:=(A9.block b hD).trans HBk1.o;have HBj2:=A0 ((A9.block b2 Jc).trans HBj1.o);clear Az A9 g2 lg;have d1:=A7 Cv 1 a rfl;have ld:=A6 Cv;clear Cv;go_wp2_with fail
 refine(HC3.o _ _ z4sa Ah.o Aa.o).mono ?_;rintro r w3 ⟨rfl,C0,Ar⟩;rw[hE3]at C0;have Be:=A0 C0;have Ay:Hid (A2 D w w3):=Aa.o.trans Ar;have hbj3:=(Ar.block b2 Jc).trans HBj2.o;clear C0 Ar d1 ld;have g0:w3.cell? ⟨b2,0,none⟩=some (.int .i64 (l.line:Nat)):=A7 hbj3 0 _ rfl;have lg:=A6 hbj3;clear hbj3;go_wp2_with fail
 refine(Be.o.step z4sa 40 0 l.line).mono ?_;rintro r w4 ⟨rfl,F6,Bi⟩;exact z4ra
theorem Ao4(K:EC)(l:A3)(c:BT A3)(hk:l.kd=29)(hwf:Wf 0 c):Kw K l c:=by
 intro lbs D w e v ks hst hn hr hlp hbb hsz hlo hll;obtain⟨hlw,lcb,hncb⟩:=hst.lo;have hnds:=Br l c;unfold Bh at hn;rw[if_neg z4sa]at hn;obtain⟨b,cs,rfl,hD,hb,hl⟩:=hn;have e1:Cc l.kd=268:=by rw[hk];rfl
 have e2:D8 l.kd=322:=by rw[hk];rfl
 rw[e1];rw[e2]at hb;unfold Cm at hl;simp only[hk]at hl;obtain⟨b2,o,p,a,rfl,Jc,A9,rfl⟩:=hl;have HC:=A0 (Aoa K l c hk hwf lbs D w e b b2 o p a hD Jc hb A9 hr hst hsz);exact z1ea
def Py(K:EC)(l:A3)(c:BT A3):Prop:=(l.kd=31\/l.kd=32)->Cq (Kw K) c
theorem Aat(d:Em):d.cut d.loc.length=d:=by
 unfold Em.cut;rw[List.take_length]
theorem Nl(n:Nat)(e:Em):(e.cut n).st.length=e.st.length:=rfl
theorem Aba(fns:List (Nm×Nat))(gl:List Nm)(line x1 y1 x2 y2:Nat)(l1 l2:A3)(c1 c2:BT A3)(e:Em)(h31:l2.kd=31) :
  Js line (Ak (.node x1 y1 l1 c1 (.node x2 y2 l2 c2 .nil))) (em fns gl (.node x1 y1 l1 c1 (.node x2 y2 l2 c2 .nil))) e =
   ((((em fns gl c2 0 ((Am fns gl l1 (Ak c1) (em fns gl c1) e).step 8 0 line)).cut (Am fns gl l1 (Ak c1) (em fns gl c1) e).loc.length).step 6 0 0).land (Am fns gl l1 (Ak c1) (em fns gl c1) e).st.length).land (em fns gl c2 0 ((Am fns gl l1 (Ak c1) (em fns gl c1) e).step 8 0 line)).st.length:=by
 simp[Js,P9,Ti,Ak,Rf h31];rfl
theorem Abb(fns:List (Nm×Nat))(gl:List Nm)(line x1 y1 x2 y2 x3 y3:Nat)(l1 l2 l3:A3)(c1 c2 c3:BT A3)(e:Em)(h31:l2.kd=31)(h32:l3.kd=31) :
  Js line (Ak (.node x1 y1 l1 c1 (.node x2 y2 l2 c2 (.node x3 y3 l3 c3 .nil)))) (em fns gl (.node x1 y1 l1 c1 (.node x2 y2 l2 c2 (.node x3 y3 l3 c3 .nil)))) e =
   ((em fns gl c3 0 ((((em fns gl c2 0 ((Am fns gl l1 (Ak c1) (em fns gl c1) e).step 8 0 line)).cut (Am fns gl l1 (Ak c1) (em fns gl c1) e).loc.length).step 6 0 0).land (Am fns gl l1 (Ak c1) (em fns gl c1) e).st.length)).cut
    ((em fns gl c2 0 ((Am fns gl l1 (Ak c1) (em fns gl c1) e).step 8 0 line)).cut (Am fns gl l1 (Ak c1) (em fns gl c1) e).loc.length).loc.length).land (em fns gl c2 0 ((Am fns gl l1 (Ak c1) (em fns gl c1) e).step 8 0 line)).st.length:=by
 simp[Js,P9,Ti,Abt,Ak,Rf h31,Rf h32];rfl
theorem z2ta {P:Prop} (h:P:=by
  rintro r w7 ⟨rfl,G2,He⟩;have HS7:=A0 G2;have HB7:Hid (A2 D w w7):=Jh.o.trans He;clear G2 He;go_wp2;go_end0;exact⟨rfl,HS7.o,HB7.o⟩):P:=h
theorem z6da {P:Prop} (h:P:=by show Bu.loc.length+_<=_;omega):P:=h
theorem Ao7(K:EC)(l:A3)(c:BT A3)(hk:l.kd=22)(ih:Cq (Py K) c)(hwf:Wf 2 c)(lbs:List Nat)(D:Nat->Prop)(w:World)(e:Em)(b:Nat)(t:TypeId)(x:Value)(s1:Option Addr)(n1 m1:Nat)(s2:Option Addr)(n2 m2:Nat)(ks:List Value)(hD:D b)
  (hb:w.heap[b]?=some (.cells #[.int .i64 (l.line:Nat),.iface t x,.slice s1 n1 m1,.slice s2 n2 m2] 314 (0,0))) (hks:(ks=[.iface t x,.slice s1 n1 m1]/\Value.slice s2 n2 m2=.slice none 0 0)\/ks=[.iface t x,.slice s1 n1 m1,.slice s2 n2 m2])
  (hr:Al D w c ks) (hst:K.St lbs D w e) (hlp:Lp (nd l c) e.lps.length) (hbb:D6 e) (hsz:e.st.length+2*bsize (nd l c)<=800000) (hlo:e.loc.length+bsize (nd l c)<=90000) (hll:e.lps.length+bsize (nd l c)<=90000) :
  Calls Tryz.prog 93 #[.pointer (some ⟨K.wb,0,none⟩),.pointer (some ⟨b,0,none⟩)] w fun r w'=>r=.returned (.tuple #[])/\K.St lbs D w' (Am K.fns K.gl l (Ak c) (em K.fns K.gl c) e)/\A2 D w w':=by
 obtain⟨hlw,lcb,hncb⟩:=hst.lo;have hnds:=Br l c;rw[Te hk];have HBk:=A0 hb;have d1:=A7 hb 1 _ rfl;have ld:=A6 hb;rcases hks with⟨rfl,Az⟩|rfl
 ·obtain⟨x1,y1,l1,c1,r1,Cx,rfl,B9,B8,hz⟩:=hr.cons';obtain⟨x2,y2,l2,c2,r2,Gl,rfl,D7,Bm,hzz⟩:=hz.cons';obtain rfl:=hzz.nil';injection Az with q1 q2 q3;subst q1 q2 q3;obtain⟨Dm,Fc⟩:=hwf.Li.1 B9.Qh.1;obtain⟨C7,B1⟩:=D7.Od;obtain⟨h31,_⟩:=hwf.1.Li.2 C7;have Bq:bsize (.node x1 y1 l1 c1 (.node x2 y2 l2 c2 .nil))=bsize (nd l1 c1)+1+l2.ps.length+bsize c2:=by rw[Br];simp only[bsize];omega
  have Jm:=Gh K.fns K.gl l1 c1 e;have Ip:=(Mb K.fns K.gl c2).1 ((Am K.fns K.gl l1 (Ak c1) (em K.fns K.gl c1) e).step 8 0 l.line);have Io:=Rg K.fns K.gl c2 0 ((Am K.fns K.gl l1 (Ak c1) (em K.fns K.gl c1) e).step 8 0 l.line);rw[Dg]at Ip Io;have hsm:=Nn K.fns K.gl l1 c1 Dm Fc e;have hlc1:(Am K.fns K.gl l1 (Ak c1) (em K.fns K.gl c1) e).loc.length<=e.loc.length:=by rw[hsm.2.1];exact Nat.le_refl _
  have HLp1:Hid ((Am K.fns K.gl l1 (Ak c1) (em K.fns K.gl c1) e).lps.length=e.lps.length):=by show _=_;rw[hsm.1]
  have HLpc:Hid (Lp (.node x1 y1 l1 c1 (.node x2 y2 l2 c2 .nil)) e.lps.length):=by have:=hlp.2.1;rw[if_neg z4sa]at this;exact this
  have hpc2:Lp c2 e.lps.length:=by have:=HLpc.o.2.2.2.1;rw[if_neg z4sa]at this;exact this
  have HLp2:Hid ((em K.fns K.gl c2 0 ((Am K.fns K.gl l1 (Ak c1) (em K.fns K.gl c1) e).step 8 0 l.line)).lps.length=e.lps.length):=(X5 _ _ _ _ _).trans HLp1.o;rw[Aba K.fns K.gl l.line x1 y1 x2 y2 l1 l2 c1 c2 e h31];have Gy:=A0 (hst.expr Dm Fc B9 B8 z4sa);have HBm1:=A0 (Tg K.fns K.gl l1 c1 e hbb);have HBm2:=A0 (Th K.fns K.gl c2 0 _ (HBm1.o.step 8 0 l.line));have Ed:=A0 (fun(W:World) (e2:Em) (hx:K.St lbs D W e2) (hbd:A2 D w W) (h1:e2.st.length+2*bsize c2<=800000) (h2:e2.loc.length+bsize c2<=90000) (h3:e2.lps.length=e.lps.length) (h4:D6 e2)=>Sp K c2 (ih.2.1 C7) lbs D W e2 s1 n1 m1 Gl hx (B1.Bf hbd) (Bm.Bf hbd) (by rw[h3];exact hpc2) h4 h1 h2 z4sa);have HC3:=A0 (fun(W:World) (e2:Em) (hx:K.St lbs D W e2) (h1:e2.st.length<=800000) (h2:e2.loc.length<=90000) (h3:e2.lps.length<=90000) (h4:D6 e2)=>Sp K .nil trivial lbs D W e2 none 0 0 [] hx (Om _ _ _ _) rfl trivial h4 z5na z5na z5na);clear hst hb hr hbb B9 B8 hz ih hwf hk D7 Bm hzz Dm Fc C7 B1 hlp hsm hpc2 HLpc h31;generalize I0:Am K.fns K.gl l1 (Ak c1) (em K.fns K.gl c1) e=Bu at *;generalize hE2:em K.fns K.gl c2 0 (Bu.step 8 0 l.line)=F5 at *;go_enter Tryz.func93,Tryz.ntmps93;go_wp2_with fail
  refine(Gy.o).mono ?_;rintro r w1 ⟨rfl,Ai,A1⟩;have A8:=A0 Ai;have A4:Hid (A2 D w w1):=A1;have Bd:=(A4.o.block b hD).trans HBk.o;clear Ai A1 ld;clear d1;have d0:w1.cell? ⟨b,0,none⟩=some (.int .i64 (l.line:Nat)):=A7 Bd 0 _ rfl;have ld:=A6 Bd;clear Bd;go_wp2_with fail
  refine(A8.o.step z4sa 8 0 l.line).mono ?_;rintro r w2 ⟨rfl,Az,A9⟩;have Ah:=A0 Az;have Aa:Hid (A2 D w w2):=A4.o.trans A9;have Cv:=(Aa.o.block b hD).trans HBk.o;clear Az A9 ld;clear d0;have d2:=A7 Cv 2 _ rfl;have ld:=A6 Cv;clear Cv;go_wp2_with fail
  refine(Ed.o _ _ Ah.o Aa.o z6ba z6da HLp1.o (HBm1.o.step _ _ _)).mono ?_;rintro r w3 ⟨rfl,C0,Ar⟩;rw[hE2]at C0;have Be:=A0 C0;have Ay:Hid (A2 D w w3):=Aa.o.trans Ar;have Eh:=(Ay.o.block b hD).trans HBk.o;clear C0 Ar ld;clear d2;have ld:=A6 Eh;clear Eh;go_wp2_with fail
  refine(Be.o.step (by show F5.st.length<=_;omega) 6 0 0).mono ?_;rintro r w4 ⟨rfl,F6,Bi⟩;have El:=A0 F6;have Cs:Hid (A2 D w w4):=Ay.o.trans Bi;have hbk4:=(Cs.o.block b hD).trans HBk.o;clear F6 Bi ld;have ld:=A6 hbk4;clear hbk4;have Er:(F5.cut (Bu.step 8 0 l.line).loc.length).loc.length<=Bu.loc.length:=by show(F5.loc.take Bu.loc.length).length<=_;simp;omega
  go_wp2_with fail
  refine(El.o.land Bu.st.length (by rw[Dg,Nl];omega)).mono ?_;rintro r w5 ⟨rfl,Ch,Dd⟩;have Hs:=A0 Ch;have Ek:Hid (A2 D w w5):=Cs.o.trans Dd;have hbk5:=(Ek.o.block b hD).trans HBk.o;clear Ch Dd ld;have d3:=A7 hbk5 3 _ rfl;have ld:=A6 hbk5;clear hbk5;go_wp2_with fail
  refine(HC3.o _ _ Hs.o (by rw[K6,Dg,Nl];omega) (by show(F5.cut (Bu.step 8 0 l.line).loc.length).loc.length<=_;omega) (by have:=HLp2.o;show F5.lps.length<=_;omega) (((HBm2.o.cut _).step _ _ _).land _)).mono ?_;rintro r w6 ⟨rfl,Dy,hb6⟩;rw[em,Aat]at Dy;have HS6:=A0 Dy;have Jh:Hid (A2 D w w6):=Ek.o.trans hb6;have hbk6:=(Jh.o.block b hD).trans HBk.o;clear Dy hb6 ld;clear d3;have ld:=A6 hbk6;clear hbk6;go_wp2_with fail
  refine(HS6.o.land F5.st.length (by rw[K6,Dg,Nl];omega)).mono ?_;exact z2ta
 ·obtain⟨x1,y1,l1,c1,r1,Cx,rfl,B9,B8,hz⟩:=hr.cons';obtain⟨x2,y2,l2,c2,r2,Gl,rfl,D7,Bm,hzz⟩:=hz.cons';obtain⟨x3,y3,l3,c3,r3,ks3,rfl,hn3,Du,Fy⟩:=hzz.cons';obtain rfl:=Fy.nil';obtain⟨Dm,Fc⟩:=hwf.Li.1 B9.Qh.1;obtain⟨C7,B1⟩:=D7.Od;obtain⟨h31,_⟩:=hwf.1.Li.2 C7;obtain⟨hk3,Cj⟩:=hn3.Od;obtain⟨h33,_⟩:=hwf.1.1.Li.2 hk3;have Bq:bsize (.node x1 y1 l1 c1 (.node x2 y2 l2 c2 (.node x3 y3 l3 c3 .nil)))=bsize (nd l1 c1)+1+l2.ps.length+bsize c2+1+l3.ps.length+bsize c3:=by rw[Br];simp only[bsize];omega
  have Jm:=Gh K.fns K.gl l1 c1 e;have Ip:=(Mb K.fns K.gl c2).1 ((Am K.fns K.gl l1 (Ak c1) (em K.fns K.gl c1) e).step 8 0 l.line);have Io:=Rg K.fns K.gl c2 0 ((Am K.fns K.gl l1 (Ak c1) (em K.fns K.gl c1) e).step 8 0 l.line);rw[Dg]at Ip Io;have hsm:=Nn K.fns K.gl l1 c1 Dm Fc e;have hlc1:(Am K.fns K.gl l1 (Ak c1) (em K.fns K.gl c1) e).loc.length<=e.loc.length:=by rw[hsm.2.1];exact Nat.le_refl _
  have HLp1:Hid ((Am K.fns K.gl l1 (Ak c1) (em K.fns K.gl c1) e).lps.length=e.lps.length):=by show _=_;rw[hsm.1]
  have HLpc:Hid (Lp (.node x1 y1 l1 c1 (.node x2 y2 l2 c2 (.node x3 y3 l3 c3 .nil))) e.lps.length):=by have:=hlp.2.1;rw[if_neg z4sa]at this;exact this
  have hpc2:Lp c2 e.lps.length:=by have:=HLpc.o.2.2.2.1;rw[if_neg z4sa]at this;exact this
  have HLp2:Hid ((em K.fns K.gl c2 0 ((Am K.fns K.gl l1 (Ak c1) (em K.fns K.gl c1) e).step 8 0 l.line)).lps.length=e.lps.length):=(X5 _ _ _ _ _).trans HLp1.o;have hpc3:Lp c3 e.lps.length:=by have:=HLpc.o.2.2.2.2.2.1;rw[if_neg z4sa]at this;exact this
  rw[Abb K.fns K.gl l.line x1 y1 x2 y2 x3 y3 l1 l2 l3 c1 c2 c3 e h31 h33];have Gy:=A0 (hst.expr Dm Fc B9 B8 z4sa);have HBm1:=A0 (Tg K.fns K.gl l1 c1 e hbb);have HBm2:=A0 (Th K.fns K.gl c2 0 _ (HBm1.o.step 8 0 l.line));have Ed:=A0 (fun(W:World) (e2:Em) (hx:K.St lbs D W e2) (hbd:A2 D w W) (h1:e2.st.length+2*bsize c2<=800000) (h2:e2.loc.length+bsize c2<=90000) (h3:e2.lps.length=e.lps.length) (h4:D6 e2)=>Sp K c2 (ih.2.1 C7) lbs D W e2 s1 n1 m1 Gl hx (B1.Bf hbd) (Bm.Bf hbd) (by rw[h3];exact hpc2) h4 h1 h2 z4sa);have HC3:=A0 (fun(W:World) (e2:Em) (hx:K.St lbs D W e2) (hbd:A2 D w W) (h1:e2.st.length+2*bsize c3<=800000) (h2:e2.loc.length+bsize c3<=90000) (h3:e2.lps.length=e.lps.length) (h4:D6 e2)=>Sp K c3 (ih.2.2.1 hk3) lbs D W e2 s2 n2 m2 ks3 hx (Cj.Bf hbd) (Du.Bf hbd) (by rw[h3];exact hpc3) h4 h1 h2 z4sa);clear hst hb hr hbb B9 B8 hz ih hwf hk D7 Bm hzz Dm Fc C7 B1 hlp hsm hpc2 HLpc h31 hn3 Du Fy hk3 Cj hpc3 h33;generalize I0:Am K.fns K.gl l1 (Ak c1) (em K.fns K.gl c1) e=Bu at *;generalize hE2:em K.fns K.gl c2 0 (Bu.step 8 0 l.line)=F5 at *;go_enter Tryz.func93,Tryz.ntmps93;go_wp2_with fail
  refine(Gy.o).mono ?_;rintro r w1 ⟨rfl,Ai,A1⟩;have A8:=A0 Ai;have A4:Hid (A2 D w w1):=A1;have Bd:=(A4.o.block b hD).trans HBk.o;clear Ai A1 ld;clear d1;have d0:w1.cell? ⟨b,0,none⟩=some (.int .i64 (l.line:Nat)):=A7 Bd 0 _ rfl;have ld:=A6 Bd;clear Bd;go_wp2_with fail
  refine(A8.o.step z4sa 8 0 l.line).mono ?_;rintro r w2 ⟨rfl,Az,A9⟩;have Ah:=A0 Az;have Aa:Hid (A2 D w w2):=A4.o.trans A9;have Cv:=(Aa.o.block b hD).trans HBk.o;clear Az A9 ld;clear d0;have d2:=A7 Cv 2 _ rfl;have ld:=A6 Cv;clear Cv;go_wp2_with fail
  refine(Ed.o _ _ Ah.o Aa.o z6ba z6da HLp1.o (HBm1.o.step _ _ _)).mono ?_;rintro r w3 ⟨rfl,C0,Ar⟩;rw[hE2]at C0;have Be:=A0 C0;have Ay:Hid (A2 D w w3):=Aa.o.trans Ar;have Eh:=(Ay.o.block b hD).trans HBk.o;clear C0 Ar ld;clear d2;have ld:=A6 Eh;clear Eh;go_wp2_with fail
  refine(Be.o.step (by show F5.st.length<=_;omega) 6 0 0).mono ?_;rintro r w4 ⟨rfl,F6,Bi⟩;have El:=A0 F6;have Cs:Hid (A2 D w w4):=Ay.o.trans Bi;have hbk4:=(Cs.o.block b hD).trans HBk.o;clear F6 Bi ld;have ld:=A6 hbk4;clear hbk4;have Er:(F5.cut (Bu.step 8 0 l.line).loc.length).loc.length<=Bu.loc.length:=by show(F5.loc.take Bu.loc.length).length<=_;simp;omega
  go_wp2_with fail
  refine(El.o.land Bu.st.length (by rw[Dg,Nl];omega)).mono ?_;rintro r w5 ⟨rfl,Ch,Dd⟩;have Hs:=A0 Ch;have Ek:Hid (A2 D w w5):=Cs.o.trans Dd;have hbk5:=(Ek.o.block b hD).trans HBk.o;clear Ch Dd ld;have d3:=A7 hbk5 3 _ rfl;have ld:=A6 hbk5;clear hbk5;have hl3:=(Mb K.fns K.gl c3).1 (((F5.cut (Bu.step 8 0 l.line).loc.length).step 6 0 0).land Bu.st.length);have hg3:=Rg K.fns K.gl c3 0 (((F5.cut (Bu.step 8 0 l.line).loc.length).step 6 0 0).land Bu.st.length);rw[K6,Dg,Nl]at hg3 hl3;go_wp2_with fail
  refine(HC3.o _ _ Hs.o Ek.o (by rw[K6,Dg,Nl];omega) (by show(F5.cut (Bu.step 8 0 l.line).loc.length).loc.length+_<=_;omega) HLp2.o (((HBm2.o.cut _).step _ _ _).land _)).mono ?_;rintro r w6 ⟨rfl,Dy,hb6⟩;have HS6:=A0 Dy;have Jh:Hid (A2 D w w6):=Ek.o.trans hb6;have hbk6:=(Jh.o.block b hD).trans HBk.o;clear Dy hb6 ld;clear d3;have ld:=A6 hbk6;clear hbk6;go_wp2_with fail
  refine(HS6.o.land F5.st.length (by rw[Nl];omega)).mono ?_;exact z2ta
theorem Ao0(K:EC)(l:A3)(c:BT A3)(hk:l.kd=22)(ih:Cq (Py K) c)(hwf:Wf 2 c):Kw K l c:=by
 intro lbs D w e v ks hst hn hr hlp hbb hsz hlo hll;obtain⟨hlw,lcb,hncb⟩:=hst.lo;have hnds:=Br l c;unfold Bh at hn;rw[if_neg z4sa]at hn;obtain⟨b,cs,rfl,hD,hb,hl⟩:=hn;have e1:Cc l.kd=253:=by rw[hk];rfl
 have e2:D8 l.kd=314:=by rw[hk];rfl
 rw[e1];rw[e2]at hb;unfold Cm at hl;simp only[hk]at hl;obtain⟨t,x,s1,n1,m1,s2,n2,m2,rfl,hks⟩:=hl;have HC:=A0 (Ao7 K l c hk ih hwf lbs D w e b t x s1 n1 m1 s2 n2 m2 ks hD hb hks hr hst hlp hbb hsz hlo hll);have ld:=A6 hb;have D4:=N8 253 z4ta;have Dp:=Ak0;clear hst hb e1 e2 hk hr hlp hbb hks ih hwf;exact z47a
end
section
set_option maxRecDepth 100000
open Go.RowKit
open Go.Deep (BT)
variable {K:EC}{D:Nat->Prop}{w:World}{e:Em}{ρ:Nat->Nat}{la:Option Addr}{ln lc:Nat}{pa:Option Addr}{pn pc:Nat}{lb:Nat}{ba:Option Addr}{bn bc:Nat}{br:List LB}
theorem EC.St.top{K:EC}{lbs:List Nat}{D:Nat->Prop}{w:World}{e:Em}(h:K.St lbs D w e)(h0:e.lps.length≠0)(hb:e.lps.length<=90000) :
  ∃lb lr s bs r ba bn bc,lbs=lb::lr/\e.lps=(s,bs)::r/\lb<w.heap.size/\w.heap[lb]?=some (.cells #[.int .i64 (s:Nat),.slice ba bn bc] 263 (0,0))/\w.ownsRow 0 3 1 (.slice ba bn bc) (Ct bs).length (Ct bs)/\bn=bs.length/\
   Calls Tryz.prog 96 #[.pointer (some ⟨K.wb,3,none⟩)] w (fun r' w'=>r'=.returned (.pointer (some ⟨lb,0,none⟩))/\w'=w):=by
 obtain⟨ρ,la,ln,lc,pa,pn,pc,bl,h,hlb⟩:=h;obtain⟨sa,sn,sc,hv⟩:=h.ew;have hlp:=h.lps;have hln:=hlp.len;cases hq:e.lps with
 | nil=>rw[hq]at h0;exact absurd rfl h0
 | cons x r=>
  cases hbl:bl with
  | nil=>rw[hbl,hq]at hlp;exact hlp.elim
  | cons b br=>
   rw[hbl,hq]at hlp;obtain⟨k1,k2,k3,k4,k5⟩:=hlp;have hst:=h.Pq hv;rw[hbl]at hst;have hl:((b::br).map fun b=>C3 b.1).reverse.length=br.length+1:=by simp
   have hbr:br.length<=90000:=by rw[hbl]at hln;simp at hln;omega
   have ht:=A48 hst (by rw[hl];omega) br.length (by rw[hl];omega) hl;have hx:(((b::br).map fun b=>C3 b.1).reverse)[br.length]'(by rw[hl];omega)=.pointer (some ⟨b.1,0,none⟩):=by
    simp[C3]
   rw[hx]at ht;refine⟨b.1,br.map Prod.fst,x.1,x.2,r,b.2.1,b.2.2.1,b.2.2.2,by rw[←hlb,hbl];rfl,rfl,A6 k1,k1,k2,?_,ht⟩;have:=(Cf k2).1;rw[this];simp[Ct]
theorem EC.Sv.A1q(h:K.Sv D w e ρ la ln lc pa pn pc ((lb,ba,bn,bc)::br)){s:Nat}{bs:List Nat}{r:List (Nat×List Nat)}(hq:e.lps=(s,bs)::r) :
  w.heap[lb]?=some (.cells #[.int .i64 (s:Nat),.slice ba bn bc] 263 (0,0)):=by
 have:=h.lps;rw[hq]at this;exact this.1
theorem EC.Sv.Xw(h:K.Sv D w e ρ la ln lc pa pn pc ((lb,ba,bn,bc)::br)){s:Nat}{bs:List Nat}{r:List (Nat×List Nat)}(hq:e.lps=(s,bs)::r) :
  w.ownsRow 0 3 1 (.slice ba bn bc) (Ct bs).length (Ct bs):=by
 have:=h.lps;rw[hq]at this;exact this.2.1
theorem EC.Sv.Aew(h:K.Sv D w e ρ la ln lc pa pn pc ((lb,ba,bn,bc)::br)){s:Nat}{bs:List Nat}{r:List (Nat×List Nat)}(hq:e.lps=(s,bs)::r) :
  (Value.slice ba bn bc).ownBlock≠some lb:=by
 have:=h.lps;rw[hq]at this;intro e1;have h1:=this.2.2.2.1 lb e1;have h2:=this.2.2.1;simp only at h2;omega
theorem Anx(K:EC)(l:A3)(c:BT A3)(hk:l.kd=26):Kw K l c:=by
 intro lbs D w e v ks hst hn hr hlp hbb hsz hlo hll;obtain⟨hlw,lcb,hncb⟩:=hst.lo;have hnds:=Br l c;unfold Bh at hn;rw[if_neg z4sa]at hn;obtain⟨b,cs,rfl,hD,hb,hl⟩:=hn;have e1:Cc l.kd=264:=by rw[hk];rfl
 have e2:D8 l.kd=368:=by rw[hk];rfl
 rw[e1];rw[e2]at hb;unfold Cm at hl;simp only[hk]at hl;rw[Wm hk];obtain⟨rfl,rfl⟩:=hl;have hn0:e.lps.length≠0:=hlp.1 (.inr hk);obtain⟨lb,lr,s,bs,r,ba,bn,bc,rfl,hq,llb,hlb,hown,rfl,HT⟩:=hst.top hn0 z4sa;have hE:e.cnt=e.step 6 (s:Nat) 0:=by unfold Em.cnt;rw[hq]
 rw[hE];have HSt:=A0 (hst.step z4sa 6 (s:Nat) 0);have HTop:=A0 HT;have g0:=A7 hlb 0 _ rfl;have ld:=A6 hb;have D4:=N8 264 z4ta;have Dp:=Oq 264 z4ta;have Ej:=Pp 264 z4ta;have F9:=Qt 264 z4ta;have G6:=Sh 264 z4ta;have I7:=Ajx;clear hst hb e1 e2 hk hr hlp hbb hq hE HT hown hn0 hlb;unfold C3;go_enter Tryz.func56,Tryz.ntmps56;go_wp2_with fail
 refine HTop.o.mono ?_;rintro r w ⟨rfl,rfl⟩;go_wp2_with fail
 refine(HSt.o).mono ?_;exact z0ca
theorem Anw(K:EC)(l:A3)(c:BT A3)(hk:l.kd=25):Kw K l c:=by
 intro lbs D w e v ks hst hn hr hlp hbb hsz hlo hll;obtain⟨hlw,lcb,hncb⟩:=hst.lo;have hnds:=Br l c;unfold Bh at hn;rw[if_neg z4sa]at hn;obtain⟨b,cs,rfl,hD,hb,hl⟩:=hn;have e1:Cc l.kd=259:=by rw[hk];rfl
 have e2:D8 l.kd=367:=by rw[hk];rfl
 rw[e1];rw[e2]at hb;unfold Cm at hl;simp only[hk]at hl;rw[Wl hk];obtain⟨rfl,rfl⟩:=hl;have hn0:e.lps.length≠0:=hlp.1 (.inl hk);obtain⟨lb,lr,s,bs,r,ba,bn,bc,rfl,hq,llb,_,_,rfl,HT⟩:=hst.top hn0 z4sa;have HTop:=A0 HT;obtain⟨ρ,la,ln,lc,pa,pn,pc,bl,h,hlb⟩:=hst;obtain⟨b2,br,rfl⟩:∃b2 br,bl=b2::br:=by
  cases bl with
  | nil=>simp at hlb
  | cons b2 br=>exact⟨b2,br,rfl⟩
 simp only[List.map_cons,List.cons.injEq]at hlb;obtain⟨rfl,rfl⟩:=hlb;have hlps:=h.lps;rw[hq]at hlps;obtain⟨k1,k2,k3,k4,k5⟩:=hlps;obtain⟨lb,ba,bn,bc⟩:=b2;simp only[N2]at k1 k2 k4 llb HTop HT k3;have hbn:bn=(Ct bs).length:=(Cf k2).1;have hbk:(Ct bs).length=bs.length:=by simp[Ct]
 subst hbn;obtain⟨hd,hdb⟩:=h.Oj (Dk _ w 1) (h.Na.drewN 1) rfl;have HStep:=A0 (Ku hd.ew z4sa 6 0 0);have HD:=A0 hd;have hbs:bs.length<=800000:=by
  have:=(hbb (s,bs) (by rw[hq];simp)).1;simp only at this;omega
 have hbl:(Ct bs).length<=800000:=by rw[hbk];exact hbs
 clear hbk hbs;have g0:=A7 k1 0 _ rfl;have g1:=A7 k1 1 _ rfl;have fz:=Ci k1;have Iy:=A0 k1;have HK3:=A0 k3;have HE:Hid (e.Hw=⟨e.loc,e.slots,e.st++[⟨6,0,0,Bp⟩],(s,bs++[e.st.length])::r⟩):=by show _=_;unfold Em.Hw;rw[hq]
 have HQ:=A0 hq;have ld:=A6 hb;have D4:=N8 259 z4ta;have Dp:=Oq 259 z4ta;have Ej:=Pp 259 z4ta;have F9:=Qt 259 z4ta;have G6:=Ajw;clear hb e1 e2 hk hr hlp hbb HT hn0 h hd hdb k1 k2 k3 k4 k5 hq;unfold C3;go_enter Tryz.func56,Tryz.ntmps56;go_wp2_with fail
 refine HTop.o.mono ?_;rintro r w ⟨rfl,rfl⟩;go_wp2_with fail
 go_region_law (first
  | (refine Nw _ w5.heap.size #[.int .i64 (e.st.length:Nat)] 3 (heap_alloc_new w5 (.cells #[.int .i64 (e.st.length:Nat)] 3)) rfl (.tmp 62) (.tmp 65) 34 rfl 0 1 8 (.int .i64 0) Tryz.underlying34 Xo rfl z4sa (.slice ba (Ct bs).length bc) (Ct bs).length (Ct bs) rfl rfl (hown5.alloc _) rfl (fun u hu=>by simp at hu;rw[hu];rfl) z4sa z4sa (Nat.zero_le _) ?_;intro g6 cap6 w6 hown6 hgrow6' hat6' hg6;have hgrow6:w5.grownBy w6 (Value.slice ba (Ct bs).length bc).ownBlock:=Md (World.grownBy_alloc w5 (.cells #[.int .i64 (e.st.length:Nat)] 3) none) hgrow6';have hat6:(Value.slice ba (Ct bs).length bc).ownBlock=some g6\/w5.heap.size<=g6:=(hat6'.imp id (fun e=>by rw[e];simp));have hl6:=(hgrow6.block lb l5 (fun e=>hnl5 e.symm)).trans hl5;have q1:=A7 hl6 1 _ rfl;have fq:=Ci hl6;have lq:=A6 hl6;clear hl6 hgrow6' hat6')
  | (refine Fg rfl 55 _ _ rfl #[.pointer (some ⟨K.wb,0,none⟩),.int .i64 6,.int .i64 0,.int .i64 0] (by kernel_rfl) HStep.o ?_;rintro r5 w5 ⟨rfl,Ch,Dd⟩;refine⟨_,rfl,?_⟩;have Ir:=HD.o.Oj Dd (HD.o.Na.next (e':=e.step 6 0 0) Dd Ch rfl) rfl;have hl5:w5.heap[lb]?=some (.cells #[.int .i64 (s:Nat),.slice ba (Ct bs).length bc] 263 (0,0)):=Ir.1.A1q HQ.o;have hown5:w5.ownsRow 0 3 1 (.slice ba (Ct bs).length bc) (Ct bs).length (Ct bs):=Ir.1.Xw HQ.o;have hnl5:(Value.slice ba (Ct bs).length bc).ownBlock≠some lb:=Ir.1.Aew HQ.o;have l5:=A6 hl5;have z0:=A7 hl5 0 _ rfl;have z1:=A7 hl5 1 _ rfl;have f5:=Ci hl5;have HV5:=A0 Ir;clear Ch Dd Ir))
 all_goals go_wp2
 all_goals go_end0
 all_goals
  obtain⟨k1,k2⟩:=HV5.o.1.A6t HQ.o e.st.length hown6 hgrow6 hat6;rw[HE.o];exact⟨rfl,k1,(Dk D w 1).trans (HV5.o.2.trans k2)⟩
end
end Go.Proofs.YtjdlndhfaaolaaaGreatDoor
