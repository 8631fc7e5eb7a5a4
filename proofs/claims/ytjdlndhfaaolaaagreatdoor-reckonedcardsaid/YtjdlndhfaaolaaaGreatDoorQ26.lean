import Derived.Test.YtjdlndhfaaolaaaGreatDoorQ25
set_option maxHeartbeats 20000000
namespace Go.Proofs.YtjdlndhfaaolaaaGreatDoor
section
set_option maxRecDepth 100000
open Go.RowKit
open Go.Deep (BT)
theorem Alj(w:World):Calls Tryz.prog 139 #[.int .i64 27] w fun e w'=>e=.returned (.int .i64 25)/\w'=w:=by
 go_enter Tryz.func139,Tryz.ntmps139;go_wp2;go_ret;exact⟨rfl,rfl⟩
theorem Abq(w:World):Calls Tryz.prog 139 #[.int .i64 28] w fun e w'=>e=.returned (.int .i64 21)/\w'=w:=by
 go_enter Tryz.func139,Tryz.ntmps139;go_wp2;go_ret;exact⟨rfl,rfl⟩
theorem Al6(w:World):Calls Tryz.prog 139 #[.int .i64 29] w fun e w'=>e=.returned (.int .i64 26)/\w'=w:=by
 go_enter Tryz.func139,Tryz.ntmps139;go_wp2;go_ret;exact⟨rfl,rfl⟩
theorem Amj(w:World):Calls Tryz.prog 139 #[.int .i64 30] w fun e w'=>e=.returned (.int .i64 29)/\w'=w:=by
 go_enter Tryz.func139,Tryz.ntmps139;go_wp2;go_ret;exact⟨rfl,rfl⟩
theorem Aj1(w:World):Calls Tryz.prog 139 #[.int .i64 31] w fun e w'=>e=.returned (.int .i64 31)/\w'=w:=by
 go_enter Tryz.func139,Tryz.ntmps139;go_wp2;go_ret;exact⟨rfl,rfl⟩
theorem Afp(w:World):Calls Tryz.prog 139 #[.int .i64 32] w fun e w'=>e=.returned (.int .i64 28)/\w'=w:=by
 go_enter Tryz.func139,Tryz.ntmps139;go_wp2;go_ret;exact⟨rfl,rfl⟩
theorem A6a(w:World):Calls Tryz.prog 139 #[.int .i64 33] w fun e w'=>e=.returned (.int .i64 30)/\w'=w:=by
 go_enter Tryz.func139,Tryz.ntmps139;go_wp2;go_ret;exact⟨rfl,rfl⟩
theorem Aiy(w:World):Calls Tryz.prog 139 #[.int .i64 34] w fun e w'=>e=.returned (.int .i64 12)/\w'=w:=by
 go_enter Tryz.func139,Tryz.ntmps139;go_wp2;go_ret;exact⟨rfl,rfl⟩
theorem A5d(w:World):Calls Tryz.prog 139 #[.int .i64 35] w fun e w'=>e=.returned (.int .i64 15)/\w'=w:=by
 go_enter Tryz.func139,Tryz.ntmps139;go_wp2;go_ret;exact⟨rfl,rfl⟩
theorem Adf(w:World):Calls Tryz.prog 139 #[.int .i64 36] w fun e w'=>e=.returned (.int .i64 17)/\w'=w:=by
 go_enter Tryz.func139,Tryz.ntmps139;go_wp2;go_ret;exact⟨rfl,rfl⟩
theorem Af8(w:World):Calls Tryz.prog 139 #[.int .i64 37] w fun e w'=>e=.returned (.int .i64 19)/\w'=w:=by
 go_enter Tryz.func139,Tryz.ntmps139;go_wp2;go_ret;exact⟨rfl,rfl⟩
theorem A82(w:World):Calls Tryz.prog 139 #[.int .i64 38] w fun e w'=>e=.returned (.int .i64 21)/\w'=w:=by
 go_enter Tryz.func139,Tryz.ntmps139;go_wp2;go_ret;exact⟨rfl,rfl⟩
theorem A5f(w:World):Calls Tryz.prog 139 #[.int .i64 39] w fun e w'=>e=.returned (.int .i64 9)/\w'=w:=by
 go_enter Tryz.func139,Tryz.ntmps139;go_wp2;go_ret;exact⟨rfl,rfl⟩
theorem Abb(w:World):Calls Tryz.prog 139 #[.int .i64 40] w fun e w'=>e=.returned (.int .i64 10)/\w'=w:=by
 go_enter Tryz.func139,Tryz.ntmps139;go_wp2;go_ret;exact⟨rfl,rfl⟩
theorem Y0(s:Nat)(h1:27<=s)(h2:s<=40)(w:World):Calls Tryz.prog 139 #[.int .i64 (s:Nat)] w fun e w'=>e=.returned (.int .i64 (binOp s:Nat))/\w'=w:=by
 have h:s=27\/s=28\/s=29\/s=30\/s=31\/s=32\/s=33\/s=34\/s=35\/s=36\/s=37\/s=38\/s=39\/s=40:=by omega
 rcases h with rfl|rfl|rfl|rfl|rfl|rfl|rfl|rfl|rfl|rfl|rfl|rfl|rfl|rfl
 ·exact Alj w
 ·exact Abq w
 ·exact Al6 w
 ·exact Amj w
 ·exact Aj1 w
 ·exact Afp w
 ·exact A6a w
 ·exact Aiy w
 ·exact A5d w
 ·exact Adf w
 ·exact Af8 w
 ·exact A82 w
 ·exact A5f w
 ·exact Abb w
theorem A7b(K:EC)(l:A6)(c:BT A6)(h1:127<=l.kd)(h2:l.kd<=138)(ih:Cx (Fg K) c)(D:Nat->Prop)(w:World)(la:Option Addr)(ln lc:Nat)(ps:Value)(e:Em)(b:Nat)(a1 a2:Value)
  (hst:K.Ex D w la ln lc ps e) (hD:D b) (hb:w.heap[b]?=some (.cells #[.int .i64 (l.line:Nat),.int .i64 ((l.kd-100:Nat):Nat),a1,a2] 295 (0,0))) (hr:Al D w c [a1,a2]) (hsz:e.st.length+2*bsize (nd l c)<=800000) :
  Calls Tryz.prog 90 #[.pointer (some ⟨K.wb,0,none⟩),.pointer (some ⟨b,0,none⟩)] w fun r w'=>r=.returned (.tuple #[])/\K.Ex D w' la ln lc ps (An K.fns K.gl l (Ar c) (em K.fns K.gl c) e)/\A3 D w w':=by
 obtain⟨hlo,lcb,hncb⟩:=hst.lo;have hnds:=Cd l c;obtain⟨x1,y1,l1,c1,r1,D5,rfl,Bj,Ap,hz⟩:=hr.cons';obtain⟨x2,y2,l2,c2,r2,Gk,rfl,Dh,B0,By⟩:=hz.cons';obtain rfl:=By.nil';have Bv:bsize (.node x1 y1 l1 c1 (.node x2 y2 l2 c2 .nil))=bsize (nd l1 c1)+bsize (nd l2 c2):=by rw[Cd,Cd,bsize,bsize,bsize];omega
 rw[X3 h1 h2,Ib,Ib,em];have hl1:=Gd K.fns K.gl l1 c1 e;have Gi:=Gd K.fns K.gl l2 c2 (An K.fns K.gl l1 (Ar c1) (em K.fns K.gl c1) e);have I8:=A0 (ih.1 D w la ln lc ps e a1 D5 hst Bj Ap (by omega));have F2:=A0 (fun(W:World) (e2:Em) (he:e2.st.length+2*bsize (nd l2 c2)<=800000) (hx:K.Ex D W la ln lc ps e2) (hbd:A3 D w W)=>ih.2.1 D W la ln lc ps e2 a2 Gk hx (Dh.Bn hbd) (B0.Bn hbd) he);have HBk:=A0 hb;have t39:(((l.kd-100:Nat):Int)==39)=false:=by rw[beq_eq_false_iff_ne];omega
 have t40:(((l.kd-100:Nat):Int)==40)=false:=by rw[beq_eq_false_iff_ne];omega
 have HOp:=A0 (fun W=>Y0 (l.kd-100) (by omega) (by omega) W);have d0:=A2 hb 0 _ rfl;have d1:=A2 hb 1 _ rfl;have d2:=A2 hb 2 _ rfl;have d3:=A2 hb 3 _ rfl;have ld:=A4 hb;clear hst hb hr Bj Ap hz Dh B0 By ih h1 h2;generalize l.kd-100=sg at *;generalize Hs:An K.fns K.gl l1 (Ar c1) (em K.fns K.gl c1) e=Bz at *;generalize hE2:An K.fns K.gl l2 (Ar c2) (em K.fns K.gl c2) Bz=F7 at *;go_enter Tryz.func90,Tryz.ntmps90;go_wp2_with fail
 refine I8.o.mono ?_;rintro r w1 ⟨rfl,Ah,A1⟩;have A9:=A0 Ah;have A5:=A0 A1;have Bm:=(A1.block b hD).trans HBk.o;have HBk1:=A0 Bm;clear Ah A1;clear d0 d1 d2 d3 ld;have d0:=A2 Bm 0 _ rfl;have d1:=A2 Bm 1 _ rfl;have d2:=A2 Bm 2 _ rfl;have d3:=A2 Bm 3 _ rfl;have ld:=A4 Bm;clear Bm;go_wp2_with fail
 refine(F2.o _ _ (by omega) A9.o A5.o).mono ?_;rintro r w3 ⟨rfl,Bx,Aj⟩;rw[hE2]at Bx;have Bh:=A0 Bx;have At:Hid (A3 D w w3):=A5.o.trans Aj;have Eg:=(Aj.block b hD).trans HBk1.o;clear Bx Aj;clear d0 d1 d2 d3 ld;have d0:=A2 Eg 0 _ rfl;have d1:=A2 Eg 1 _ rfl;have d2:=A2 Eg 2 _ rfl;have d3:=A2 Eg 3 _ rfl;have ld:=A4 Eg;clear Eg;go_wp2;refine Ji 10 (by kernel_rfl) (by kernel_rfl) ?_;simp only[List.take_succ_cons,List.take_zero,List.drop_succ_cons,List.drop_zero];iterate 5 (refine Fa (fun K' hK'=>?_);go_simp;refine hK' _ ?_;clear hK' K')
 refine Fa (fun K' hK'=>?_);go_simp;refine⟨_,HOp.o _,hK' _ ?_⟩;clear hK' K';iterate 4 (refine Fa (fun K' hK'=>?_);go_simp;refine hK' _ ?_;clear hK' K')
 refine Jk ?_;go_wp2_with fail
 refine(Kg (Bh.o.drewN 1).ew (by omega) (binOp sg) 0 l.line).mono ?_;rintro r w9 ⟨rfl,F4,Ct⟩;have HS9:=A0 ((Bh.o.drewN 1).next (e':=(F7).step (binOp sg) 0 l.line) Ct F4 rfl);have Cz:Hid (A3 D w w9):=At.o.trans ((E6 D w3 1).trans Ct);clear F4 Ct;go_wp2;go_end0;exact⟨rfl,HS9.o,Cz.o⟩
theorem Aj7(K:EC)(l:A6)(c:BT A6)(hk:l.kd=139\/l.kd=140)(ih:Cx (Fg K) c)(D:Nat->Prop)(w:World)(la:Option Addr)(ln lc:Nat)(ps:Value)(e:Em)(b:Nat)(a1 a2:Value)
  (hst:K.Ex D w la ln lc ps e) (hD:D b) (hb:w.heap[b]?=some (.cells #[.int .i64 (l.line:Nat),.int .i64 ((l.kd-100:Nat):Nat),a1,a2] 295 (0,0))) (hr:Al D w c [a1,a2]) (hsz:e.st.length+2*bsize (nd l c)<=800000) :
  Calls Tryz.prog 90 #[.pointer (some ⟨K.wb,0,none⟩),.pointer (some ⟨b,0,none⟩)] w fun r w'=>r=.returned (.tuple #[])/\K.Ex D w' la ln lc ps (An K.fns K.gl l (Ar c) (em K.fns K.gl c) e)/\A3 D w w':=by
 obtain⟨hlo,lcb,hncb⟩:=hst.lo;have hnds:=Cd l c;obtain⟨x1,y1,l1,c1,r1,D5,rfl,Bj,Ap,hz⟩:=hr.cons';obtain⟨x2,y2,l2,c2,r2,Gk,rfl,Dh,B0,By⟩:=hz.cons';obtain rfl:=By.nil';have Bv:bsize (.node x1 y1 l1 c1 (.node x2 y2 l2 c2 .nil))=bsize (nd l1 c1)+bsize (nd l2 c2):=by rw[Cd,Cd,bsize,bsize,bsize];omega
 rw[A0w hk];simp only[Mk,Pg,Rz];have hl1:=Gd K.fns K.gl l1 c1 e;have I8:=A0 (ih.1 D w la ln lc ps e a1 D5 hst Bj Ap (by omega));have F2:=A0 (fun(W:World) (e2:Em) (he:e2.st.length+2*bsize (nd l2 c2)<=800000) (hx:K.Ex D W la ln lc ps e2) (hbd:A3 D w W)=>ih.2.1 D W la ln lc ps e2 a2 Gk hx (Dh.Bn hbd) (B0.Bn hbd) he);have HBk:=A0 hb;have t40:((((l.kd-100:Nat):Int)==39)||(((l.kd-100:Nat):Int)==40))=true:=by
  rcases hk with h|h <;> rw[h] <;> rfl
 have HOp:=A0 (fun W=>Y0 (l.kd-100) (by omega) (by omega) W);have hlines:=Cd l2 c2;have d0:=A2 hb 0 _ rfl;have d1:=A2 hb 1 _ rfl;have d2:=A2 hb 2 _ rfl;have d3:=A2 hb 3 _ rfl;have ld:=A4 hb;clear hst hb hr Bj Ap hz Dh B0 By ih;have hsg:((l.kd-100:Nat):Int)=39\/((l.kd-100:Nat):Int)=40:=by omega
 generalize l.kd-100=sg at *;clear hk;generalize Hs:An K.fns K.gl l1 (Ar c1) (em K.fns K.gl c1) e=Bz at *;go_enter Tryz.func90,Tryz.ntmps90;go_wp2_with fail
 refine I8.o.mono ?_;rintro r w1 ⟨rfl,Ah,A1⟩;have A9:=A0 Ah;have A5:=A0 A1;have Bm:=(A1.block b hD).trans HBk.o;have HBk1:=A0 Bm;clear Ah A1;clear d0 d1 d2 d3 ld;have d0:=A2 Bm 0 _ rfl;have d1:=A2 Bm 1 _ rfl;have d2:=A2 Bm 2 _ rfl;have d3:=A2 Bm 3 _ rfl;have ld:=A4 Bm;clear Bm;rcases hsg with hsg|hsg
 ·have t39:((sg:Int)==39)=true:=by rw[hsg];rfl
  clear hsg t40;go_wp2_with fail
  refine Ji 10 (by kernel_rfl) (by kernel_rfl) ?_;simp only[List.take_succ_cons,List.take_zero,List.drop_succ_cons,List.drop_zero];iterate 5 (refine Fa (fun K' hK'=>?_);go_simp;refine hK' _ ?_;clear hK' K')
  refine Fa (fun K' hK'=>?_);go_simp;refine⟨_,HOp.o _,hK' _ ?_⟩;clear hK' K';iterate 4 (refine Fa (fun K' hK'=>?_);go_simp;refine hK' _ ?_;clear hK' K')
  refine Jk ?_;go_wp2_with fail
  refine(Kg (A9.o.drewN 1).ew (by omega) (binOp sg) 0 l.line).mono ?_;rintro r w2 ⟨rfl,Au,A8⟩;have Ak:=A0 ((A9.o.drewN 1).next (e':=Bz.step (binOp sg) 0 l.line) A8 Au rfl);have hb2':=(E6 D w1 1).trans A8;have Aa:Hid (A3 D w w2):=A5.o.trans hb2';have D6:=(hb2'.block b hD).trans HBk1.o;have HBk2:=A0 D6;clear Au A8 hb2' d0 d1 d2 d3 ld;have d0:=A2 D6 0 _ rfl;have d3:=A2 D6 3 _ rfl;have ld:=A4 D6;clear D6;have Gi:(Bz.step (binOp sg) 0 l.line).st.length=Bz.st.length+1:=Dq _ _ _ _;have hl3:=Gd K.fns K.gl l2 c2 (Bz.step (binOp sg) 0 l.line);have Fb:=A0 Gi;go_wp2_with fail
  refine(F2.o _ _ (by omega) Ak.o Aa.o).mono ?_;rintro r w3 ⟨rfl,Bx,Aj⟩;have Bh:=A0 Bx;have At:Hid (A3 D w w3):=Aa.o.trans Aj;have Eg:=(Aj.block b hD).trans HBk2.o;clear Bx Aj d0 d3 ld;have d0:=A2 Eg 0 _ rfl;have ld:=A4 Eg;clear Eg;have hl4:Bz.st.length<(An K.fns K.gl l2 (Ar c2) (em K.fns K.gl c2) (Bz.step (binOp sg) 0 l.line)).st.length+1:=by
   have:=Wc K.fns K.gl l2 c2 (Bz.step (binOp sg) 0 l.line);omega
  generalize hE3:An K.fns K.gl l2 (Ar c2) (em K.fns K.gl c2) (Bz.step (binOp sg) 0 l.line)=em3 at *;go_wp2_with fail
  refine(Kg Bh.o.ew (by omega) 11 0 l.line).mono ?_;rintro r w4 ⟨rfl,F6,B4⟩;have Ep:=A0 (Bh.o.next (e':=em3.step 11 0 l.line) B4 F6 rfl);have Ci:Hid (A3 D w w4):=At.o.trans B4;clear F6 B4;go_wp2_with fail
  refine(Sn Ep.o.ew Bz.st.length (by rw[Dq];omega)).mono ?_;rintro r w5 ⟨rfl,Ck,Cc⟩;have Hg:=A0 (Ep.o.next (e':=(em3.step 11 0 l.line).land Bz.st.length) Cc Ck rfl);have Dn:Hid (A3 D w w5):=Ci.o.trans Cc;clear Ck Cc;go_wp2;refine bodyPost_ret (v:=.tuple #[]) (by simp[results,Tryz.results90,go_sem]) rfl ?_;subst hE3;exact⟨rfl,Hg.o,Dn.o⟩
 ·have t39:((sg:Int)==39)=false:=by rw[hsg];rfl
  have t41:((sg:Int)==40)=true:=by rw[hsg];rfl
  clear hsg t40;go_wp2_with fail
  refine Ji 10 (by kernel_rfl) (by kernel_rfl) ?_;simp only[List.take_succ_cons,List.take_zero,List.drop_succ_cons,List.drop_zero];iterate 5 (refine Fa (fun K' hK'=>?_);go_simp;refine hK' _ ?_;clear hK' K')
  refine Fa (fun K' hK'=>?_);go_simp;refine⟨_,HOp.o _,hK' _ ?_⟩;clear hK' K';iterate 4 (refine Fa (fun K' hK'=>?_);go_simp;refine hK' _ ?_;clear hK' K')
  refine Jk ?_;go_wp2_with fail
  refine(Kg (A9.o.drewN 1).ew (by omega) (binOp sg) 0 l.line).mono ?_;rintro r w2 ⟨rfl,Au,A8⟩;have Ak:=A0 ((A9.o.drewN 1).next (e':=Bz.step (binOp sg) 0 l.line) A8 Au rfl);have hb2':=(E6 D w1 1).trans A8;have Aa:Hid (A3 D w w2):=A5.o.trans hb2';have D6:=(hb2'.block b hD).trans HBk1.o;have HBk2:=A0 D6;clear Au A8 hb2' d0 d1 d2 d3 ld;have d0:=A2 D6 0 _ rfl;have d3:=A2 D6 3 _ rfl;have ld:=A4 D6;clear D6;have Gi:(Bz.step (binOp sg) 0 l.line).st.length=Bz.st.length+1:=Dq _ _ _ _;have hl3:=Gd K.fns K.gl l2 c2 (Bz.step (binOp sg) 0 l.line);have Fb:=A0 Gi;go_wp2_with fail
  refine(F2.o _ _ (by omega) Ak.o Aa.o).mono ?_;rintro r w3 ⟨rfl,Bx,Aj⟩;have Bh:=A0 Bx;have At:Hid (A3 D w w3):=Aa.o.trans Aj;have Eg:=(Aj.block b hD).trans HBk2.o;clear Bx Aj d0 d3 ld;have d0:=A2 Eg 0 _ rfl;have ld:=A4 Eg;clear Eg;have hl4:Bz.st.length<(An K.fns K.gl l2 (Ar c2) (em K.fns K.gl c2) (Bz.step (binOp sg) 0 l.line)).st.length+1:=by
   have:=Wc K.fns K.gl l2 c2 (Bz.step (binOp sg) 0 l.line);omega
  generalize hE3:An K.fns K.gl l2 (Ar c2) (em K.fns K.gl c2) (Bz.step (binOp sg) 0 l.line)=em3 at *;go_wp2_with fail
  refine(Kg Bh.o.ew (by omega) 11 0 l.line).mono ?_;rintro r w4 ⟨rfl,F6,B4⟩;have Ep:=A0 (Bh.o.next (e':=em3.step 11 0 l.line) B4 F6 rfl);have Ci:Hid (A3 D w w4):=At.o.trans B4;clear F6 B4;go_wp2_with fail
  refine(Sn Ep.o.ew Bz.st.length (by rw[Dq];omega)).mono ?_;rintro r w5 ⟨rfl,Ck,Cc⟩;have Hg:=A0 (Ep.o.next (e':=(em3.step 11 0 l.line).land Bz.st.length) Cc Ck rfl);have Dn:Hid (A3 D w w5):=Ci.o.trans Cc;clear Ck Cc;go_wp2;refine bodyPost_ret (v:=.tuple #[]) (by simp[results,Tryz.results90,go_sem]) rfl ?_;subst hE3;exact⟨rfl,Hg.o,Dn.o⟩
theorem Ag3(K:EC)(l:A6)(c:BT A6)(h1:127<=l.kd)(h2:l.kd<=140)(ih:Cx (Fg K) c):Fg K l c:=by
 intro D w la ln lc ps e v ks hst hn hr hsz;unfold Bo at hn;rw[if_neg (by omega)]at hn;obtain⟨b,cs,rfl,hD,hb,hl⟩:=hn;have e1:Cb l.kd=248/\De l.kd=295:=by
  have hk:l.kd=127\/l.kd=128\/l.kd=129\/l.kd=130\/l.kd=131\/l.kd=132\/l.kd=133\/l.kd=134\/l.kd=135\/l.kd=136\/l.kd=137\/l.kd=138\/l.kd=139\/l.kd=140:=by omega
  rcases hk with h|h|h|h|h|h|h|h|h|h|h|h|h|h <;> rw[h] <;> exact⟨rfl,rfl⟩
 rw[e1.1];rw[e1.2]at hb;have Gi:∃a b,cs=#[Gc l.line,.int .i64 ((l.kd-100:Nat):Nat),a,b]/\ks=[a,b]:=by
  have hk:l.kd=127\/l.kd=128\/l.kd=129\/l.kd=130\/l.kd=131\/l.kd=132\/l.kd=133\/l.kd=134\/l.kd=135\/l.kd=136\/l.kd=137\/l.kd=138\/l.kd=139\/l.kd=140:=by omega
  unfold Cr at hl;rcases hk with h|h|h|h|h|h|h|h|h|h|h|h|h|h <;> simpa only[h]using hl
 obtain⟨a1,a2,rfl,rfl⟩:=Gi;have HC:Hid (Calls Tryz.prog 90 #[.pointer (some ⟨K.wb,0,none⟩),.pointer (some ⟨b,0,none⟩)] w fun r w'=>r=.returned (.tuple #[])/\K.Ex D w' la ln lc ps (An K.fns K.gl l (Ar c) (em K.fns K.gl c) e)/\A3 D w w'):=by
  by_cases A8:l.kd<=138
  ·exact A7b K l c h1 A8 ih D w la ln lc ps e b a1 a2 hst hD hb hr hsz
  ·exact Aj7 K l c (by omega) ih D w la ln lc ps e b a1 a2 hst hD hb hr hsz
 have D8:=Ky 248 (by decide);have Dr:=L6 248 (by decide);have Ee:=M0 248 (by decide);have F8:=Ma 248 (by decide);have G6:=Mp 248 (by decide);have He:=Nx 248 (by decide);have Iw:=Pc 248 (by decide);have ta7:=A6n;clear hst hb e1 hr hl ih;unfold C5;go_enter Tryz.func54,Tryz.ntmps54;go_wp2_with fail
 refine HC.o.mono ?_;rintro r w1 ⟨rfl,Ah,A1⟩;have A9:=A0 Ah;have A5:=A0 A1;clear Ah A1;go_wp2;go_end0;exact⟨rfl,A9.o,A5.o⟩
theorem Aly(K:EC)(l:A6)(c:BT A6)(hk:l.kd=10)(ih:Cx (Fg K) c)  (D:Nat->Prop) (w:World) (la:Option Addr) (ln lc:Nat) (ps:Value) (e:Em) (v:Value) (ks:List Value)
  (hst:K.Ex D w la ln lc ps e) (hn:Bo D w l v ks) (hr:Al D w c ks) (hsz:e.st.length+2*bsize (nd l c)<=800000) :
  Calls Tryz.prog 91 #[.pointer (some ⟨K.wb,0,none⟩),v] w fun r w'=>r=.returned (.tuple #[])/\K.Ex D w' la ln lc ps (An K.fns K.gl l (Ar c) (em K.fns K.gl c) e)/\A3 D w w':=by
 obtain⟨hlo,lcb,hncb⟩:=hst.lo;have hnds:=Cd l c;unfold Bo at hn;rw[if_neg (by omega)]at hn;obtain⟨b,cs,rfl,hD,hb,hl⟩:=hn;have e1:Cb l.kd=304:=by rw[hk];rfl
 have e2:De l.kd=306:=by rw[hk];rfl
 rw[e1];rw[e2]at hb;unfold Cr at hl;simp only[hk]at hl;rw[j4 hk];obtain⟨a,rfl,rfl⟩:=hl;obtain⟨x1,y1,l1,c1,r1,D5,rfl,Bj,Ap,hz⟩:=hr.cons';obtain rfl:=hz.nil';have Bv:bsize (.node x1 y1 l1 c1 .nil)=bsize (nd l1 c1):=by rw[Cd,bsize];rfl
 have hlen1:=Gd K.fns K.gl l1 c1 e;rw[Ib,em];have HC:=A0 (ih.1 D w la ln lc ps e a D5 hst Bj Ap (by omega));have d0:=A2 hb 1 a rfl;have ld:=A4 hb;have HBk:=A0 hb;have D8:=Sy 304 (by decide);have Dr:=V4 304 (by decide);have Ee:=Adh;clear hst hb e1 e2 hk hr Bj Ap hz ih;unfold C5;go_enter Tryz.func91,Tryz.ntmps91;go_wp2_with fail
 refine(HC.o).mono ?_;rintro r w1 ⟨rfl,Ah,A1⟩;have A9:=A0 Ah;have A5:=A0 A1;have Bm:=(A1.block b hD).trans HBk.o;clear Ah A1 d0 ld;have d0:w1.cell? ⟨b,0,none⟩=some (.int .i64 (l.line:Nat)):=A2 Bm 0 _ rfl;have ld:=A4 Bm;clear Bm;generalize Hs:An K.fns K.gl l1 (Ar c1) (em K.fns K.gl c1) e=Bz at *;go_wp2_with fail
 refine(Kg A9.o.ew (by omega) 37 0 l.line).mono ?_;rintro r w9 ⟨rfl,F4,Ct⟩;have HS9:=A0 (A9.o.next (e':=Bz.step 37 0 l.line) Ct F4 rfl);have Cz:Hid (A3 D w w9):=A5.o.trans Ct;clear F4 Ct;go_wp2;go_end0;subst Hs;exact⟨rfl,HS9.o,Cz.o⟩
theorem A3x(K:EC)(l:A6)(c:BT A6)(hk:l.kd=10)(ih:Cx (Fg K) c):Fg K l c:=by
 intro D w la ln lc ps e v ks hst hn hr hsz;have HM:=A0 (Aly K l c hk ih D w la ln lc ps e v ks hst hn hr hsz);obtain⟨hlo,lcb,hncb⟩:=hst.lo;unfold Bo at hn;rw[if_neg (by omega)]at hn;obtain⟨b,cs,rfl,hD,hb,hl⟩:=hn;have e1:Cb l.kd=304:=by rw[hk];rfl
 rw[e1]at HM ⊢;have ld:=A4 hb;have D8:=Ky 304 (by decide);have Dr:=L6 304 (by decide);have Ee:=M0 304 (by decide);have F8:=Ma 304 (by decide);have G6:=Mp 304 (by decide);have He:=Nx 304 (by decide);have Iw:=Pc 304 (by decide);have ta7:=Qo 304 (by decide);clear hst hb e1 hk hr hl ih;unfold C5 at HM ⊢;go_enter Tryz.func54,Tryz.ntmps54;go_wp2_with fail
 refine HM.o.mono ?_;rintro r w1 ⟨rfl,Ah,A1⟩;have A9:=A0 Ah;have A5:=A0 A1;clear Ah A1;go_wp2;go_end0;exact⟨rfl,A9.o,A5.o⟩
theorem Af9(K:EC)(l:A6)(c:BT A6)(hk:l.kd=11)(ih:Cx (Fg K) c)  (D:Nat->Prop) (w:World) (la:Option Addr) (ln lc:Nat) (ps:Value) (e:Em) (v:Value) (ks:List Value)
  (hst:K.Ex D w la ln lc ps e) (hn:Bo D w l v ks) (hr:Al D w c ks) (hsz:e.st.length+2*bsize (nd l c)<=800000) :
  Calls Tryz.prog 91 #[.pointer (some ⟨K.wb,0,none⟩),v] w fun r w'=>r=.returned (.tuple #[])/\K.Ex D w' la ln lc ps (An K.fns K.gl l (Ar c) (em K.fns K.gl c) e)/\A3 D w w':=by
 obtain⟨hlo,lcb,hncb⟩:=hst.lo;have hnds:=Cd l c;unfold Bo at hn;rw[if_neg (by omega)]at hn;obtain⟨b,cs,rfl,hD,hb,hl⟩:=hn;have e1:Cb l.kd=307:=by rw[hk];rfl
 have e2:De l.kd=309:=by rw[hk];rfl
 rw[e1];rw[e2]at hb;unfold Cr at hl;simp only[hk]at hl;rw[Yn hk];obtain⟨a1,a2,rfl,rfl⟩:=hl;obtain⟨x1,y1,l1,c1,r1,D5,rfl,Bj,Ap,hz⟩:=hr.cons';obtain⟨x2,y2,l2,c2,r2,Gk,rfl,Dh,B0,By⟩:=hz.cons';obtain rfl:=By.nil';have Bv:bsize (.node x1 y1 l1 c1 (.node x2 y2 l2 c2 .nil))=bsize (nd l1 c1)+bsize (nd l2 c2):=by rw[Cd,Cd,bsize,bsize,bsize];omega
 rw[Ib,Ib,em];have hl1:=Gd K.fns K.gl l1 c1 e;have Gi:=Gd K.fns K.gl l2 c2 (An K.fns K.gl l1 (Ar c1) (em K.fns K.gl c1) e);have I8:=A0 (ih.1 D w la ln lc ps e a1 D5 hst Bj Ap (by omega));have F2:=A0 (fun(W:World) (e2:Em) (he:e2.st.length+2*bsize (nd l2 c2)<=800000) (hx:K.Ex D W la ln lc ps e2) (hbd:A3 D w W)=>ih.2.1 D W la ln lc ps e2 a2 Gk hx (Dh.Bn hbd) (B0.Bn hbd) he);have HBk:=A0 hb;have d1:=A2 hb 1 a1 rfl;have ld:=A4 hb;have D8:=Sy 307 (by decide);have Dr:=V4 307 (by decide);have Ee:=A1i 307 (by decide);have F8:=A97;clear hst hb hr Bj Ap hz Dh B0 By ih e1 e2 hk;generalize Hs:An K.fns K.gl l1 (Ar c1) (em K.fns K.gl c1) e=Bz at *;generalize hE2:An K.fns K.gl l2 (Ar c2) (em K.fns K.gl c2) Bz=F7 at *;unfold C5;go_enter Tryz.func91,Tryz.ntmps91;go_wp2_with fail
 refine(I8.o).mono ?_;rintro r w1 ⟨rfl,Ah,A1⟩;have A9:=A0 Ah;have A5:=A0 A1;have Bm:=(A1.block b hD).trans HBk.o;have HBk1:=A0 Bm;clear Ah A1 d1 ld;have d2:=A2 Bm 2 a2 rfl;have ld:=A4 Bm;clear Bm;go_wp2_with fail
 refine(F2.o _ _ (by omega) A9.o A5.o).mono ?_;rintro r w2 ⟨rfl,Au,A8⟩;rw[hE2]at Au;have Ak:=A0 Au;have Aa:Hid (A3 D w w2):=A5.o.trans A8;have D6:=(A8.block b hD).trans HBk1.o;clear Au A8 d2 ld;have d0:w2.cell? ⟨b,0,none⟩=some (.int .i64 (l.line:Nat)):=A2 D6 0 _ rfl;have ld:=A4 D6;clear D6;go_wp2_with fail
 refine(Kg Ak.o.ew (by omega) 38 0 l.line).mono ?_;rintro r w9 ⟨rfl,F4,Ct⟩;have HS9:=A0 (Ak.o.next (e':=F7.step 38 0 l.line) Ct F4 rfl);have Cz:Hid (A3 D w w9):=Aa.o.trans Ct;clear F4 Ct;go_wp2;go_end0;exact⟨rfl,HS9.o,Cz.o⟩
theorem A8q(K:EC)(l:A6)(c:BT A6)(hk:l.kd=11)(ih:Cx (Fg K) c):Fg K l c:=by
 intro D w la ln lc ps e v ks hst hn hr hsz;have HM:=A0 (Af9 K l c hk ih D w la ln lc ps e v ks hst hn hr hsz);obtain⟨hlo,lcb,hncb⟩:=hst.lo;unfold Bo at hn;rw[if_neg (by omega)]at hn;obtain⟨b,cs,rfl,hD,hb,hl⟩:=hn;have e1:Cb l.kd=307:=by rw[hk];rfl
 rw[e1]at HM ⊢;have ld:=A4 hb;have D8:=Ky 307 (by decide);have Dr:=L6 307 (by decide);have Ee:=M0 307 (by decide);have F8:=Ma 307 (by decide);have G6:=Mp 307 (by decide);have He:=Nx 307 (by decide);have Iw:=Pc 307 (by decide);have ta7:=Qo 307 (by decide);clear hst hb e1 hk hr hl ih;unfold C5 at HM ⊢;go_enter Tryz.func54,Tryz.ntmps54;go_wp2_with fail
 refine HM.o.mono ?_;rintro r w1 ⟨rfl,Ah,A1⟩;have A9:=A0 Ah;have A5:=A0 A1;clear Ah A1;go_wp2;go_end0;exact⟨rfl,A9.o,A5.o⟩
theorem A96(K:EC)(l:A6)(c:BT A6)(hk:l.kd=12)(ih:Cx (Fg K) c)  (D:Nat->Prop) (w:World) (la:Option Addr) (ln lc:Nat) (ps:Value) (e:Em) (v:Value) (ks:List Value)
  (hst:K.Ex D w la ln lc ps e) (hn:Bo D w l v ks) (hr:Al D w c ks) (hsz:e.st.length+2*bsize (nd l c)<=800000) :
  Calls Tryz.prog 91 #[.pointer (some ⟨K.wb,0,none⟩),v] w fun r w'=>r=.returned (.tuple #[])/\K.Ex D w' la ln lc ps (An K.fns K.gl l (Ar c) (em K.fns K.gl c) e)/\A3 D w w':=by
 obtain⟨hlo,lcb,hncb⟩:=hst.lo;have hnds:=Cd l c;unfold Bo at hn;rw[if_neg (by omega)]at hn;obtain⟨b,cs,rfl,hD,hb,hl⟩:=hn;have e1:Cb l.kd=310:=by rw[hk];rfl
 have e2:De l.kd=312:=by rw[hk];rfl
 rw[e1];rw[e2]at hb;unfold Cr at hl;simp only[hk]at hl;rw[Yp hk];obtain⟨a1,a2,rfl,rfl⟩:=hl;obtain⟨x1,y1,l1,c1,r1,D5,rfl,Bj,Ap,hz⟩:=hr.cons';obtain⟨x2,y2,l2,c2,r2,Gk,rfl,Dh,B0,By⟩:=hz.cons';obtain rfl:=By.nil';have Bv:bsize (.node x1 y1 l1 c1 (.node x2 y2 l2 c2 .nil))=bsize (nd l1 c1)+bsize (nd l2 c2):=by rw[Cd,Cd,bsize,bsize,bsize];omega
 rw[Ib,Ib,em];have hl1:=Gd K.fns K.gl l1 c1 e;have Gi:=Gd K.fns K.gl l2 c2 (An K.fns K.gl l1 (Ar c1) (em K.fns K.gl c1) e);have I8:=A0 (ih.1 D w la ln lc ps e a1 D5 hst Bj Ap (by omega));have F2:=A0 (fun(W:World) (e2:Em) (he:e2.st.length+2*bsize (nd l2 c2)<=800000) (hx:K.Ex D W la ln lc ps e2) (hbd:A3 D w W)=>ih.2.1 D W la ln lc ps e2 a2 Gk hx (Dh.Bn hbd) (B0.Bn hbd) he);have HBk:=A0 hb;have d1:=A2 hb 1 a1 rfl;have ld:=A4 hb;have D8:=Sy 310 (by decide);have Dr:=V4 310 (by decide);have Ee:=A1i 310 (by decide);have F8:=Aez 310 (by decide);have G6:=A1v;clear hst hb hr Bj Ap hz Dh B0 By ih e1 e2 hk;generalize Hs:An K.fns K.gl l1 (Ar c1) (em K.fns K.gl c1) e=Bz at *;generalize hE2:An K.fns K.gl l2 (Ar c2) (em K.fns K.gl c2) Bz=F7 at *;unfold C5;go_enter Tryz.func91,Tryz.ntmps91;go_wp2_with fail
 refine(I8.o).mono ?_;rintro r w1 ⟨rfl,Ah,A1⟩;have A9:=A0 Ah;have A5:=A0 A1;have Bm:=(A1.block b hD).trans HBk.o;have HBk1:=A0 Bm;clear Ah A1 d1 ld;have d2:=A2 Bm 2 a2 rfl;have ld:=A4 Bm;clear Bm;go_wp2_with fail
 refine(F2.o _ _ (by omega) A9.o A5.o).mono ?_;rintro r w2 ⟨rfl,Au,A8⟩;rw[hE2]at Au;have Ak:=A0 Au;have Aa:Hid (A3 D w w2):=A5.o.trans A8;have D6:=(A8.block b hD).trans HBk1.o;clear Au A8 d2 ld;have d0:w2.cell? ⟨b,0,none⟩=some (.int .i64 (l.line:Nat)):=A2 D6 0 _ rfl;have ld:=A4 D6;clear D6;go_wp2_with fail
 refine(Kg Ak.o.ew (by omega) 39 0 l.line).mono ?_;rintro r w9 ⟨rfl,F4,Ct⟩;have HS9:=A0 (Ak.o.next (e':=F7.step 39 0 l.line) Ct F4 rfl);have Cz:Hid (A3 D w w9):=Aa.o.trans Ct;clear F4 Ct;go_wp2;go_end0;exact⟨rfl,HS9.o,Cz.o⟩
theorem A7g(K:EC)(l:A6)(c:BT A6)(hk:l.kd=12)(ih:Cx (Fg K) c):Fg K l c:=by
 intro D w la ln lc ps e v ks hst hn hr hsz;have HM:=A0 (A96 K l c hk ih D w la ln lc ps e v ks hst hn hr hsz);obtain⟨hlo,lcb,hncb⟩:=hst.lo;unfold Bo at hn;rw[if_neg (by omega)]at hn;obtain⟨b,cs,rfl,hD,hb,hl⟩:=hn;have e1:Cb l.kd=310:=by rw[hk];rfl
 rw[e1]at HM ⊢;have ld:=A4 hb;have D8:=Ky 310 (by decide);have Dr:=L6 310 (by decide);have Ee:=M0 310 (by decide);have F8:=Ma 310 (by decide);have G6:=Mp 310 (by decide);have He:=Nx 310 (by decide);have Iw:=Pc 310 (by decide);have ta7:=Qo 310 (by decide);clear hst hb e1 hk hr hl ih;unfold C5 at HM ⊢;go_enter Tryz.func54,Tryz.ntmps54;go_wp2_with fail
 refine HM.o.mono ?_;rintro r w1 ⟨rfl,Ah,A1⟩;have A9:=A0 Ah;have A5:=A0 A1;clear Ah A1;go_wp2;go_end0;exact⟨rfl,A9.o,A5.o⟩
theorem A52(K:EC)(l:A6)(c:BT A6)(hk:l.kd=9)(ih:Cx (Fg K) c)  (D:Nat->Prop) (w:World) (la:Option Addr) (ln lc:Nat) (ps:Value) (e:Em) (v:Value) (ks:List Value)
  (hst:K.Ex D w la ln lc ps e) (hn:Bo D w l v ks) (hr:Al D w c ks) (hsz:e.st.length+2*bsize (nd l c)<=800000) :
  Calls Tryz.prog 91 #[.pointer (some ⟨K.wb,0,none⟩),v] w fun r w'=>r=.returned (.tuple #[])/\K.Ex D w' la ln lc ps (An K.fns K.gl l (Ar c) (em K.fns K.gl c) e)/\A3 D w w':=by
 obtain⟨hlo,lcb,hncb⟩:=hst.lo;have hnds:=Cd l c;unfold Bo at hn;rw[if_neg (by omega)]at hn;obtain⟨b,cs,rfl,hD,hb,hl⟩:=hn;have e1:Cb l.kd=296:=by rw[hk];rfl
 have e2:De l.kd=300:=by rw[hk];rfl
 rw[e1];rw[e2]at hb;unfold Cr at hl;simp only[hk]at hl;rw[Z1 hk];obtain⟨sl,rfl,ho⟩:=hl;obtain⟨va,vn,vc,rfl⟩:∃va vn vc,sl=.slice va vn vc:=Nc ho.1;have hvn:vn=ks.length:=(C8 ho.1).1;have hkl:=hr.len;have hbl:=N4 c;rw[←hkl];have hem:=(Nv K.fns K.gl c).1 e;have HC:=A0 (X4 K c ih D w la ln lc ps e va vn vc ks hst ho hr (by omega));have HBk:=A0 hb;have d1:=A2 hb 1 _ rfl;have ld:=A4 hb;have D8:=Ako;clear hst hb e1 e2 hk hr ih ho hkl hbl;subst hvn;generalize Hs:em K.fns K.gl c 0 e=Bz at *;unfold C5;go_enter Tryz.func91,Tryz.ntmps91;go_wp2_with fail
 refine(HC.o).mono ?_;rintro r w1 ⟨rfl,Ah,A1⟩;have A9:=A0 Ah;have A5:=A0 A1;have Bm:=(A1.block b hD).trans HBk.o;clear Ah A1 d1 ld;have d0:w1.cell? ⟨b,0,none⟩=some (.int .i64 (l.line:Nat)):=A2 Bm 0 _ rfl;have d1:=A2 Bm 1 _ rfl;have ld:=A4 Bm;clear Bm;go_wp2;refine Ji 10 (by kernel_rfl) (by kernel_rfl) ?_;simp only[List.take_succ_cons,List.take_zero,List.drop_succ_cons,List.drop_zero];iterate 10 (refine Fa (fun K' hK'=>?_);go_simp;refine hK' _ ?_;clear hK' K')
 refine Jk ?_;go_wp2_with fail
 refine(Kg (A9.o.drewN 1).ew (by omega) 36 (ks.length:Nat) l.line).mono ?_;rintro r w9 ⟨rfl,F4,Ct⟩;have HS9:=A0 ((A9.o.drewN 1).next (e':=(Bz).step 36 (ks.length:Nat) l.line) Ct F4 rfl);have Cz:Hid (A3 D w w9):=A5.o.trans ((E6 D w1 1).trans Ct);clear F4 Ct;go_wp2;go_end0;exact⟨rfl,HS9.o,Cz.o⟩
theorem Aai(K:EC)(l:A6)(c:BT A6)(hk:l.kd=9)(ih:Cx (Fg K) c):Fg K l c:=by
 intro D w la ln lc ps e v ks hst hn hr hsz;have HM:=A0 (A52 K l c hk ih D w la ln lc ps e v ks hst hn hr hsz);obtain⟨hlo,lcb,hncb⟩:=hst.lo;unfold Bo at hn;rw[if_neg (by omega)]at hn;obtain⟨b,cs,rfl,hD,hb,hl⟩:=hn;have e1:Cb l.kd=296:=by rw[hk];rfl
 rw[e1]at HM ⊢;have ld:=A4 hb;have D8:=Ky 296 (by decide);have Dr:=L6 296 (by decide);have Ee:=M0 296 (by decide);have F8:=Ma 296 (by decide);have G6:=Mp 296 (by decide);have He:=Nx 296 (by decide);have Iw:=Pc 296 (by decide);have ta7:=Qo 296 (by decide);clear hst hb e1 hk hr hl ih;unfold C5 at HM ⊢;go_enter Tryz.func54,Tryz.ntmps54;go_wp2_with fail
 refine HM.o.mono ?_;rintro r w1 ⟨rfl,Ah,A1⟩;have A9:=A0 Ah;have A5:=A0 A1;clear Ah A1;go_wp2;go_end0;exact⟨rfl,A9.o,A5.o⟩
theorem A7j(K:EC)(l:A6)(c:BT A6)(hk:l.kd=7)(ih:Cx (Fg K) c)  (D:Nat->Prop) (w:World) (la:Option Addr) (ln lc:Nat) (ps:Value) (e:Em) (v:Value) (ks:List Value)
  (hst:K.Ex D w la ln lc ps e) (hn:Bo D w l v ks) (hr:Al D w c ks) (hsz:e.st.length+2*bsize (nd l c)<=800000) :
  Calls Tryz.prog 91 #[.pointer (some ⟨K.wb,0,none⟩),v] w fun r w'=>r=.returned (.tuple #[])/\K.Ex D w' la ln lc ps (An K.fns K.gl l (Ar c) (em K.fns K.gl c) e)/\A3 D w w':=by
 obtain⟨hlo,lcb,hncb⟩:=hst.lo;have hnds:=Cd l c;unfold Bo at hn;rw[if_neg (by omega)]at hn;obtain⟨b,cs,rfl,hD,hb,hl⟩:=hn;have e1:Cb l.kd=301:=by rw[hk];rfl
 have e2:De l.kd=303:=by rw[hk];rfl
 rw[e1];rw[e2]at hb;unfold Cr at hl;simp only[hk]at hl;rw[Yc hk];obtain⟨sl,rfl,ho⟩:=hl;obtain⟨va,vn,vc,rfl⟩:∃va vn vc,sl=.slice va vn vc:=Nc ho.1;have hvn:vn=ks.length:=(C8 ho.1).1;have hkl:=hr.len;have hbl:=N4 c;have hem:=(Nv K.fns K.gl c).1 e;have HC:=A0 (X4 K c ih D w la ln lc ps e va vn vc ks hst ho hr (by omega));have HBk:=A0 hb;have d1:=A2 hb 2 _ rfl;have ld:=A4 hb;have D8:=Sy 301 (by decide);have Dr:=A6x;clear hst hb e1 e2 hk hr ih ho hkl hbl;subst hvn;generalize Hs:em K.fns K.gl c 0 e=Bz at *;unfold C5;go_enter Tryz.func91,Tryz.ntmps91;go_wp2_with fail
 refine(HC.o).mono ?_;rintro r w1 ⟨rfl,Ah,A1⟩;have A9:=A0 Ah;have A5:=A0 A1;have Bm:=(A1.block b hD).trans HBk.o;clear Ah A1 d1 ld;have HNum:=A0 (Ali (A9.o.drewN 1).ew (A9.o.drewN 1).fr l.s);have d0:w1.cell? ⟨b,0,none⟩=some (.int .i64 (l.line:Nat)):=A2 Bm 0 _ rfl;have d1:w1.cell? ⟨b,1,none⟩=some (.string ⟨l.s.toArray⟩):=A2 Bm 1 _ rfl;have ld:=A4 Bm;clear Bm;go_wp2;refine Ji 11 (by kernel_rfl) (by kernel_rfl) ?_;simp only[List.take_succ_cons,List.take_zero,List.drop_succ_cons,List.drop_zero];iterate 6 (refine Fa (fun K' hK'=>?_);go_simp;refine hK' _ ?_;clear hK' K')
 refine Fa (fun K' hK'=>?_);go_simp;refine⟨_,HNum.o,hK' _ ?_⟩;clear hK' K';iterate 4 (refine Fa (fun K' hK'=>?_);go_simp;refine hK' _ ?_;clear hK' K')
 refine Jk ?_;go_wp2_with fail
 refine(Kg (A9.o.drewN 1).ew (by omega) 42 (N5 K.fns l.s) l.line).mono ?_;rintro r w9 ⟨rfl,F4,Ct⟩;have HS9:=A0 ((A9.o.drewN 1).next (e':=(Bz).step 42 (N5 K.fns l.s) l.line) Ct F4 rfl);have Cz:Hid (A3 D w w9):=A5.o.trans ((E6 D w1 1).trans Ct);clear F4 Ct;go_wp2;go_end0;exact⟨rfl,HS9.o,Cz.o⟩
theorem Amz(K:EC)(l:A6)(c:BT A6)(hk:l.kd=7)(ih:Cx (Fg K) c):Fg K l c:=by
 intro D w la ln lc ps e v ks hst hn hr hsz;have HM:=A0 (A7j K l c hk ih D w la ln lc ps e v ks hst hn hr hsz);obtain⟨hlo,lcb,hncb⟩:=hst.lo;unfold Bo at hn;rw[if_neg (by omega)]at hn;obtain⟨b,cs,rfl,hD,hb,hl⟩:=hn;have e1:Cb l.kd=301:=by rw[hk];rfl
 rw[e1]at HM ⊢;have ld:=A4 hb;have D8:=Ky 301 (by decide);have Dr:=L6 301 (by decide);have Ee:=M0 301 (by decide);have F8:=Ma 301 (by decide);have G6:=Mp 301 (by decide);have He:=Nx 301 (by decide);have Iw:=Pc 301 (by decide);have ta7:=Qo 301 (by decide);clear hst hb e1 hk hr hl ih;unfold C5 at HM ⊢;go_enter Tryz.func54,Tryz.ntmps54;go_wp2_with fail
 refine HM.o.mono ?_;rintro r w1 ⟨rfl,Ah,A1⟩;have A9:=A0 Ah;have A5:=A0 A1;clear Ah A1;go_wp2;go_end0;exact⟨rfl,A9.o,A5.o⟩
theorem Aad(K:EC):∀(c:BT A6),Wf 0 c->Cx (Fg K) c:=by
 intro c;induction c with
 | nil=>intro _;trivial
 | node x y l c r Dm Cw=>
  intro h;have hx:=h.exs;have hc:=Dm hx.2.1;refine⟨?_,Cw h.1⟩;have hk:=hx.1;unfold Il at hk;simp only[Bool.or_eq_true,Bool.and_eq_true,decide_eq_true_eq]at hk;by_cases hb:127<=l.kd
  ·exact Ag3 K l c hb (by omega) hc
  ·have Cj:l.kd=1\/l.kd=2\/l.kd=3\/l.kd=4\/l.kd=5\/l.kd=6\/l.kd=7\/l.kd=8\/l.kd=9\/l.kd=10\/l.kd=11\/l.kd=12\/l.kd=13\/l.kd=14:=by omega
   rcases Cj with h|h|h|h|h|h|h|h|h|h|h|h|h|h
   ·exact Ahj K l c h
   ·exact A3j K l c h
   ·exact Alk K l c h
   ·exact Akk K l c h
   ·exact A77 K l c h
   ·exact Ajq K l c h
   ·exact Amz K l c h hc
   ·exact Amk K l c h hc
   ·exact Aai K l c h hc
   ·exact A3x K l c h hc
   ·exact A8q K l c h hc
   ·exact A7g K l c h hc
   ·exact Ak5 K l c h hc
   ·exact A50 K l c h hc
end
section
set_option maxRecDepth 100000
open Go.RowKit
open Go.Deep (BT)
variable {K:EC} {lbs:List Nat} {D:Nat->Prop} {w w':World} {e e':Em}
theorem EC.St.step(h:K.St lbs D w e)(hn:e.st.length<=900000)(op:Nat)(arg:Int)(line:Nat) :
  Calls Tryz.prog 55 #[.pointer (some ⟨K.wb,0,none⟩),.int .i64 (op:Nat),.int .i64 arg,.int .i64 (line:Nat)] w fun r w'=>r=.returned (.int .i64 (e.st.length:Nat))/\K.St lbs D w' (e.step op arg line)/\A3 D w w':=by
 obtain⟨ρ,la,ln,lc,pa,pn,pc,bl,h,hlb⟩:=h;refine(Kg h.ew hn op arg line).mono ?_;rintro r w1 ⟨rfl,h1,h2⟩;obtain⟨k1,k2⟩:=h.Nh h2 (h.Mo.next (e':=e.step op arg line) h2 h1 rfl) rfl;exact⟨rfl,⟨_,_,_,_,_,_,_,_,k1,hlb⟩,k2⟩
theorem EC.St.land(h:K.St lbs D w e)(j:Nat)(hj:j<e.st.length) :
  Calls Tryz.prog 140 #[.pointer (some ⟨K.wb,0,none⟩),.int .i64 (j:Nat)] w fun r w'=>r=.returned (.tuple #[])/\K.St lbs D w' (e.land j)/\A3 D w w':=by
 obtain⟨ρ,la,ln,lc,pa,pn,pc,bl,h,hlb⟩:=h;refine(Sn h.ew j hj).mono ?_;rintro r w1 ⟨rfl,h1,h2⟩;obtain⟨k1,k2⟩:=h.Nh h2 (h.Mo.next (e':=e.land j) h2 h1 rfl) rfl;exact⟨rfl,⟨_,_,_,_,_,_,_,_,k1,hlb⟩,k2⟩
theorem EC.St.here(h:K.St lbs D w e):Calls Tryz.prog 92 #[.pointer (some ⟨K.wb,0,none⟩)] w fun r w'=>r=.returned (.int .i64 (e.st.length:Nat))/\w'=w:=by
 obtain⟨ρ,la,ln,lc,pa,pn,pc,bl,h,hlb⟩:=h;exact Vw h.ew
theorem EC.St.var(h:K.St lbs D w e)(hn:e.st.length<=900000)(s:Nm)(lo gb:Nat) :
  Calls Tryz.prog 88 #[.pointer (some ⟨K.wb,0,none⟩),.string ⟨s.toArray⟩,.int .i64 (lo:Nat),.int .i64 (gb:Nat)] w fun r w'=>r=.returned (.tuple #[])/\K.St lbs D w' (e.var K.gl s lo gb)/\A3 D w w':=by
 obtain⟨ρ,la,ln,lc,pa,pn,pc,bl,h,hlb⟩:=h;refine(A1q h.Mo hn s lo gb).mono ?_;rintro r w1 ⟨rfl,h1,h2⟩;obtain⟨k1,k2⟩:=h.Nh h2 h1 (Ov _ _ _ _ _).1;exact⟨rfl,⟨_,_,_,_,_,_,_,_,k1,hlb⟩,k2⟩
theorem EC.St.expr{l:A6}{c:BT A6}{v:Value}{ks:List Value}(h:K.St lbs D w e)(hk:Il l.kd=true)(hw:Wf 0 c)(hn:Bo D w l v ks)(hr:Al D w c ks)(hsz:e.st.length+2*bsize (nd l c)<=800000) :
  Calls Tryz.prog 54 #[.pointer (some ⟨K.wb,0,none⟩),v] w fun r w'=>r=.returned (.tuple #[])/\K.St lbs D w' (An K.fns K.gl l (Ar c) (em K.fns K.gl c) e)/\A3 D w w':=by
 obtain⟨ρ,la,ln,lc,pa,pn,pc,bl,h,hlb⟩:=h;have hx:=(Aad K (nd l c) ⟨trivial,.inl ⟨.inl rfl,hk,hw⟩⟩).1;refine(hx _ w la ln lc _ e v ks h.Mo (hn.weak h.dx) (Al.keep (fun g hg _=>⟨rfl,h.dx g hg⟩) _ _ hr) hsz).mono ?_;rintro r w1 ⟨rfl,h1,h2⟩;obtain⟨k1,k2⟩:=h.Nh h2 h1 (Na K.fns K.gl l c hk hw e).1;exact⟨rfl,⟨_,_,_,_,_,_,_,_,k1,hlb⟩,k2⟩
theorem EC.St.drewN(h:K.St lbs D w e)(n:Nat):K.St lbs D (w.drewN n) e:=by
 obtain⟨ρ,la,ln,lc,pa,pn,pc,bl,h,hlb⟩:=h;obtain⟨k1,k2⟩:=h.Nh (E6 _ w n) (h.Mo.drewN n) rfl;exact⟨_,_,_,_,_,_,_,_,k1,hlb⟩
theorem EC.Sv.L8{ρ:Nat->Nat}{la:Option Addr}{ln lc:Nat}{pa:Option Addr}{pn pc:Nat}{bl:List LB}{sa:Option Addr}{sn sc:Nat}(h:K.Sv D w e ρ la ln lc pa pn pc bl)(hv:Hr (dX w.heap.size ρ) K.wb K.te w (.slice K.fa K.fn K.fc) (.slice K.ga K.gn K.gc) (.slice la ln lc) (.slice pa pn pc) e.slots e.st sa sn sc) :
  G0 9 K.wb 2 w #[.slice K.fa K.fn K.fc,.slice K.ga K.gn K.gc,.slice la ln lc,.slice pa pn pc,.int .i64 (e.slots:Nat),.slice sa sn sc] K.te la ln lc (Da e.loc):=h.Mo.stk hv
theorem EC.Sv.Ol{ρ:Nat->Nat}{la:Option Addr}{ln lc:Nat}{pa:Option Addr}{pn pc:Nat}{bl:List LB}{sa:Option Addr}{sn sc:Nat}(h:K.Sv D w e ρ la ln lc pa pn pc bl)(hv:Hr (dX w.heap.size ρ) K.wb K.te w (.slice K.fa K.fn K.fc) (.slice K.ga K.gn K.gc) (.slice la ln lc) (.slice pa pn pc) e.slots e.st sa sn sc) :
  G0 260 K.wb 3 w #[.slice K.fa K.fn K.fc,.slice K.ga K.gn K.gc,.slice la ln lc,.slice pa pn pc,.int .i64 (e.slots:Nat),.slice sa sn sc] K.te pa pn pc (bl.map fun b=>C5 b.1).reverse:=
 ⟨hv.cell,rfl,h.pr,fun e=>by have:=h.pro _ e;have:=h.one.1;omega⟩
theorem Ws(h:K.St lbs D w e)(hn:e.loc.length+1<=100000)(s:Nm) :
  Calls Tryz.prog 81 #[.pointer (some ⟨K.wb,0,none⟩),.string ⟨s.toArray⟩] w fun r w'=>r=.returned (.int .i64 (e.loc.length:Nat))/\K.St lbs D w' (e.local' s)/\A3 D w w':=by
 obtain⟨ρ,la,ln,lc,pa,pn,pc,bl,h,hlb⟩:=h;obtain⟨sa,sn,sc,hv⟩:=h.ew;have lb:=A4 hv.cell;have HL:=A0 (Pp (h.L8 hv));have HPu:=A0 (Tb (h.L8 hv) (by rw[Nt];omega) ⟨s.toArray⟩ (by simp));have HPL:=A0 (fun(w1:World) hp=>h.A41 s hv (w1:=w1) hn hp);rw[hlb]at HPL;rw[Nt]at HL;clear h hv;go_enter Tryz.func81,Tryz.ntmps81;go_wp2_with fail
 refine HL.o.mono ?_;rintro r w ⟨rfl,rfl⟩;go_wp2_with fail
 refine HPu.o.mono ?_;rintro r w1 ⟨rfl,hp⟩;have Bu:=A0 (HPL.o w1 hp);obtain⟨g,cap,Ah,_,_⟩:=hp;have Fb:=A0 (Pp (w:=w1.drew) ⟨Ah.blk,Ah.cell,B3 Ah.own (fun _ _ _=>rfl),Ah.ne⟩);have c4:=A2 Ah.blk 4 (.int .i64 (e.slots:Nat)) (by simp);have Bt:=A4 Ah.blk;have f1:=Bd Ah.blk;rw[List.length_append,Nt]at Fb;clear Ah HL HPu;go_wp2;refine Ji 11 (by kernel_rfl) (by kernel_rfl) ?_;simp only[List.take_succ_cons,List.take_zero,List.drop_succ_cons,List.drop_zero];iterate 9 (refine Fa (fun K' hK'=>?_);go_simp;refine hK' _ ?_;clear hK' K')
 refine Fa (fun K' hK'=>?_);go_simp;refine⟨_,Fb.o,hK' _ ?_⟩;clear hK' K';refine Fa (fun K' hK'=>?_);go_simp;have hmax:(if(e.slots:Int)<(e.loc.length:Int)+1 then(e.loc.length:Int)+1 else(e.slots:Int))=((max e.slots (e.loc.length+1):Nat):Int):=by
  split <;> omega
 rw[hmax];refine hK' _ ?_;clear hK' K' hmax;refine Jk ?_;go_wp2;go_ret;obtain⟨k1,k2⟩:=Bu.o;exact⟨rfl,k1.drewN 1,k2.trans (E6 D _ 1)⟩
def Kr(K:EC)(l:A6)(c:BT A6):Prop:=∀(lbs:List Nat) (D:Nat->Prop) (w:World) (e:Em) (v:Value) (ks:List Value),
 K.St lbs D w e->Bo D w l v ks->Al D w c ks->Lp (nd l c) e.lps.length->Dd e->e.st.length+2*bsize (nd l c)<=800000->e.loc.length+bsize (nd l c)<=90000->e.lps.length+bsize (nd l c)<=90000->
 Calls Tryz.prog 56 #[.pointer (some ⟨K.wb,0,none⟩),v] w fun r w'=>r=.returned (.tuple #[])/\K.St lbs D w' (An K.fns K.gl l (Ar c) (em K.fns K.gl c) e)/\A3 D w w'
theorem Lp.nd{x y:Nat}{l:A6}{c r:BT A6}{n:Nat}(h:Lp (.node x y l c r) n):Lp (nd l c) n:=⟨h.1,h.2.1,trivial⟩
theorem Lp.drop:∀(i:Nat) (c:BT A6) (n:Nat),Lp c n->Lp (C3 i c) n:=by
 intro i;induction i with
 | zero=>intro c n h;rw[show C3 0 c=c from by cases c <;> rfl];exact h
 | succ i ih=>
  intro c n h;cases c with
  | nil=>exact h
  | node x y l c r=>exact ih r n h.2.2
end
section
set_option maxRecDepth 100000
open Go.RowKit
open Go.Deep (BT)
theorem Xf(K:EC)(c:BT A6)(hok:Cx (Kr K) c)(lbs:List Nat)(D:Nat->Prop)(w:World)(e:Em)(va:Option Addr)(vn vc:Nat)(ks:List Value)
  (hst:K.St lbs D w e) (hown:Co D w 142 1 (.slice va vn vc) ks.length ks) (hrep:Al D w c ks) (hlp:Lp c e.lps.length) (hbb:Dd e) (hsz:e.st.length+2*bsize c<=800000) (hlo:e.loc.length+bsize c<=90000) (hll:e.lps.length+bsize c<=90000) :
  Calls Tryz.prog 82 #[.pointer (some ⟨K.wb,0,none⟩),.slice va vn vc] w fun r w'=>r=.returned (.tuple #[])/\K.St lbs D w' (em K.fns K.gl c 0 e)/\A3 D w w':=by
 have hvn:vn=ks.length:=(C8 hown.1).1;subst hvn;have HSt0:=A0 hst;have HOwn:=A0 hown;have HRep:=A0 hrep;have hlen:=hrep.len;have HLen:=A0 hlen;have HLp:=A0 hlp;have hls:=N4 c;have hkl:ks.length<=400000:=by omega
 have HBb0:=A0 hbb;clear hst hown hrep hlen hlp hbb;go_enter Tryz.func82,Tryz.ntmps82;go_wp2;go_loopg [8] ks.length (fun k v wr=>∃(i:Nat) (ei:Em),v=.int .i64 i/\i+k=ks.length/\K.St lbs D wr ei/\em K.fns K.gl (C3 i c) 0 ei=em K.fns K.gl c 0 e/\ei.lps.length=e.lps.length/\Dd ei/\ei.st.length+2*bsize (C3 i c)<=800000/\ei.loc.length+bsize (C3 i c)<=90000/\bsize (C3 i c)<=bsize c/\A3 D w wr)
 case atStart=>exact⟨0,e,rfl,by omega,HSt0.o,rfl,rfl,HBb0.o,hsz,hlo,Nat.le_refl _,A3.refl _ _⟩
 case round=>
  clear HSt0 HBb0;obtain⟨i,ei,rfl,hik,hst,hse,hli,hbb,hsi,hci,hbi,hbel⟩:=hrel;have HBb:=A0 hbb;have HSt:=A0 hst;have HSe:=A0 hse;have HLi:=A0 hli;have HBel:=A0 hbel;clear hst hse hbel hli hbb;by_cases hlt:i<ks.length
  ·have hr:=HRep.o.Bn HBel.o;obtain⟨x,y,l,cc,r,hd,v,ks',hv,hn,hrk⟩:=Al.at' i c ks hr (by rw[←HLen.o];exact hlt);obtain⟨g,rfl,_,hcap,lg,hcell⟩:=Gj (HOwn.o.Bn HBel.o).1 (by omega);have d0:=hcell i v hv;have hE:=A0 (hok.at' i c x y l cc r hd);have hz:bsize (C3 i c)=bsize (nd l cc)+bsize r:=by rw[hd,Cd,bsize]
   have hdn:=Nu i c x y l cc r hd;have HNx:Hid (em K.fns K.gl (C3 (i+1) c) 0 (An K.fns K.gl l (Ar cc) (em K.fns K.gl cc) ei)=em K.fns K.gl c 0 e):=by
    show _=_;rw[hdn,←HSe.o,hd,Ib]
   have hsn:(An K.fns K.gl l (Ar cc) (em K.fns K.gl cc) ei).st.length+2*bsize (C3 (i+1) c)<=800000:=by
    have:=Gd K.fns K.gl l cc ei;rw[hdn];omega
   have hcn:(An K.fns K.gl l (Ar cc) (em K.fns K.gl cc) ei).loc.length+bsize (C3 (i+1) c)<=90000/\bsize (C3 (i+1) c)<=bsize c:=by
    have:=A3q K.fns K.gl l cc ei;rw[hdn];omega
   have HLn:Hid ((An K.fns K.gl l (Ar cc) (em K.fns K.gl cc) ei).lps.length=e.lps.length):=(A2n K.fns K.gl l cc ei).trans HLi.o;have hlpn:Lp (nd l cc) ei.lps.length:=by
    have:=Lp.drop i c _ HLp.o;rw[hd,←HLi.o]at this;exact this.nd
   have HC:=A0 (hE.out lbs D wr ei v ks' HSt.o hn hrk hlpn HBb.o (by omega) (by omega) (by have:=HLi.o;omega));have HSn:=A0 hsn;have HBn:=A0 (Rl K.fns K.gl l cc ei HBb.o);have HCn:=A0 hcn;clear hr hd hv hn hrk hcell hsn hz hcn hdn hlpn;go_wp2_with fail
   refine HC.o.mono ?_;rintro r' w1 ⟨rfl,Ah,A1⟩;have A9:=A0 Ah;have A5:Hid (A3 D w w1):=HBel.o.trans A1;clear Ah A1;go_wp2;go_roundg (gk-1)
   case measure=>omega
   case rel=>exact⟨i+1,_,rfl,by omega,A9.o,HNx.o,HLn.o,HBn.o,HSn.o,HCn.o.1,HCn.o.2,A5.o⟩
  ·have HE:Hid (ei=em K.fns K.gl c 0 e):=by
    have h0:C3 i c=.nil:=by
     have:Ar (C3 i c)=0:=by rw[Ok,←HLen.o];omega
     cases hd:C3 i c with
     | nil=>rfl
     | node x y l c r=>rw[hd]at this;simp[Ar]at this
    have:=HSe.o;rw[h0]at this;exact this
   go_wp2;go_end0;rw[←HE.o];exact⟨rfl,HSt.o,HBel.o⟩
theorem R1(K:EC)(c:BT A6)(hok:Cx (Kr K) c)(lbs:List Nat)(D:Nat->Prop)(w:World)(e:Em)(va:Option Addr)(vn vc:Nat)(ks:List Value)
  (hst:K.St lbs D w e) (hown:Co D w 142 1 (.slice va vn vc) ks.length ks) (hrep:Al D w c ks) (hlp:Lp c e.lps.length) (hbb:Dd e) (hsz:e.st.length+2*bsize c<=800000) (hlo:e.loc.length+bsize c<=90000) (hll:e.lps.length+bsize c<=90000) :
  Calls Tryz.prog 143 #[.pointer (some ⟨K.wb,0,none⟩),.slice va vn vc] w fun r w'=>r=.returned (.tuple #[])/\K.St lbs D w' ((em K.fns K.gl c 0 e).cut e.loc.length)/\A3 D w w':=by
 have HC:=A0 (Xf K c hok lbs D w e va vn vc ks hst hown hrep hlp hbb hsz hlo hll);have hlb:=hst.lo.2.1;have hl1:e.loc.length<=(em K.fns K.gl c 0 e).loc.length:=Ana K.fns K.gl c 0 e;obtain⟨ρ,la,ln,lc,pa,pn,pc,bl,h,_⟩:=hst;obtain⟨sa,sn,sc,hv⟩:=h.ew;have HL:=A0 (Pp (h.L8 hv));rw[Nt]at HL;clear h hv hown hrep hlp hbb;go_enter Tryz.func143,Tryz.ntmps143;go_wp2_with fail
 refine HL.o.mono ?_;rintro r w ⟨rfl,rfl⟩;go_wp2_with fail
 refine HC.o.mono ?_;rintro r w1 ⟨rfl,Ah,A1⟩;have hlb1:=Ah.lo.2.1;have A5:=A0 A1;obtain⟨ρ,la,ln,lc,pa,pn,pc,bl,h,hlb⟩:=Ah;obtain⟨sa,sn,sc,hv⟩:=h.ew;have HCut:=A0 (Uy (h.L8 hv) e.loc.length (by rw[Nt];exact hl1) (by simp));have HTo:=A0 (fun(w2:World) hp=>h.Z2 e.loc.length hv (w':=w2) hp);rw[hlb]at HTo;clear h hv A1;go_wp2_with fail
 refine HCut.o.mono ?_;rintro r w2 ⟨rfl,hp⟩;obtain⟨k1,k2⟩:=HTo.o w2 hp;have Ak:=A0 k1;have Aa:Hid (A3 D w w2):=A5.o.trans k2;clear hp k1 k2;go_wp2;go_end0;exact⟨rfl,Ak.o,Aa.o⟩
theorem Afd(K:EC)(l:A6)(c:BT A6)(hk:l.kd=27)(hwf:Wf 0 c):Kr K l c:=by
 intro lbs D w e v ks hst hn hr hlp hbb hsz hlo hll;obtain⟨hlw,lcb,hncb⟩:=hst.lo;have hnds:=Cd l c;unfold Bo at hn;rw[if_neg (by omega)]at hn;obtain⟨b,cs,rfl,hD,hb,hl⟩:=hn;have e1:Cb l.kd=265:=by rw[hk];rfl
 have e2:De l.kd=267:=by rw[hk];rfl
 rw[e1];rw[e2]at hb;unfold Cr at hl;simp only[hk]at hl;rw[A1f hk];obtain⟨a,rfl,rfl⟩:=hl;obtain⟨x1,y1,l1,c1,r1,D5,rfl,Bj,Ap,hz⟩:=hr.cons';obtain rfl:=hz.nil';have Bv:bsize (.node x1 y1 l1 c1 .nil)=bsize (nd l1 c1):=by rw[Cd,bsize];rfl
 have hlen1:=Gd K.fns K.gl l1 c1 e;have hloc1:(An K.fns K.gl l1 (Ar c1) (em K.fns K.gl c1) e).loc.length<=e.loc.length:=by rw[(Na K.fns K.gl l1 c1 hwf.exs.1 hwf.exs.2.1 e).2.1];exact Nat.le_refl _
 have hxs:=hwf.exs;rw[Ib,em];have HC:=A0 (hst.expr hxs.1 hxs.2.1 Bj Ap (by omega));have HBk:=A0 hb;have d1:=A2 hb 1 a rfl;have ld:=A4 hb;have D8:=Mq 265 (by decide);have Dr:=O0 265 (by decide);have Ee:=P3 265 (by decide);have F8:=Q4 265 (by decide);have G6:=Qr 265 (by decide);have He:=Sf 265 (by decide);have Iw:=A8n;clear hst hb e1 e2 hk hr Bj Ap hz hwf hxs hlp hbb;generalize Hs:An K.fns K.gl l1 (Ar c1) (em K.fns K.gl c1) e=Bz at *;unfold C5;go_enter Tryz.func56,Tryz.ntmps56;go_wp2_with fail
 refine(HC.o).mono ?_;rintro r w1 ⟨rfl,Ah,A1⟩;have A9:=A0 Ah;have A5:=A0 A1;have Bm:=(A1.block b hD).trans HBk.o;have HBk1:=A0 Bm;clear Ah A1 d1 ld;have d0:w1.cell? ⟨b,0,none⟩=some (.int .i64 (l.line:Nat)):=A2 Bm 0 _ rfl;have ld:=A4 Bm;clear Bm;go_wp2_with fail
 refine(A9.o.step (by omega) 41 0 l.line).mono ?_;rintro r w2 ⟨rfl,Au,A8⟩;have Ak:=A0 Au;have Aa:Hid (A3 D w w2):=A5.o.trans A8;clear Au A8;go_wp2;go_end0;subst Hs;exact⟨rfl,Ak.o,Aa.o⟩
theorem A75(K:EC)(l:A6)(c:BT A6)(hk:l.kd=30)(hwf:Wf 0 c):Kr K l c:=by
 intro lbs D w e v ks hst hn hr hlp hbb hsz hlo hll;obtain⟨hlw,lcb,hncb⟩:=hst.lo;have hnds:=Cd l c;unfold Bo at hn;rw[if_neg (by omega)]at hn;obtain⟨b,cs,rfl,hD,hb,hl⟩:=hn;have e1:Cb l.kd=270:=by rw[hk];rfl
 have e2:De l.kd=272:=by rw[hk];rfl
 rw[e1];rw[e2]at hb;unfold Cr at hl;simp only[hk]at hl;rw[l8 hk];obtain⟨a,rfl,rfl⟩:=hl;obtain⟨x1,y1,l1,c1,r1,D5,rfl,Bj,Ap,hz⟩:=hr.cons';obtain rfl:=hz.nil';have Bv:bsize (.node x1 y1 l1 c1 .nil)=bsize (nd l1 c1):=by rw[Cd,bsize];rfl
 have hlen1:=Gd K.fns K.gl l1 c1 e;have hloc1:(An K.fns K.gl l1 (Ar c1) (em K.fns K.gl c1) e).loc.length<=e.loc.length:=by rw[(Na K.fns K.gl l1 c1 hwf.exs.1 hwf.exs.2.1 e).2.1];exact Nat.le_refl _
 have hxs:=hwf.exs;rw[Ib,em];have HC:=A0 (hst.expr hxs.1 hxs.2.1 Bj Ap (by omega));have HBk:=A0 hb;have d1:=A2 hb 0 a rfl;have ld:=A4 hb;have D8:=Mq 270 (by decide);have Dr:=O0 270 (by decide);have Ee:=P3 270 (by decide);have F8:=Q4 270 (by decide);have G6:=Qr 270 (by decide);have He:=Sf 270 (by decide);have Iw:=Vb 270 (by decide);have ta7:=A7f 270 (by decide);have ta8:=A6z;clear hst hb e1 e2 hk hr Bj Ap hz hwf hxs hlp hbb;generalize Hs:An K.fns K.gl l1 (Ar c1) (em K.fns K.gl c1) e=Bz at *;unfold C5;go_enter Tryz.func56,Tryz.ntmps56;go_wp2_with fail
 refine(HC.o).mono ?_;rintro r w1 ⟨rfl,Ah,A1⟩;have A9:=A0 Ah;have A5:=A0 A1;clear Ah A1 d1 ld;go_wp2_with fail
 refine(A9.o.step (by omega) 5 0 0).mono ?_;rintro r w2 ⟨rfl,Au,A8⟩;have Ak:=A0 Au;have Aa:Hid (A3 D w w2):=A5.o.trans A8;clear Au A8;go_wp2;go_end0;subst Hs;exact⟨rfl,Ak.o,Aa.o⟩
theorem Ai8(K:EC)(l:A6)(c:BT A6)(hk:l.kd=21)(hwf:Wf 0 c):Kr K l c:=by
 intro lbs D w e v ks hst hn hr hlp hbb hsz hlo hll;obtain⟨hlw,lcb,hncb⟩:=hst.lo;have hnds:=Cd l c;unfold Bo at hn;rw[if_neg (by omega)]at hn;obtain⟨b,cs,rfl,hD,hb,hl⟩:=hn;have e1:Cb l.kd=145:=by rw[hk];rfl
 have e2:De l.kd=152:=by rw[hk];rfl
 rw[e1];rw[e2]at hb;unfold Cr at hl;simp only[hk]at hl;rw[A4l hk];obtain⟨a,rfl,rfl⟩:=hl;obtain⟨x1,y1,l1,c1,r1,D5,rfl,Bj,Ap,hz⟩:=hr.cons';obtain rfl:=hz.nil';have Bv:bsize (.node x1 y1 l1 c1 .nil)=bsize (nd l1 c1):=by rw[Cd,bsize];rfl
 have hlen1:=Gd K.fns K.gl l1 c1 e;have hloc1:(An K.fns K.gl l1 (Ar c1) (em K.fns K.gl c1) e).loc.length<=e.loc.length:=by rw[(Na K.fns K.gl l1 c1 hwf.exs.1 hwf.exs.2.1 e).2.1];exact Nat.le_refl _
 have hxs:=hwf.exs;rw[Ib,em];have HC:=A0 (hst.expr hxs.1 hxs.2.1 Bj Ap (by omega));have HBk:=A0 hb;have d1:=A2 hb 2 a rfl;have ld:=A4 hb;have D8:=A0i;clear hst hb e1 e2 hk hr Bj Ap hz hwf hxs hlp hbb;generalize Hs:An K.fns K.gl l1 (Ar c1) (em K.fns K.gl c1) e=Bz at *;unfold C5;go_enter Tryz.func56,Tryz.ntmps56;go_wp2_with fail
 refine(HC.o).mono ?_;rintro r w1 ⟨rfl,Ah,A1⟩;have A9:=A0 Ah;have A5:=A0 A1;have Bm:=(A1.block b hD).trans HBk.o;have HBk1:=A0 Bm;clear Ah A1 d1 ld;have d0:w1.cell? ⟨b,1,none⟩=some (.string ⟨l.s.toArray⟩):=A2 Bm 1 _ rfl;have ld:=A4 Bm;clear Bm;go_wp2_with fail
 refine(Ws A9.o (by omega) l.s).mono ?_;rintro r w2 ⟨rfl,Au,A8⟩;have Ak:=A0 Au;have Aa:Hid (A3 D w w2):=A5.o.trans A8;clear Au A8;go_wp2_with fail
 refine(Ak.o.step (by show Bz.st.length<=_;omega) 3 (Bz.loc.length:Nat) 0).mono ?_;rintro r w3 ⟨rfl,Bx,Aj⟩;have Bh:=A0 Bx;have At:Hid (A3 D w w3):=Aa.o.trans Aj;clear Bx Aj;go_wp2;go_end0;subst Hs;exact⟨rfl,Bh.o,At.o⟩
theorem A6h(K:EC)(l:A6)(c:BT A6)(hk:l.kd=24)(hwf:Wf 0 c)  (lbs:List Nat) (D:Nat->Prop) (w:World) (e:Em) (b:Nat) (a:Value) (ks:List Value) (hst:K.St lbs D w e) (hb:w.heap[b]?=some (.cells #[.int .i64 (l.line:Nat),a] 318 (0,0))) (hks:(ks=[]/\a=.nilIface)\/ks=[a]) (hr:Al D w c ks) (hsz:e.st.length+2*bsize (nd l c)<=800000) :
  Calls Tryz.prog 95 #[.pointer (some ⟨K.wb,0,none⟩),.pointer (some ⟨b,0,none⟩)] w fun r w'=>r=.returned (.tuple #[])/\K.St lbs D w' (An K.fns K.gl l (Ar c) (em K.fns K.gl c) e)/\A3 D w w':=by
 obtain⟨hlw,lcb,hncb⟩:=hst.lo;have hnds:=Cd l c;rw[Yr hk];have d1:=A2 hb 1 _ rfl;have ld:=A4 hb;have HBk:=A0 hb;rcases hks with⟨rfl,rfl⟩|rfl
 ·rw[hr.nil'];have HC:=A0 (hst.step (by omega) 43 0 0);clear hst hb hr hwf hk;go_enter Tryz.func95,Tryz.ntmps95;go_wp2_with fail
  refine HC.o.mono ?_;rintro r w1 ⟨rfl,Ah,A1⟩;have A9:=A0 Ah;have A5:=A0 A1;clear Ah A1;go_wp2;refine bodyPost_ret (v:=.tuple #[]) (by simp[results,Tryz.results95,go_sem]) rfl ?_;exact⟨rfl,A9.o,A5.o⟩
 ·obtain⟨x1,y1,l1,c1,r1,D5,rfl,Bj,Ap,hz⟩:=hr.cons';obtain rfl:=hz.nil';have hxs:=hwf.exs;have Bv:bsize (.node x1 y1 l1 c1 .nil)=bsize (nd l1 c1):=by rw[Cd,bsize];rfl
  have hlen1:=Gd K.fns K.gl l1 c1 e;rw[if_neg (by simp[Ar]),Ib,em];obtain⟨t,x,rfl⟩:∃t x,a=.iface t x:=Bj.isIface (Ob hxs.1).1 (Ob hxs.1).2.1;have HC:=A0 (hst.expr hxs.1 hxs.2.1 Bj Ap (by omega));clear hst hb hr hwf hk Bj Ap hz hxs;generalize Hs:An K.fns K.gl l1 (Ar c1) (em K.fns K.gl c1) e=Bz at *;go_enter Tryz.func95,Tryz.ntmps95;go_wp2_with fail
  refine HC.o.mono ?_;rintro r w1 ⟨rfl,Ah,A1⟩;have A9:=A0 Ah;have A5:=A0 A1;clear Ah A1;go_wp2_with fail
  refine(A9.o.step (by omega) 44 0 0).mono ?_;rintro r w2 ⟨rfl,Au,A8⟩;have Ak:=A0 Au;have Aa:Hid (A3 D w w2):=A5.o.trans A8;clear Au A8;go_wp2;go_end0;subst Hs;exact⟨rfl,Ak.o,Aa.o⟩
theorem A65(K:EC)(l:A6)(c:BT A6)(hk:l.kd=24)(hwf:Wf 0 c):Kr K l c:=by
 intro lbs D w e v ks hst hn hr hlp hbb hsz hlo hll;obtain⟨hlw,lcb,hncb⟩:=hst.lo;have hnds:=Cd l c;unfold Bo at hn;rw[if_neg (by omega)]at hn;obtain⟨b,cs,rfl,hD,hb,hl⟩:=hn;have e1:Cb l.kd=257:=by rw[hk];rfl
 have e2:De l.kd=318:=by rw[hk];rfl
 rw[e1];rw[e2]at hb;unfold Cr at hl;simp only[hk]at hl;obtain⟨a,rfl,hks⟩:=hl;have HC:=A0 (A6h K l c hk hwf lbs D w e b a ks hst hb hks hr hsz);have ld:=A4 hb;have D8:=Mq 257 (by decide);have Dr:=O0 257 (by decide);have Ee:=P3 257 (by decide);have F8:=Aiz;clear hst hb e1 e2 hk hr hwf hlp hbb hks;unfold C5;go_enter Tryz.func56,Tryz.ntmps56;go_wp2_with fail
 refine(HC.o).mono ?_;rintro r w1 ⟨rfl,Ah,A1⟩;have A9:=A0 Ah;have A5:=A0 A1;clear Ah A1;go_wp2;go_end0;exact⟨rfl,A9.o,A5.o⟩
theorem A68(K:EC)(l:A6)(c:BT A6)(hk:l.kd=28)(hwf:Wf 0 c)(lbs:List Nat)(D:Nat->Prop)(w:World)(e:Em)(b:Nat)(b2:Nat)(a:Value)(Iy:D b2)(hb:w.heap[b]?=some (.cells #[.iface 238 (C5 b2),a] 322 (0,0)))(A8:w.heap[b2]?=some (.cells #[Gc l.line,Kw l.s] 240 (0,0)))(hr:Al D w c [a])(hst:K.St lbs D w e)(hsz:e.st.length+2*bsize (nd l c)<=800000) :
  Calls Tryz.prog 97 #[.pointer (some ⟨K.wb,0,none⟩),.pointer (some ⟨b,0,none⟩)] w fun r w'=>r=.returned (.tuple #[])/\K.St lbs D w' (An K.fns K.gl l (Ar c) (em K.fns K.gl c) e)/\A3 D w w':=by
 obtain⟨hlw,lcb,hncb⟩:=hst.lo;have hnds:=Cd l c;rw[A0t hk];obtain⟨x1,y1,l1,c1,r1,D5,rfl,Bj,Ap,hz⟩:=hr.cons';obtain rfl:=hz.nil';have hxs:=hwf.exs;have Bv:bsize (.node x1 y1 l1 c1 .nil)=bsize (nd l1 c1):=by rw[Cd,bsize];rfl
 have hlen1:=Gd K.fns K.gl l1 c1 e;rw[Ib,em];have HC:=A0 (hst.expr hxs.1 hxs.2.1 Bj Ap (by omega));have Aa:=A0 A8;have d0:=A2 hb 0 _ rfl;have d1:=A2 hb 1 a rfl;have ld:=A4 hb;have D8:=A0m;clear hst hb hr hwf hk Bj Ap hz hxs A8;generalize Hs:An K.fns K.gl l1 (Ar c1) (em K.fns K.gl c1) e=Bz at *;unfold C5 at d0;go_enter Tryz.func97,Tryz.ntmps97;go_wp2_with fail
 refine(HC.o).mono ?_;rintro r w1 ⟨rfl,Ah,A1⟩;have A9:=A0 Ah;have A5:=A0 A1;have Bm:=(A1.block b2 Iy).trans Aa.o;clear Ah A1 d0 d1 ld;have d1:w1.cell? ⟨b2,1,none⟩=some (.string ⟨l.s.toArray⟩):=A2 Bm 1 _ rfl;have ld:=A4 Bm;clear Bm;go_wp2_with fail
 refine(A9.o.var (by omega) l.s 3 4).mono ?_;rintro r w2 ⟨rfl,Au,A8⟩;have Ak:=A0 Au;have HBB:Hid (A3 D w w2):=A5.o.trans A8;clear Au A8;go_wp2;go_end0;subst Hs;exact⟨rfl,Ak.o,HBB.o⟩
theorem Agu(K:EC)(l:A6)(c:BT A6)(hk:l.kd=28)(hwf:Wf 0 c):Kr K l c:=by
 intro lbs D w e v ks hst hn hr hlp hbb hsz hlo hll;obtain⟨hlw,lcb,hncb⟩:=hst.lo;have hnds:=Cd l c;unfold Bo at hn;rw[if_neg (by omega)]at hn;obtain⟨b,cs,rfl,hD,hb,hl⟩:=hn;have e1:Cb l.kd=268:=by rw[hk];rfl
 have e2:De l.kd=322:=by rw[hk];rfl
 rw[e1];rw[e2]at hb;unfold Cr at hl;simp only[hk]at hl;obtain⟨b2,a,rfl,Iy,A8,rfl⟩:=hl;have HC:=A0 (A68 K l c hk hwf lbs D w e b b2 a Iy hb A8 hr hst hsz);have ld:=A4 hb;have D8:=Mq 268 (by decide);have Dr:=O0 268 (by decide);have Ee:=P3 268 (by decide);have F8:=Q4 268 (by decide);have G6:=Qr 268 (by decide);have He:=Sf 268 (by decide);have Iw:=Vb 268 (by decide);have ta7:=A11;clear hst hb e1 e2 hk hr hlp hbb hwf A8;unfold C5;go_enter Tryz.func56,Tryz.ntmps56;go_wp2_with fail
 refine(HC.o).mono ?_;rintro r w1 ⟨rfl,Ah,A1⟩;have A9:=A0 Ah;have A5:=A0 A1;clear Ah A1;go_wp2;go_end0;exact⟨rfl,A9.o,A5.o⟩
theorem An2(K:EC)(l:A6)(c:BT A6)(hk:l.kd=29)(hwf:Wf 0 c)(lbs:List Nat)(D:Nat->Prop)(w:World)(e:Em)(b:Nat)(b2:Nat)(o p a:Value)(hD:D b)(Iy:D b2)(hb:w.heap[b]?=some (.cells #[.iface 310 (C5 b2),a] 322 (0,0)))(A8:w.heap[b2]?=some (.cells #[Gc l.line,o,p] 312 (0,0)))(hr:Al D w c [o,p,a])(hst:K.St lbs D w e)(hsz:e.st.length+2*bsize (nd l c)<=800000) :
  Calls Tryz.prog 97 #[.pointer (some ⟨K.wb,0,none⟩),.pointer (some ⟨b,0,none⟩)] w fun r w'=>r=.returned (.tuple #[])/\K.St lbs D w' (An K.fns K.gl l (Ar c) (em K.fns K.gl c) e)/\A3 D w w':=by
 obtain⟨hlw,lcb,hncb⟩:=hst.lo;have hnds:=Cd l c;rw[Zi hk];obtain⟨x1,y1,l1,c1,r1,D5,rfl,Bj,Ap,hz⟩:=hr.cons';obtain⟨x2,y2,l2,c2,r2,Gk,rfl,Dh,B0,By⟩:=hz.cons';obtain⟨x3,y3,l3,c3,r3,ks3,rfl,hn3,C7,Ft⟩:=By.cons';obtain rfl:=Ft.nil';have Et:=hwf.exs;have G3:=Et.2.2.exs;have hx3:=G3.2.2.exs;have Bv:bsize (.node x1 y1 l1 c1 (.node x2 y2 l2 c2 (.node x3 y3 l3 c3 .nil)))=bsize (nd l1 c1)+bsize (nd l2 c2)+bsize (nd l3 c3):=by rw[Cd,Cd,Cd,bsize,bsize,bsize,bsize];omega
 rw[Ib,Ib,Ib,em];have hl1:=Gd K.fns K.gl l1 c1 e;have Gi:=Gd K.fns K.gl l2 c2 (An K.fns K.gl l1 (Ar c1) (em K.fns K.gl c1) e);have hl3:=Gd K.fns K.gl l3 c3 (An K.fns K.gl l2 (Ar c2) (em K.fns K.gl c2) (An K.fns K.gl l1 (Ar c1) (em K.fns K.gl c1) e));have I8:=A0 (hst.expr Et.1 Et.2.1 Bj Ap (by omega));have F2:=A0 (fun(W:World) (e2:Em) (he:e2.st.length+2*bsize (nd l2 c2)<=800000) (hx:K.St lbs D W e2) (hbd:A3 D w W)=>hx.expr G3.1 G3.2.1 (Dh.Bn hbd) (B0.Bn hbd) he);have HC3:=A0 (fun(W:World) (e2:Em) (he:e2.st.length+2*bsize (nd l3 c3)<=800000) (hx:K.St lbs D W e2) (hbd:A3 D w W)=>hx.expr hx3.1 hx3.2.1 (hn3.Bn hbd) (C7.Bn hbd) he);have HBk:=A0 hb;have HBj:=A0 A8;have d0:=A2 hb 0 _ rfl;have ld:=A4 hb;have g1:=A2 A8 1 o rfl;have lg:=A4 A8;have D8:=Mp 310 (by decide);have Dr:=A1v;clear hst hb hr hwf hk Bj Ap hz A8 Dh B0 By hn3 C7 Ft Et G3 hx3;generalize Hs:An K.fns K.gl l1 (Ar c1) (em K.fns K.gl c1) e=Bz at *;generalize hE2:An K.fns K.gl l2 (Ar c2) (em K.fns K.gl c2) Bz=F7 at *;generalize hE3:An K.fns K.gl l3 (Ar c3) (em K.fns K.gl c3) F7=em3 at *;unfold C5 at d0;go_enter Tryz.func97,Tryz.ntmps97;go_wp2_with fail
 refine(I8.o).mono ?_;rintro r w1 ⟨rfl,Ah,A1⟩;have A9:=A0 Ah;have A5:=A0 A1;have hbj1:=(A1.block b2 Iy).trans HBj.o;have HBj1:=A0 hbj1;have HBk1:=A0 ((A1.block b hD).trans HBk.o);clear Ah A1 d0 g1 ld lg;have g2:=A2 hbj1 2 p rfl;have lg:=A4 hbj1;clear hbj1;go_wp2_with fail
 refine(F2.o _ _ (by omega) A9.o A5.o).mono ?_;rintro r w2 ⟨rfl,Au,A8⟩;rw[hE2]at Au;have Ak:=A0 Au;have Aa:Hid (A3 D w w2):=A5.o.trans A8;have D6:=(A8.block b hD).trans HBk1.o;have HBj2:=A0 ((A8.block b2 Iy).trans HBj1.o);clear Au A8 g2 lg;have d1:=A2 D6 1 a rfl;have ld:=A4 D6;clear D6;go_wp2_with fail
 refine(HC3.o _ _ (by omega) Ak.o Aa.o).mono ?_;rintro r w3 ⟨rfl,Bx,Aj⟩;rw[hE3]at Bx;have Bh:=A0 Bx;have At:Hid (A3 D w w3):=Aa.o.trans Aj;have hbj3:=(Aj.block b2 Iy).trans HBj2.o;clear Bx Aj d1 ld;have g0:w3.cell? ⟨b2,0,none⟩=some (.int .i64 (l.line:Nat)):=A2 hbj3 0 _ rfl;have lg:=A4 hbj3;clear hbj3;go_wp2_with fail
 refine(Bh.o.step (by omega) 40 0 l.line).mono ?_;rintro r w4 ⟨rfl,F6,B4⟩;have Ep:=A0 F6;have Ci:Hid (A3 D w w4):=At.o.trans B4;clear F6 B4;go_wp2;go_end0;exact⟨rfl,Ep.o,Ci.o⟩
theorem Ae9(K:EC)(l:A6)(c:BT A6)(hk:l.kd=29)(hwf:Wf 0 c):Kr K l c:=by
 intro lbs D w e v ks hst hn hr hlp hbb hsz hlo hll;obtain⟨hlw,lcb,hncb⟩:=hst.lo;have hnds:=Cd l c;unfold Bo at hn;rw[if_neg (by omega)]at hn;obtain⟨b,cs,rfl,hD,hb,hl⟩:=hn;have e1:Cb l.kd=268:=by rw[hk];rfl
 have e2:De l.kd=322:=by rw[hk];rfl
 rw[e1];rw[e2]at hb;unfold Cr at hl;simp only[hk]at hl;obtain⟨b2,o,p,a,rfl,Iy,A8,rfl⟩:=hl;have HC:=A0 (An2 K l c hk hwf lbs D w e b b2 o p a hD Iy hb A8 hr hst hsz);have ld:=A4 hb;have D8:=Mq 268 (by decide);have Dr:=O0 268 (by decide);have Ee:=P3 268 (by decide);have F8:=Q4 268 (by decide);have G6:=Qr 268 (by decide);have He:=Sf 268 (by decide);have Iw:=Vb 268 (by decide);have ta7:=A11;clear hst hb e1 e2 hk hr hlp hbb hwf A8;unfold C5;go_enter Tryz.func56,Tryz.ntmps56;go_wp2_with fail
 refine(HC.o).mono ?_;rintro r w1 ⟨rfl,Ah,A1⟩;have A9:=A0 Ah;have A5:=A0 A1;clear Ah A1;go_wp2;go_end0;exact⟨rfl,A9.o,A5.o⟩
end
end Go.Proofs.YtjdlndhfaaolaaaGreatDoor
