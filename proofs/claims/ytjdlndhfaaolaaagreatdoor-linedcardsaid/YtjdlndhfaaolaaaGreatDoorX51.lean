import Derived.Test.YtjdlndhfaaolaaaGreatDoorX50
set_option maxHeartbeats 20000000
namespace Go.Proofs.YtjdlndhfaaolaaaGreatDoor
section
set_option maxRecDepth 100000
open Go.RowKit
open Go.Deep (BT)
theorem A4c{w:World}(h:G9 w):Jt<w.heap.size:=by
 unfold G9 Lib.TabIs World.var? at h;rw[Ze]at h;simp only[Option.bind_some]at h;split at h
 ·rename_i hh;exact A6 hh
 ·cases h
theorem Xg{w:World}{b k:Nat}(v0 v1 v2 v3 v4:Value)(h:k≠b):(((((w.setCell ⟨b,0,none⟩ v0).setCell ⟨b,1,none⟩ v1).setCell ⟨b,2,none⟩ v2).setCell ⟨b,3,none⟩ v3).setCell ⟨b,4,none⟩ v4).heap[k]?=w.heap[k]?:=
 ((((Below.heap_setCell _ _ _ _ h).trans (Below.heap_setCell _ _ _ _ h)).trans (Below.heap_setCell _ _ _ _ h)).trans (Below.heap_setCell _ _ _ _ h)).trans (Below.heap_setCell _ _ _ _ h)
theorem Acl{w w':World}{B b:Nat}(hB:B<=b)(h:Below B w w')(v0 v1 v2 v3 v4:Value):Below B w (((((w'.setCell ⟨b,0,none⟩ v0).setCell ⟨b,1,none⟩ v1).setCell ⟨b,2,none⟩ v2).setCell ⟨b,3,none⟩ v3).setCell ⟨b,4,none⟩ v4):=
 Below.setCell (Below.setCell (Below.setCell (Below.setCell (Below.setCell h hB _) hB _) hB _) hB _) hB _
theorem Aih{P:D5}{bets:List Da}{m':MS}(hwk:Ve P (bets.take 20) m')(hml:m'.lots.length<=5000)(hN:P.fns.length<=5000)(hG:P.globals<=5000)(hS:P.slots<=5000):Va P bets m':=by
 intro w gb E v hpg hE ht hb;show Calls _ _ _ _ (Sz w m'.code m'.line m'.out m'.lots);obtain⟨a,cc,rfl,hcc,hb'⟩:=id hb;obtain⟨pb,hEg,hgb,hp⟩:=hpg;obtain⟨w0,Dz⟩:∃w0,w0=w.alloc (.cells #[.slice none 0 0,.int .i64 0,.int .i64 0,.slice none 0 0,.slice none 0 0] 54):=⟨_,rfl⟩;have J4:w0.heap.size=w.heap.size+1:=by rw[Dz];simp
 have Bv:Below w.heap.size w w0:=by rw[Dz];exact Xr _ _
 have Gt:w0.heap[w.heap.size]?=some (.cells #[.slice none 0 0,.int .i64 0,.int .i64 0,.slice none 0 0,.slice none 0 0] 54 (0,0)):=by rw[Dz];exact heap_alloc_new _ _
 have ht0:=ht.keep Bv;have HR:=A0 (Af3 hwk hml hN hG hS (hp.keep (fun k hk hl=>⟨Bv.block k hl,hk⟩)) (fun g hg=>by have:=hE g hg;omega) ht0 (A4c ht0) (hb.below Bv));have cg:=A7 hgb 0 _ rfl;have lg:=A6 hgb;have HW:=A0 Dz;have HZ:=A0 Gt;have Ae:=A0 Bv;clear hwk hml hN hG hS hp hE ht ht0 hb hb' hgb Dz Gt Bv;go_enter Tryz.func23,Tryz.ntmps23;go_wp2_with fail
 rw[←HW.o];refine HR.o.mono ?_;rintro e w1 ⟨va,vn,vc,fv,dv,rfl,hfd,ho,hbl⟩;obtain⟨fa,fn,fc,da,dn,dc,rfl,rfl,hof,hod⟩:=hfd;have Bq:=(hbl.block w.heap.size z4sa).trans HZ.o;have ls:=hbl.size;obtain⟨m0,f0⟩:=And.intro (A7 Bq 0 _ rfl) (Ci Bq);have m1:=A7 Bq 1 _ rfl;have m2:=A7 Bq 2 _ rfl;have m3:=A7 Bq 3 _ rfl;have m4:=A7 Bq 4 _ rfl;have lz:=A6 Bq;have HO:=A0 ho;have HF:=A0 hof;have HD:=A0 hod;have HB:=A0 hbl;have HZ1:=A0 Bq;clear ho hbl Bq HR hof hod;go_wp2;have hne:=fun k hk=>Y1 HO.o HZ1.o z4ta k hk;have hnf:=fun k hk=>Y1 HF.o HZ1.o z4ta k hk;have hnd:=fun k hk=>Y1 HD.o HZ1.o z4ta k hk;have hq:=A0t HZ1.o (.slice va vn vc) (.int .i64 (m'.code:Nat)) (.int .i64 (m'.line:Nat)) (.slice fa fn fc) (.slice da dn dc);have x0:=A7 hq 0 _ rfl;have x1:=A7 hq 1 _ rfl;have x2:=A7 hq 2 _ rfl;have x3:=A7 hq 3 _ rfl;have x4:=A7 hq 4 _ rfl;refine bodyPost_ret (v:=.agg #[.slice va vn vc,.int .i64 (m'.code:Nat),.int .i64 (m'.line:Nat),.slice fa fn fc,.slice da dn dc]) (by simp[results,Tryz.results23,go_sem,x0,x1,x2,x3,x4]) rfl ?_;unfold Sz;refine⟨va,vn,vc,fa,fn,fc,da,dn,dc,rfl,B2 HO.o (fun k hk _=>?_),B2 HF.o (fun k hk _=>?_),B2 HD.o (fun k hk _=>?_),?_⟩
 ·exact Xg _ _ _ _ _ (hne k hk)
 ·exact Xg _ _ _ _ _ (hnf k hk)
 ·exact Xg _ _ _ _ _ (hnd k hk)
 ·exact Acl (Nat.le_refl _) (Ae.o.trans (HB.o.mono z4sa)) _ _ _ _ _
theorem Aig{P:D5}{bets:List Da}{m':MS}(h:Va P bets m')(hc:m'.code=0):Zz P bets m'.out:=by
 intro w gb E v hpg hE ht hb;refine(h w gb E v hpg hE ht hb).mono ?_;rintro e w' ⟨va,vn,vc,fa,fn,fc,da,dn,dc,he,h1,_,_,h4⟩;rw[hc]at he;exact⟨va,vn,vc,m'.line,_,_,he,⟨fa,fn,fc,da,dn,dc,rfl,rfl⟩,h1,h4⟩
end
end Go.Proofs.YtjdlndhfaaolaaaGreatDoor
