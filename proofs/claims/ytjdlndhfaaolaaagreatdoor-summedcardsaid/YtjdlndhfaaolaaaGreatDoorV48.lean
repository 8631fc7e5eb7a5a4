import Derived.Test.YtjdlndhfaaolaaaGreatDoorV47
set_option maxHeartbeats 20000000
namespace Go.Proofs.YtjdlndhfaaolaaaGreatDoor
section
set_option maxRecDepth 100000
open Go.RowKit
open Go.Deep (BT)
theorem A4c{w:World}(h:G3 w):K0<w.heap.size:=by
 unfold G3 Lib.TabIs World.var? at h;rw[Yk]at h;simp only[Option.bind_some]at h;split at h
 ·rename_i hh;exact A5 hh
 ·cases h
theorem Wz{w:World}{b k:Nat}(v0 v1 v2 v3 v4:Value)(h:k≠b):(((((w.setCell ⟨b,0,none⟩ v0).setCell ⟨b,1,none⟩ v1).setCell ⟨b,2,none⟩ v2).setCell ⟨b,3,none⟩ v3).setCell ⟨b,4,none⟩ v4).heap[k]?=w.heap[k]?:=
 ((((Below.heap_setCell _ _ _ _ h).trans (Below.heap_setCell _ _ _ _ h)).trans (Below.heap_setCell _ _ _ _ h)).trans (Below.heap_setCell _ _ _ _ h)).trans (Below.heap_setCell _ _ _ _ h)
theorem Adb{w w':World}{B b:Nat}(hB:B<=b)(h:Below B w w')(v0 v1 v2 v3 v4:Value):Below B w (((((w'.setCell ⟨b,0,none⟩ v0).setCell ⟨b,1,none⟩ v1).setCell ⟨b,2,none⟩ v2).setCell ⟨b,3,none⟩ v3).setCell ⟨b,4,none⟩ v4):=
 Below.setCell (Below.setCell (Below.setCell (Below.setCell (Below.setCell h hB _) hB _) hB _) hB _) hB _
theorem A3m{P:D7}{bets:List Cx}{n:Nat}{m':MS}(hr:Iy P (bets.take 20) n (mstart P)=some m')(hok:P3 P (bets.take 20) n (mstart P))(hml:m'.lots.length<=1000)(hst:∀f∈P.fns,f.steps.length<=90000)(hN:P.fns.length<=1000)(hG:P.globals<=1000)(hS:P.slots<=1000)(hc:m'.code=0):Z6 P bets m'.out m'.lots:=by
 intro w gb E v hpg hE ht hb;show Calls _ _ _ _ (Rr w m'.out m'.lots);obtain⟨a,cc,rfl,hcc,hb'⟩:=id hb;obtain⟨pb,hEg,hgb,hp⟩:=hpg;obtain⟨w0,Cz⟩:∃w0,w0=w.alloc (.cells #[.slice none 0 0,.int .i64 0,.int .i64 0,.slice none 0 0,.slice none 0 0] 54):=⟨_,rfl⟩;have Gt:w0.heap.size=w.heap.size+1:=by rw[Cz];simp
 have Bf:Below w.heap.size w w0:=by rw[Cz];exact Jw _ _
 have Hw:w0.heap[w.heap.size]?=some (.cells #[.slice none 0 0,.int .i64 0,.int .i64 0,.slice none 0 0,.slice none 0 0] 54 (0,0)):=by rw[Cz];exact heap_alloc_new _ _
 have ht0:=ht.keep Bf;have HR:=A0 (Agd hr hok hml hst hN hG hS (hp.keep (fun k hk hl=>⟨Bf.block k hl,hk⟩)) (fun g hg=>by have:=hE g hg;omega) ht0 (A4c ht0) (hb.below Bf));have cg:=A2 hgb 0 _ rfl;have lg:=A5 hgb;have HC:=A0 hc;have HW:=A0 Cz;have HZ:=A0 Hw;have Af:=A0 Bf;clear hr hok hml hst hN hG hS hp hE ht ht0 hb hb' hgb hc Cz Hw Bf;go_enter Tryz.func23,Tryz.ntmps23;go_wp2_with fail
 rw[←HW.o];refine HR.o.mono ?_;rintro e w1 ⟨va,vn,vc,fv,dv,rfl,hfd,ho,hbl⟩;obtain⟨fa,fn,fc,da,dn,dc,rfl,rfl,hof,hod⟩:=hfd;rw[HC.o];have By:=(hbl.block w.heap.size z4va).trans HZ.o;have ls:=hbl.size;obtain⟨m0,f0⟩:=And.intro (A2 By 0 _ rfl) (Bd By);have m1:=A2 By 1 _ rfl;have m2:=A2 By 2 _ rfl;have m3:=A2 By 3 _ rfl;have m4:=A2 By 4 _ rfl;have lz:=A5 By;have HO:=A0 ho;have HF:=A0 hof;have HD:=A0 hod;have HB:=A0 hbl;have HZ1:=A0 By;clear ho hbl By HR hof hod;go_wp2;have hne:=fun k hk=>Xr HO.o HZ1.o z4wa k hk;have hnf:=fun k hk=>Xr HF.o HZ1.o z4wa k hk;have hnd:=fun k hk=>Xr HD.o HZ1.o z4wa k hk;have hq:=A0u HZ1.o (.slice va vn vc) (.int .i64 0) (.int .i64 (m'.line:Nat)) (.slice fa fn fc) (.slice da dn dc);have x0:=A2 hq 0 _ rfl;have x1:=A2 hq 1 _ rfl;have x2:=A2 hq 2 _ rfl;have x3:=A2 hq 3 _ rfl;have x4:=A2 hq 4 _ rfl;refine bodyPost_ret (v:=.agg #[.slice va vn vc,.int .i64 0,.int .i64 (m'.line:Nat),.slice fa fn fc,.slice da dn dc]) (by simp[results,Tryz.results23,go_sem,x0,x1,x2,x3,x4]) rfl ?_;unfold Rr;refine⟨va,vn,vc,m'.line,fa,fn,fc,da,dn,dc,rfl,B4 HO.o (fun k hk _=>?_),B4 HF.o (fun k hk _=>?_),B4 HD.o (fun k hk _=>?_),?_⟩
 ·exact Wz _ _ _ _ _ (hne k hk)
 ·exact Wz _ _ _ _ _ (hnf k hk)
 ·exact Wz _ _ _ _ _ (hnd k hk)
 ·exact Adb (Nat.le_refl _) (Af.o.trans (HB.o.mono z4va)) _ _ _ _ _
theorem Ak2{P:D7}{bets:List Cx}{n:Nat}{m':MS}(hr:Iy P (bets.take 20) n (mstart P)=some m')(hok:P3 P (bets.take 20) n (mstart P))(hml:m'.lots.length<=1000)(hst:∀f∈P.fns,f.steps.length<=90000)(hN:P.fns.length<=1000)(hG:P.globals<=1000)(hS:P.slots<=1000)(hc:m'.code=0):Vk P bets m'.out:=by
 intro w gb E v hpg hE ht hb;refine(A3m hr hok hml hst hN hG hS hc w gb E v hpg hE ht hb).mono ?_;rintro e w' ⟨va,vn,vc,line,fa,fn,fc,da,dn,dc,he,h1,_,_,h4⟩;exact⟨va,vn,vc,line,_,_,he,⟨fa,fn,fc,da,dn,dc,rfl,rfl⟩,h1,h4⟩
theorem Ajy:Vk Jj [] Q9:=by
 obtain⟨m',h1,h2,h3⟩:=A8q;have hl:=A3l Wx (fun x h=>by cases h) h1;have:=Ak2 (bets:=[]) (n:=22) h1 Agu (by rw[hl];show(1:Nat)<=1000;omega) (fun f hf=>by simp only[Jj,List.mem_singleton]at hf;rw[hf];show(5:Nat)<=90000;omega) (by show(1:Nat)<=1000;omega) (by show(0:Nat)<=1000;omega) (by show(0:Nat)<=1000;omega) h2;rw[h3]at this;exact this
theorem Ajf:Vj Nh [] Q9:=by
 obtain⟨c,h1,h2⟩:=Ap6;exact Ajg Ah9 h1 h2 Ajy
end
end Go.Proofs.YtjdlndhfaaolaaaGreatDoor
