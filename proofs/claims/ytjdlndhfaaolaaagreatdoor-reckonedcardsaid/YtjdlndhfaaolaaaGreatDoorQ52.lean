import Derived.Test.YtjdlndhfaaolaaaGreatDoorQ51
set_option maxHeartbeats 20000000
namespace Go.Proofs.YtjdlndhfaaolaaaGreatDoor
section
set_option maxRecDepth 100000
open Go.RowKit
open Go.Deep (BT)
theorem A2m{w:World}(h:G8 w):Js<w.heap.size:=by
 unfold G8 Lib.TabIs World.var? at h;rw[Ud]at h;simp only[Option.bind_some]at h;split at h
 ·rename_i hh;exact A4 hh
 ·cases h
theorem Ajn{w:World}{b k:Nat}(v0 v1 v2 v3 v4:Value)(h:k≠b):(((((w.setCell ⟨b,0,none⟩ v0).setCell ⟨b,1,none⟩ v1).setCell ⟨b,2,none⟩ v2).setCell ⟨b,3,none⟩ v3).setCell ⟨b,4,none⟩ v4).heap[k]?=w.heap[k]?:=
 ((((Below.heap_setCell _ _ _ _ h).trans (Below.heap_setCell _ _ _ _ h)).trans (Below.heap_setCell _ _ _ _ h)).trans (Below.heap_setCell _ _ _ _ h)).trans (Below.heap_setCell _ _ _ _ h)
theorem Amt{w w':World}{B b:Nat}(hB:B<=b)(h:Below B w w')(v0 v1 v2 v3 v4:Value):Below B w (((((w'.setCell ⟨b,0,none⟩ v0).setCell ⟨b,1,none⟩ v1).setCell ⟨b,2,none⟩ v2).setCell ⟨b,3,none⟩ v3).setCell ⟨b,4,none⟩ v4):=
 Below.setCell (Below.setCell (Below.setCell (Below.setCell (Below.setCell h hB _) hB _) hB _) hB _) hB _
theorem Zs{P:Db}{bets:List Dg}{n:Nat}{m':MS}(hr:Jv P (bets.take 20) n (mstart P)=some m')(hok:Nw P (bets.take 20) n (mstart P))(hml:m'.lots.length<=1000)(hst:∀f∈P.fns,f.steps.length<=90000)(hN:P.fns.length<=1000)(hG:P.globals<=1000)(hS:P.slots<=1000)(hc:m'.code=0):To P bets m'.out:=by
 intro w gb E v hpg hE ht hb;obtain⟨a,cc,rfl,hcc,hb'⟩:=id hb;obtain⟨pb,hEg,hgb,hp⟩:=hpg;obtain⟨w0,Cq⟩:∃w0,w0=w.alloc (.cells #[.slice none 0 0,.int .i64 0,.int .i64 0,.slice none 0 0,.slice none 0 0] 54):=⟨_,rfl⟩;have Fp:w0.heap.size=w.heap.size+1:=by rw[Cq];simp
 have Bi:Below w.heap.size w w0:=by rw[Cq];exact Jn _ _
 have Hx:w0.heap[w.heap.size]?=some (.cells #[.slice none 0 0,.int .i64 0,.int .i64 0,.slice none 0 0,.slice none 0 0] 54 (0,0)):=by rw[Cq];exact heap_alloc_new _ _
 have ht0:=ht.keep Bi;have HR:=A0 (Ag2 hr hok hml hst hN hG hS (hp.keep (fun k hk hl=>⟨Bi.block k hl,hk⟩)) (fun g hg=>by have:=hE g hg;omega) ht0 (A2m ht0) (hb.below Bi));have cg:=A2 hgb 0 _ rfl;have lg:=A4 hgb;have HC:=A0 hc;have HW:=A0 Cq;have HZ:=A0 Hx;have Ae:=A0 Bi;clear hr hok hml hst hN hG hS hp hE ht ht0 hb hb' hgb hc Cq Hx Bi;go_enter Tryz.func23,Tryz.ntmps23;go_wp2_with fail
 rw[←HW.o];refine HR.o.mono ?_;rintro e w1 ⟨va,vn,vc,fv,dv,rfl,hfd,ho,hbl⟩;obtain⟨fa,fn,fc,da,dn,dc,rfl,rfl⟩:=hfd;rw[HC.o];have Bv:=(hbl.block w.heap.size (by omega)).trans HZ.o;have ls:=hbl.size;obtain⟨m0,f0⟩:=And.intro (A2 Bv 0 _ rfl) (Bd Bv);have m1:=A2 Bv 1 _ rfl;have m2:=A2 Bv 2 _ rfl;have m3:=A2 Bv 3 _ rfl;have m4:=A2 Bv 4 _ rfl;have lz:=A4 Bv;have HO:=A0 ho;have HB:=A0 hbl;have HZ1:=A0 Bv;clear ho hbl Bv HR;go_wp2;have hne:∀k,(Value.slice va vn vc).ownBlock=some k->k≠w.heap.size:=by
  intro k hk e;obtain⟨_,h1|⟨g,cap,cur,hv,_,hg,_⟩⟩:=HO.o
  ·rw[h1.1]at hk;cases hk
  ·rw[hv]at hk;have hgk:g=k:=by simpa [Value.ownBlock]using hk
   rw[hgk,e,HZ1.o]at hg;injection hg with hg;injection hg with _ ht;cases ht
 have hq:=Wx HZ1.o (.slice va vn vc) (.int .i64 0) (.int .i64 (m'.line:Nat)) (.slice fa fn fc) (.slice da dn dc);have x0:=A2 hq 0 _ rfl;have x1:=A2 hq 1 _ rfl;have x2:=A2 hq 2 _ rfl;have x3:=A2 hq 3 _ rfl;have x4:=A2 hq 4 _ rfl;refine bodyPost_ret (v:=.agg #[.slice va vn vc,.int .i64 0,.int .i64 (m'.line:Nat),.slice fa fn fc,.slice da dn dc]) (by simp[results,Tryz.results23,go_sem,x0,x1,x2,x3,x4]) rfl ?_;refine⟨va,vn,vc,m'.line,_,_,rfl,⟨fa,fn,fc,da,dn,dc,rfl,rfl⟩,B3 HO.o (fun k hk _=>?_),?_⟩
 ·exact Ajn _ _ _ _ _ (hne k hk)
 ·exact Amt (Nat.le_refl _) (Ae.o.trans (HB.o.mono (by omega))) _ _ _ _ _
theorem Ae3:To J7 [] O3:=by
 obtain⟨m',h1,h2,h3⟩:=Ada;have hl:=A0l Ve (fun x h=>by cases h) h1;have:=Zs (bets:=[]) (n:=22) h1 (A3n 22 (by omega)) (by rw[hl];show(1:Nat)<=1000;omega) (fun f hf=>by simp only[J7,List.mem_singleton]at hf;rw[hf];show(5:Nat)<=90000;omega) (by show(1:Nat)<=1000;omega) (by show(0:Nat)<=1000;omega) (by show(0:Nat)<=1000;omega) h2;rw[h3]at this;exact this
theorem Aen:Pa M3 [] O3:=by
 obtain⟨c,h1,h2⟩:=Ajh;exact X8 Abc h1 h2 Ae3
theorem Ai3(a b:Int)(ha:D7 a)(hb:D7 b)(kinds is:List Int)(hi:∀n∈is,D7 n):To (Kb (C0 a) (C0 b)) (K6 a b kinds is) (Hp a b++Hp a b):=by
 obtain⟨n,m',hn,h1,h2,h3⟩:=A3u a b ha hb kinds is;have hbt:∀x∈K6 a b kinds is,M7 x:=by
  intro x hx;simp only[K6,List.mem_cons,List.not_mem_nil,or_false]at hx;rcases hx with rfl|rfl
  ·exact hi
  ·intro n hn;simp only[List.mem_cons,List.not_mem_nil,or_false]at hn;rcases hn with rfl|rfl
   ·exact ha
   ·exact hb
 have ht:(K6 a b kinds is).take 20=K6 a b kinds is:=rfl;have hl:=A0l (Tu a b ha hb) hbt h1;have:=Zs (bets:=K6 a b kinds is) (n:=n) (by rw[ht];exact h1) (by rw[ht];exact Ab5 a b ha hb _ hbt n (by omega)) (by rw[hl];show(1:Nat)<=1000;omega) (fun f hf=>by simp only[Kb,List.mem_singleton]at hf;rw[hf];show Fi.length<=90000;decide) (by show(1:Nat)<=1000;omega) (by show(0:Nat)<=1000;omega) (by show(0:Nat)<=1000;omega) h2;rw[h3]at this;exact this
theorem Aj4(a b:Int)(ha:D7 a)(hb:D7 b)(kinds is:List Int)(hi:∀n∈is,D7 n):Pa (Lo a b) (K6 a b kinds is) (Hp a b++Hp a b):=by
 obtain⟨c,h1,h2⟩:=Akv a b ha hb;exact X8 (Amv a b ha hb) h1 h2 (Ai3 a b ha hb kinds is hi)
end
end Go.Proofs.YtjdlndhfaaolaaaGreatDoor
