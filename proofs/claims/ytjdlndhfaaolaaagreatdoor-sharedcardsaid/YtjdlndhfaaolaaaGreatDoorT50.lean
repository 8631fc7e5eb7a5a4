import Derived.Test.YtjdlndhfaaolaaaGreatDoorT49
set_option maxHeartbeats 20000000
namespace Go.Proofs.YtjdlndhfaaolaaaGreatDoor
section
set_option maxRecDepth 100000
open Go.RowKit
open Go.Deep (BT)
theorem A48{w:World}(h:Gb w):Ju<w.heap.size:=by
 unfold Gb Lib.TabIs World.var? at h;rw[Yc]at h;simp only[Option.bind_some]at h;split at h
 ·rename_i hh;exact A5 hh
 ·cases h
theorem Acw{w:World}{b k:Nat}(v0 v1 v2 v3 v4:Value)(h:k≠b):(((((w.setCell ⟨b,0,none⟩ v0).setCell ⟨b,1,none⟩ v1).setCell ⟨b,2,none⟩ v2).setCell ⟨b,3,none⟩ v3).setCell ⟨b,4,none⟩ v4).heap[k]?=w.heap[k]?:=
 ((((Below.heap_setCell _ _ _ _ h).trans (Below.heap_setCell _ _ _ _ h)).trans (Below.heap_setCell _ _ _ _ h)).trans (Below.heap_setCell _ _ _ _ h)).trans (Below.heap_setCell _ _ _ _ h)
theorem Acv{w w':World}{B b:Nat}(hB:B<=b)(h:Below B w w')(v0 v1 v2 v3 v4:Value):Below B w (((((w'.setCell ⟨b,0,none⟩ v0).setCell ⟨b,1,none⟩ v1).setCell ⟨b,2,none⟩ v2).setCell ⟨b,3,none⟩ v3).setCell ⟨b,4,none⟩ v4):=
 Below.setCell (Below.setCell (Below.setCell (Below.setCell (Below.setCell h hB _) hB _) hB _) hB _) hB _
theorem A3h{P:Dl}{bets:List Dc}{n:Nat}{m':MS}(hr:J1 P (bets.take 20) n (mstart P)=some m')(hok:Pg P (bets.take 20) n (mstart P))(hml:m'.lots.length<=1000)(hst:∀f∈P.fns,f.steps.length<=90000)(hN:P.fns.length<=1000)(hG:P.globals<=1000)(hS:P.slots<=1000)(hc:m'.code=0):Sz P bets m'.out:=by
 intro w gb E v hpg hE ht hb;obtain⟨a,cc,rfl,hcc,hb'⟩:=id hb;obtain⟨pb,hEg,hgb,hp⟩:=hpg;obtain⟨w0,D5⟩:∃w0,w0=w.alloc (.cells #[.slice none 0 0,.int .i64 0,.int .i64 0,.slice none 0 0,.slice none 0 0] 54):=⟨_,rfl⟩;have Gt:w0.heap.size=w.heap.size+1:=by rw[D5];simp
 have Bj:Below w.heap.size w w0:=by rw[D5];exact Jr _ _
 have Hu:w0.heap[w.heap.size]?=some (.cells #[.slice none 0 0,.int .i64 0,.int .i64 0,.slice none 0 0,.slice none 0 0] 54 (0,0)):=by rw[D5];exact heap_alloc_new _ _
 have ht0:=ht.keep Bj;have HR:=A0 (Afz hr hok hml hst hN hG hS (hp.keep (fun k hk hl=>⟨Bj.block k hl,hk⟩)) (fun g hg=>by have:=hE g hg;omega) ht0 (A48 ht0) (hb.below Bj));have cg:=A2 hgb 0 _ rfl;have lg:=A5 hgb;have HC:=A0 hc;have HW:=A0 D5;have HZ:=A0 Hu;have Ah:=A0 Bj;clear hr hok hml hst hN hG hS hp hE ht ht0 hb hb' hgb hc D5 Hu Bj;go_enter Tryz.func23,Tryz.ntmps23;go_wp2_with fail
 rw[<-HW.o];refine HR.o.mono ?_;rintro e w1 ⟨va,vn,vc,fv,dv,rfl,hfd,ho,hbl⟩;obtain⟨fa,fn,fc,da,dn,dc,rfl,rfl⟩:=hfd;rw[HC.o];have C1:=(hbl.block w.heap.size z51a).trans HZ.o;have ls:=hbl.size;obtain⟨m0,f0⟩:=And.intro (A2 C1 0 _ rfl) (Bh C1);have m1:=A2 C1 1 _ rfl;have m2:=A2 C1 2 _ rfl;have m3:=A2 C1 3 _ rfl;have m4:=A2 C1 4 _ rfl;have lz:=A5 C1;have HO:=A0 ho;have HB:=A0 hbl;have HZ1:=A0 C1;clear ho hbl C1 HR;go_wp2;have hne:∀k,(Value.slice va vn vc).ownBlock=some k->k≠w.heap.size:=by
  intro k hk e;obtain⟨_,h1|⟨g,cap,cur,hv,_,hg,_⟩⟩:=HO.o
  ·rw[h1.1]at hk;cases hk
  ·rw[hv]at hk;have hgk:g=k:=by simpa [Value.ownBlock]using hk
   rw[hgk,e,HZ1.o]at hg;injection hg with hg;injection hg with _ ht;cases ht
 have hq:=A0j HZ1.o (.slice va vn vc) (.int .i64 0) (.int .i64 (m'.line:Nat)) (.slice fa fn fc) (.slice da dn dc);have x0:=A2 hq 0 _ rfl;have x1:=A2 hq 1 _ rfl;have x2:=A2 hq 2 _ rfl;have x3:=A2 hq 3 _ rfl;have x4:=A2 hq 4 _ rfl;refine bodyPost_ret (v:=.agg #[.slice va vn vc,.int .i64 0,.int .i64 (m'.line:Nat),.slice fa fn fc,.slice da dn dc]) (by simp[results,Tryz.results23,go_sem,x0,x1,x2,x3,x4]) rfl ?_;refine⟨va,vn,vc,m'.line,_,_,rfl,⟨fa,fn,fc,da,dn,dc,rfl,rfl⟩,B8 HO.o (fun k hk _=>?_),?_⟩
 ·exact Acw _ _ _ _ _ (hne k hk)
 ·exact Acv (Nat.le_refl _) (Ah.o.trans (HB.o.mono z51a)) _ _ _ _ _
theorem Ajk:Sz Jg [] Pr:=by
 obtain⟨m',h1,h2,h3⟩:=A8j;have hl:=A3g Wm (fun x h=>by cases h) h1;have:=A3h (bets:=[]) (n:=22) h1 Agg (by rw[hl];show(1:Nat)<=1000;omega) (fun f hf=>by simp only[Jg,List.mem_singleton]at hf;rw[hf];show(5:Nat)<=90000;omega) (by show(1:Nat)<=1000;omega) (by show(0:Nat)<=1000;omega) (by show(0:Nat)<=1000;omega) h2;rw[h3]at this;exact this
theorem Aj1:Sy Na [] Pr:=by
 obtain⟨c,h1,h2⟩:=Ap3;exact A3c Ah2 h1 h2 Ajk
end
section
open Go.RowKit
open Go.Deep (BT)
theorem Ajl(rs:List Int)(k:Nat)(v:Int)(hl:rs.length<=12)(hr:∀r∈rs,Cf r)(hk:k<rs.length+1)(hv:Cf v):Sz (J3 rs k v) [bS k] (Pt (rs.length+1) v):=by
 have hki:Cf (k:Nat):=⟨by omega,by omega⟩;obtain⟨n,m',hn,h1,h2,h3,h4⟩:=Alo rs k v hr hl hk hv;have hf:=Acp rs k v hr hki hv;have hbt:∀x∈[bS (k:Nat)],Mm x:=by
  intro x hx;simp only[List.mem_singleton]at hx;rw[hx];intro y hy;simp only[bS,List.mem_cons,List.not_mem_nil,or_false]at hy;rcases hy with rfl|rfl
  ·exact Pa
  ·exact hki
 have hll:=A3g hf hbt h1;have:=A3h (P:=J3 rs k v) (bets:=[bS (k:Nat)]) (n:=n) h1 (A1x hf hbt z51a n 3 _ (X0 hf) h2 z51a) (by rw[hll];show(1:Nat)<=1000;omega) (fun f hf=>by simp only[J3,List.mem_singleton]at hf;rw[hf];show(13:Nat)<=90000;omega) (by show(1:Nat)<=1000;omega) (by show(4:Nat)<=1000;omega) (by show(0:Nat)<=1000;omega) h3;rw[h4]at this;exact this
theorem Aj2(rs:List Int)(k:Nat)(v:Int)(hl:rs.length<=12)(hr:∀r∈rs,Cf r)(hk:k<rs.length+1)(hv:Cf v):Sy (Mk rs k v) [bS k] (Pt (rs.length+1) v):=by
 have hki:Cf (k:Nat):=⟨by omega,by omega⟩;obtain⟨c,h1,h2⟩:=Ap5 rs k v hl hr z51a hki hv;exact A3c (Ah3 rs k v hl hr z51a hki hv) h1 h2 (Ajl rs k v hl hr hk hv)
end
end Go.Proofs.YtjdlndhfaaolaaaGreatDoor
