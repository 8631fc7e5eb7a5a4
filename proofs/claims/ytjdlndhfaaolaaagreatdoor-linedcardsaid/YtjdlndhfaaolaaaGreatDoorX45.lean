import Derived.Test.YtjdlndhfaaolaaaGreatDoorX44
set_option maxHeartbeats 20000000
namespace Go.Proofs.YtjdlndhfaaolaaaGreatDoor
section
set_option maxRecDepth 100000
open Go.RowKit
open Go.Deep (BT)
variable {C:MC} {D X:Nat->Prop} {w w':World} {m:MS} {β:Nat->Nat}
def MQ(C:MC)(D X:Nat->Prop)(β:Nat->Nat)(w:World)(m:MS)(r:Value)(e:Ending)(w':World):Prop:=e=.returned r/\(∃D':Nat->Prop,(∀g,D g->D' g)/\C.Ms D' X β w' m)/\A2 (dx D X) w w'
theorem MQ.of{r:Value}{e:Ending}(h:MP C D X β w m r e w'):MQ C D X β w m r e w':=⟨h.1,⟨D,fun _ h=>h,h.2.1⟩,h.2.2⟩
theorem A6a(h:C.Ms D X β w m)(i:Af)(hf:m.fuel=0):Calls Tryz.prog 159 #[.pointer (some ⟨C.mb,0,none⟩),Ag i] w (MP C D X β w (m.fail 8 i) (.tuple #[])):=by
 obtain⟨w0,Ap,Aq,Ae,Ao,As,n0,n1,n2,n3,n4,n5,n6,n7,ln,lb,C9⟩:=h.Ca i;clear h;have HSp:=A0 (A23 Aq.o i hf);unfold Ag at HSp;clear hf;unfold Ag;go_enter Tryz.func159,Tryz.ntmps159;go_wp2_with fail
 rw[←Ap.o];refine HSp.o.mono ?_;rintro e w1 ⟨rfl,h1,k1⟩;have A8:=A0 h1.back;have A4:Hid (A2 (dx D X) w w1):=Ae.o.trans (Ac k1);clear h1 k1;go_wp2;refine bodyPost_ret (v:=.tuple #[]) (by simp[results,Tryz.results159,go_sem]) rfl ?_;exact z4ba
theorem A69(h:C.Ms D X β w m)(i:Af)(hf:m.fuel≠0)(hf2:m.fuel<=100000)(hd:m.calls.length=40):Calls Tryz.prog 159 #[.pointer (some ⟨C.mb,0,none⟩),Ag i] w (MP C D X β w ({ m with fuel:=m.fuel-1 }.fail 9 i) (.tuple #[])):=by
 obtain⟨w0,Ap,Aq,Ae,Ao,As,n0,n1,n2,n3,n4,n5,n6,n7,ln,lb,C9⟩:=h.Ca i;clear h;have HSp:=A0 (Tx Aq.o i hf hf2);unfold Ag at HSp;have td:(((m.calls.length:Nat):Int)==40)=true:=by rw[hd];rfl
 clear hf hf2 hd;unfold Ag;go_enter Tryz.func159,Tryz.ntmps159;go_wp2_with fail
 rw[←Ap.o];refine HSp.o.mono ?_;rintro e w1 ⟨rfl,h1,k1⟩;have Bk:=h1.At;have A8:=A0 h1;have A4:Hid (A2 (dx D X) w w1):=Ae.o.trans (Ac k1);have Ad:=(k1.block _ Ao.o).trans As.o;have C1:=A0 Ad;clear n0 n1 n2 n3 n4 n5 n6 n7 ln;obtain⟨n0,n1,n2,n3,n4,n5,n6,n7,ln⟩:=Bj Ad;clear h1 k1 Ad;have HFl:=A0 A8.o.A0u;go_wp2_with fail
 refine HFl.o.mono ?_;rintro e w9 ⟨rfl,hw9⟩;rw[hw9];clear hw9 w9;have B4:=A0 (fun(W:World) (hb:Below w1.heap.size w1 W)=>And.intro ((fun hs=>I6 hs 9 i) (A8.o.below hb).1) (A4.o.trans (Ac (A8.o.below hb).2)));unfold Ag at B4;go_wp2_with fail
 refine((B4.o _ z4ua).1).mono ?_;rintro e w2 ⟨rfl,h2,k2⟩;have Ah:=A0 h2.back;have Aa:Hid (A2 (dx D X) w w2):=(B4.o _ z4ua).2.trans (Ac k2);clear h2 k2;go_wp2;refine bodyPost_ret (v:=.tuple #[]) (by simp[results,Tryz.results159,go_sem]) rfl ?_;exact z4aa
theorem A68(h:C.Ms D X β w m)(i:Af)(hf:m.fuel≠0)(hf2:m.fuel<=100000)(hd:m.calls.length<40){j:Nat}(hj:i.arg=(j:Nat)){f:Fn}(hfn:C.P.fns[j]?=some f){l:Fs}(hl:m.lots[j]?=some l){bets:List Da}(hb:J9 X w (.slice C.ba C.bn C.bc) bets)(hfit:∀f∈C.P.fns,Oz C.P.fns.length 5000 f)(hBody:V3 C D bets l j f)(hv:m.vals.length<=80000000000):Calls Tryz.prog 159 #[.pointer (some ⟨C.mb,0,none⟩),Ag i] w (MQ C D X β w (MS.body C.P bets j f { m with fuel:=m.fuel-1,calls:=m.calls++[m.now] }) (.tuple #[])):=by
 obtain⟨w0,Ap,Aq,Ae,Ao,As,n0,n1,n2,n3,n4,n5,n6,n7,ln,lb,C9⟩:=h.Ca i;clear h;rw[hj]at n1 As Ap;have HSp:=A0 (Tx Aq.o i hf hf2);unfold Ag at HSp;rw[hj]at HSp;have td:(((m.calls.length:Nat):Int)==40)=false:=by rw[beq_eq_false_iff_ne];omega
 clear hf hf2;unfold Ag;rw[hj];have HJ:=A0 hj;clear hj;go_enter Tryz.func159,Tryz.ntmps159;go_wp2_with fail
 rw[←Ap.o];refine HSp.o.mono ?_;rintro e w1 ⟨rfl,h1,k1⟩;have Bk:=h1.At;have A8:=A0 h1;have A4:Hid (A2 (dx D X) w w1):=Ae.o.trans (Ac k1);have Ad:=(k1.block _ Ao.o).trans As.o;have C1:=A0 Ad;clear n0 n1 n2 n3 n4 n5 n6 n7 ln;obtain⟨n0,n1,n2,n3,n4,n5,n6,n7,ln⟩:=Bj Ad;clear h1 k1 Ad;have HFl:=A0 A8.o.A0u;go_wp2_with fail
 refine HFl.o.mono ?_;rintro e w9 ⟨rfl,hw9⟩;rw[hw9];clear hw9 w9;obtain⟨x1,Dm,g6,g7,g8,gz⟩:=A8.o.U1;have Gz:=A0 Dm;clear Dm;have HPu:=A0 (A8.o.Hy.Acw x1 m.now (Gz.o.keep (w':=w1.drew) (D':=D) (fun g hg _=>⟨rfl,hg⟩)) z4za);unfold Rl at HPu;go_wp2;refine Jr 7 z4va z4va ?_;simp only[List.take_succ_cons,List.take_zero,List.drop_succ_cons,List.drop_zero];iterate 7 (refine F4 (fun K' hK'=>?_);go_simp;refine hK' _ ?_;clear hK' K')
 refine Jq ?_;go_wp2_with fail
 refine HPu.o.mono ?_;rintro e w2 ⟨rfl,h2,k2⟩;have Aa:Hid (A2 (dx D X) w w2):=A4.o.trans ((Dk _ w1 1).trans (Ac k2));have Bl:=(k2.block _ Ao.o).trans C1.o;clear n0 n1 n2 n3 n4 n5 n6 n7 ln g6 g7 g8 gz HPu;obtain⟨n0,n1,n2,n3,n4,n5,n6,n7,ln⟩:=Bj Bl;have Eb:=h2.At;obtain⟨g0,hprg,_⟩:=h2.Yq;obtain⟨hbk,hck,_,_,_,p3,hcc3,hDp,hDb,lp,lh,hlt,e1,_,_,_⟩:=hprg.A0v hfn;have HBo:=A0 (hBody _ _ _ _ h2.Hy hl ((hb.keep (K':=Cu X w) (w':=w2.drew) (fun g hg _=>⟨Aa.o.block g (.inr hg),.inl hg⟩) Aa.o.size)) (by show m.vals.length<=90000000000;omega));have hpar:f.params<=5000:=by have:=(hfit f (List.mem_of_getElem? hfn)).1;have:=(hfit f (List.mem_of_getElem? hfn)).2.1;omega
 have Ah:=A0 h2;clear h2 k2 Bl hprg hb;go_wp2;go_region_law (first
  | (refine Fg rfl 57 _ _ rfl #[.pointer (some ⟨C.mb,0,none⟩),.pointer (some ⟨bb,oo,none⟩),.int .i64 (f.params:Nat)] z4va HBg.o ?_;rintro e w4 ⟨rfl,h4,k4⟩;refine⟨_,rfl,?_⟩;have El:=A0 h4.back;have Cs:Hid (A2 (dx D X) w w4):=Ay.o.trans (k4.weak (fun g hg=>hg.imp (fun q=>hDD g q) .inl));clear h4 k4)
  | (refine Fg rfl 204 _ _ rfl #[.pointer (some ⟨C.mb,0,none⟩),.int .i64 (j:Nat)] z4va HBo.o ?_;rintro e w3 ⟨D',l',bb,oo,slots,steps,sa,sn,sc,hDD,h3,k3,hBd,hsl,rfl,heq⟩;refine⟨_,rfl,?_⟩;have HBg:=A0 (A1t h3 hBd (args:=f.params) z4sa z4sa (by show m.vals.length+slots<=90000000000;omega));have Ay:Hid (A2 (dx D X) w w3):=Aa.o.trans ((Dk _ w2 1).trans (Ac k3));have HEq:=A0 heq;have lb3:=h3.At;have e13:=(World.cell?_of_block (k3.block hbk (.inl hDb))).trans e1;have p33:=(World.cell?_of_block (k3.block C.pb (.inl hDp))).trans p3;obtain⟨g03,_,_⟩:=h3.Yq;have lh3:=block_lt_of_cell e13;have lp3:=block_lt_of_cell p33;have J1:=k3.block w.heap.size Ao.o;have n13:=(World.cell?_of_block J1).trans n1;have ln3:=block_lt_of_cell n13;clear h3 k3 hBd heq J1))
 all_goals go_wp2
 all_goals go_end0
 all_goals refine⟨rfl,⟨D',hDD,?_⟩,Cs.o⟩
 all_goals rw[HEq.o]
 all_goals exact El.o
end
end Go.Proofs.YtjdlndhfaaolaaaGreatDoor
