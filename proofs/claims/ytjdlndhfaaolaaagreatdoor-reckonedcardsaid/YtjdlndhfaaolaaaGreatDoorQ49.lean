import Derived.Test.YtjdlndhfaaolaaaGreatDoorQ48
set_option maxHeartbeats 20000000
namespace Go.Proofs.YtjdlndhfaaolaaaGreatDoor
section
set_option maxRecDepth 100000
open Go.RowKit
open Go.Deep (BT)
variable {C:MC} {D X:Nat->Prop} {w w':World} {m:MS} {β:Nat->Nat}
def MQ(C:MC)(D X:Nat->Prop)(β:Nat->Nat)(w:World)(m:MS)(r:Value)(e:Ending)(w':World):Prop:=e=.returned r/\(∃D':Nat->Prop,(∀g,D g->D' g)/\C.Ms D' X β w' m)/\A3 (dx D X) w w'
theorem MQ.of{r:Value}{e:Ending}(h:MP C D X β w m r e w'):MQ C D X β w m r e w':=⟨h.1,⟨D,fun _ h=>h,h.2.1⟩,h.2.2⟩
theorem Aef(h:C.Ms D X β w m)(i:Ad)(hf:m.fuel=0):Calls Tryz.prog 159 #[.pointer (some ⟨C.mb,0,none⟩),Ac i] w (MP C D X β w (m.fail 8 i) (.tuple #[])):=by
 obtain⟨w0,Aq,Av,Ae,As,Aw,n0,n1,n2,n3,n4,n5,n6,n7,ln,lb,Ce⟩:=h.Ch i;clear h;have HSp:=A0 (Yy Av.o i hf);unfold Ac at HSp;clear hf;unfold Ac;go_enter Tryz.func159,Tryz.ntmps159;go_wp2_with fail
 rw[←Aq.o];refine HSp.o.mono ?_;rintro e w1 ⟨rfl,h1,k1⟩;have A9:=A0 h1.back;have A5:Hid (A3 (dx D X) w w1):=Ae.o.trans (Ag k1);clear h1 k1;go_wp2;refine bodyPost_ret (v:=.tuple #[]) (by simp[results,Tryz.results159,go_sem]) rfl ?_;exact⟨rfl,A9.o,A5.o⟩
theorem Ami(h:C.Ms D X β w m)(i:Ad)(hf:m.fuel≠0)(hf2:m.fuel<=100000)(hd:m.calls.length=40):Calls Tryz.prog 159 #[.pointer (some ⟨C.mb,0,none⟩),Ac i] w (MP C D X β w ({ m with fuel:=m.fuel-1 }.fail 9 i) (.tuple #[])):=by
 obtain⟨w0,Aq,Av,Ae,As,Aw,n0,n1,n2,n3,n4,n5,n6,n7,ln,lb,Ce⟩:=h.Ch i;clear h;have HSp:=A0 (Rw Av.o i hf hf2);unfold Ac at HSp;have td:(((m.calls.length:Nat):Int)==40)=true:=by rw[hd];rfl
 clear hf hf2 hd;unfold Ac;go_enter Tryz.func159,Tryz.ntmps159;go_wp2_with fail
 rw[←Aq.o];refine HSp.o.mono ?_;rintro e w1 ⟨rfl,h1,k1⟩;have Bt:=h1.B7;have A9:=A0 h1;have A5:Hid (A3 (dx D X) w w1):=Ae.o.trans (Ag k1);have Ab:=(k1.block _ As.o).trans Aw.o;have Br:=A0 Ab;clear n0 n1 n2 n3 n4 n5 n6 n7 ln;obtain⟨n0,n1,n2,n3,n4,n5,n6,n7,ln⟩:=B9 Ab;clear h1 k1 Ab;have HFl:=A0 A9.o.Zb;go_wp2_with fail
 refine HFl.o.mono ?_;rintro e w9 ⟨rfl,Dj⟩;rw[Dj];clear Dj w9;have Ay:=A0 (fun(W:World) (hb:Below w1.heap.size w1 W)=>And.intro ((fun hs=>Jg hs 9 i) (A9.o.below hb).1) (A5.o.trans (Ag (A9.o.below hb).2)));unfold Ac at Ay;go_wp2_with fail
 refine((Ay.o _ (by repeat (first|exact Below.refl _ _|refine Below.alloc ?_ (by simp) _|refine Below.setCell ?_ (by simp) _|refine Below.drew ?_))).1).mono ?_;rintro e w2 ⟨rfl,h2,k2⟩;have Ak:=A0 h2.back;have Aa:Hid (A3 (dx D X) w w2):=(Ay.o _ (by repeat (first|exact Below.refl _ _|refine Below.alloc ?_ (by simp) _|refine Below.setCell ?_ (by simp) _|refine Below.drew ?_))).2.trans (Ag k2);clear h2 k2;go_wp2;refine bodyPost_ret (v:=.tuple #[]) (by simp[results,Tryz.results159,go_sem]) rfl ?_;exact⟨rfl,Ak.o,Aa.o⟩
theorem Acj(h:C.Ms D X β w m)(i:Ad)(hf:m.fuel≠0)(hf2:m.fuel<=100000)(hd:m.calls.length<40){j:Nat}(hj:i.arg=(j:Nat)){f:Fn}(hfn:C.P.fns[j]?=some f){l:Gs}(hl:m.lots[j]?=some l){bets:List Dg}(hb:It X w (.slice C.ba C.bn C.bc) bets)(hbl:bets.length<=1000)
  (hfit:∀f∈C.P.fns,Mz C.P.fns.length 1000 f) (hst:f.steps.length<=90000) (hN:C.P.fns.length<=1000000) (hfo:∀fo,l.form=some fo->Pj C.P.fns.length 1000 fo) (hv:m.vals.length<=80000) (hc:l.calls<=80000/\l.fast<=80000/\l.drops<=80000):Calls Tryz.prog 159 #[.pointer (some ⟨C.mb,0,none⟩),Ac i] w (MQ C D X β w (MS.body C.P bets j f { m with fuel:=m.fuel-1,calls:=m.calls++[m.now] }) (.tuple #[])):=by
 obtain⟨w0,Aq,Av,Ae,As,Aw,n0,n1,n2,n3,n4,n5,n6,n7,ln,lb,Ce⟩:=h.Ch i;clear h;rw[hj]at n1 Aw Aq;have HSp:=A0 (Rw Av.o i hf hf2);unfold Ac at HSp;rw[hj]at HSp;have td:(((m.calls.length:Nat):Int)==40)=false:=by rw[beq_eq_false_iff_ne];omega
 clear hf hf2;unfold Ac;rw[hj];have HJ:=A0 hj;clear hj;go_enter Tryz.func159,Tryz.ntmps159;go_wp2_with fail
 rw[←Aq.o];refine HSp.o.mono ?_;rintro e w1 ⟨rfl,h1,k1⟩;have Bt:=h1.B7;have A9:=A0 h1;have A5:Hid (A3 (dx D X) w w1):=Ae.o.trans (Ag k1);have Ab:=(k1.block _ As.o).trans Aw.o;have Br:=A0 Ab;clear n0 n1 n2 n3 n4 n5 n6 n7 ln;obtain⟨n0,n1,n2,n3,n4,n5,n6,n7,ln⟩:=B9 Ab;clear h1 k1 Ab;have HFl:=A0 A9.o.Zb;go_wp2_with fail
 refine HFl.o.mono ?_;rintro e w9 ⟨rfl,Dj⟩;rw[Dj];clear Dj w9;obtain⟨x1,Et,g6,g7,g8,gz⟩:=A9.o.Rt;have Ir:=A0 Et;clear Et;have HPu:=A0 (A9.o.Jo.Aiw x1 m.now (Ir.o.keep (w':=w1.drew) (D':=D) (fun g hg _=>⟨rfl,hg⟩)) (by simp;omega));unfold R6 at HPu;go_wp2;refine Ji 7 (by kernel_rfl) (by kernel_rfl) ?_;simp only[List.take_succ_cons,List.take_zero,List.drop_succ_cons,List.drop_zero];iterate 7 (refine Fa (fun K' hK'=>?_);go_simp;refine hK' _ ?_;clear hK' K')
 refine Jk ?_;go_wp2_with fail
 refine HPu.o.mono ?_;rintro e w2 ⟨rfl,h2,k2⟩;have Aa:Hid (A3 (dx D X) w w2):=A5.o.trans ((E6 _ w1 1).trans (Ag k2));have Ax:=(k2.block _ As.o).trans Br.o;clear n0 n1 n2 n3 n4 n5 n6 n7 ln g6 g7 g8 gz HPu;obtain⟨n0,n1,n2,n3,n4,n5,n6,n7,ln⟩:=B9 Ax;have Ek:=h2.B7;obtain⟨g0,hprg,_⟩:=h2.Np;obtain⟨hbk,hck,_,_,_,p3,hcc3,hDp,hDb,lp,lh,hlt,e1,_,_,_⟩:=hprg.Sg hfn;have HBo:=A0 (Adp h2.Jo hfn (l:=l) hl ((hb.keep (K':=E9 X w) (w':=w2.drew) (fun g hg _=>⟨Aa.o.block g (.inr hg),.inl hg⟩) Aa.o.size)) hbl hfit hst hN (fun fo hfo'=>⟨(hfo fo hfo').2.2.2,(hfo fo hfo').2.1,(hfo fo hfo').1⟩) (by show m.vals.length<=100000;omega) hc);have hpar:f.params<=1000:=by have:=(hfit f (List.mem_of_getElem? hfn)).1;have:=(hfit f (List.mem_of_getElem? hfn)).2.1;omega
 have Ak:=A0 h2;clear h2 k2 Ax hprg hb;go_wp2;go_region_law (first
  | (refine Fj rfl 57 _ _ rfl #[.pointer (some ⟨C.mb,0,none⟩),.pointer (some ⟨bb,oo,none⟩),.int .i64 (f.params:Nat)] (by kernel_rfl) HBg.o ?_;rintro e w4 ⟨rfl,h4,k4⟩;refine⟨_,rfl,?_⟩;have Ep:=A0 h4.back;have Ci:Hid (A3 (dx D X) w w4):=At.o.trans (k4.weak (fun g hg=>hg.imp (fun q=>hDD g q) .inl));clear h4 k4)
  | (refine Fj rfl 204 _ _ rfl #[.pointer (some ⟨C.mb,0,none⟩),.int .i64 (j:Nat)] (by kernel_rfl) HBo.o ?_;rintro e w3 ⟨D',l',bb,oo,slots,steps,sa,sn,sc,hDD,h3,k3,hBd,hsl,rfl,heq⟩;refine⟨_,rfl,?_⟩;have HBg:=A0 (A1w h3 hBd (args:=f.params) (by omega) (by omega) (by show m.vals.length+slots<=90000;omega));have At:Hid (A3 (dx D X) w w3):=Aa.o.trans ((E6 _ w2 1).trans (Ag k3));have HEq:=A0 heq;have lb3:=h3.B7;have e13:=(World.cell?_of_block (k3.block hbk (.inl hDb))).trans e1;have p33:=(World.cell?_of_block (k3.block C.pb (.inl hDp))).trans p3;obtain⟨g03,_,_⟩:=h3.Np;have lh3:=block_lt_of_cell e13;have lp3:=block_lt_of_cell p33;have Cp:=k3.block w.heap.size As.o;have n13:=(World.cell?_of_block Cp).trans n1;have ln3:=block_lt_of_cell n13;clear h3 k3 hBd heq Cp))
 all_goals go_wp2
 all_goals go_end0
 all_goals refine⟨rfl,⟨D',hDD,?_⟩,Ci.o⟩
 all_goals rw[HEq.o]
 all_goals exact Ep.o
end
end Go.Proofs.YtjdlndhfaaolaaaGreatDoor
