import Derived.Test.YtjdlndhfaaolaaaGreatDoorT16
import Derived.Test.YtjdlndhfaaolaaaGreatDoorT30
import Derived.Test.YtjdlndhfaaolaaaGreatDoorT33
set_option maxHeartbeats 20000000
namespace Go.Proofs.YtjdlndhfaaolaaaGreatDoor
section
set_option maxRecDepth 100000
open Go.RowKit
open Go.Deep (BT)
theorem Gb.keep{w w':World}(h:Gb w)(hb:Below w.heap.size w w'):Gb w':=Lib.tabBelow_of_tabIs h w' hb
def Ug(va:Option Addr)(vn vc:Nat):Value:=.tuple #[.slice va vn vc,.bool true]
def Sz(P:Dl)(bets:List Dc)(out:List (List UInt8)):Prop:=∀(w:World) (gb:Nat) (E:Nat->Prop) (v:Value),Yv E w gb P->(∀g,E g->g<w.heap.size)->Gb w->Iy Ni w v bets->
 Calls Tryz.prog 23 #[.pointer (some ⟨gb,0,none⟩),v] w fun e w'=>∃va vn vc line fv dv,e=.returned (.agg #[.slice va vn vc,.int .i64 0,.int .i64 (line:Nat),fv,dv])/\(∃fa fn fc da dn dc,fv=.slice fa fn fc/\dv=.slice da dn dc)/\w'.ownsRow 0 9 1 (.slice va vn vc) out.length (strs out)/\Below w.heap.size w w'
def Sy(l:List UInt8)(bets:List Dc)(out:List (List UInt8)):Prop:=∀(w:World) (v:Value),Ir w->4<=w.heap.size->Gb w->Iy Ni w v bets->
 Calls Tryz.prog 17 #[.string ⟨l.toArray⟩,v] w fun e w'=>∃va vn vc,e=.returned (Ug va vn vc)/\w'.ownsRow 0 9 1 (.slice va vn vc) out.length (strs out)/\Below w.heap.size w w'
theorem A3c{l:List UInt8}{c:BT A6}{P:Dl}{bets:List Dc}{out:List (List UInt8)}(hPa:Px l)(hc:Hh l=((0,0),some c))(hP:Np c=P)(hR:Sz P bets out):Sy l bets out:=by
 intro w v hg hw ht hb;obtain⟨a,cc,rfl,hcc,hb'⟩:=id hb;have HCo:=A0 (Aah l (fun _=>hPa) w hg hw);have HT:=A0 ht;have HBt:=A0 hb;have HR:=A0 hR;have HC:=A0 hc;clear hg ht hb hb' hR hc;go_enter Tryz.func17,Tryz.ntmps17;go_wp2_with fail
 refine HCo.o.mono ?_;rintro e w1 ⟨A1,⟨hf,rfl⟩|⟨c',gb,E,hcp,_,_,_,rfl,hpg,hE⟩⟩
 ·exact absurd (by rw[HC.o]) hf
 ·have hcc':c'=c:=by have:=HC.o.symm.trans hcp;simpa using this.symm
  rw[hcc',hP]at hpg;clear hcc' hP hcp HCo;have ls:=A1.size;have HRun:=A0 (fun(W:World) (hbW:Below w1.heap.size w1 W)=>HR.o W gb E (.slice a bets.length cc) (by obtain⟨pb,q1,q2,q3⟩:=hpg;exact⟨pb,q1,(hbW.block _ (A5 q2)).trans q2,q3.keep (fun g hg hl=>⟨hbW.block g hl,hg⟩)⟩) (fun g hg=>Nat.lt_of_lt_of_le (hE g hg).2 hbW.size) ((HT.o.keep A1).keep hbW) ((HBt.o.below A1).below hbW));have A4:=A0 A1;clear A1 hpg hE HR HT HBt HC;go_wp2_with fail
  refine(HRun.o _ (by repeat (first|exact Below.refl _ _|refine Below.alloc ?_ z56a _|refine Below.setCell ?_ z56a _|refine Below.drew ?_))).mono ?_;rintro e w2 ⟨va,vn,vc,line,fv,dv,rfl,⟨fa,fn,fc,da,dn,dc,rfl,rfl⟩,ho,A8⟩;have HO:=A0 ho;have Aa:Hid (Below w.heap.size w w2):=A4.o.trans (Below.trans (by repeat (first|exact Below.refl _ _|refine Below.alloc ?_ z51a _|refine Below.setCell ?_ z54a _|refine Below.drew ?_)) (A8.mono z54a));have ls2:=Aa.o.size;clear ho A8 HRun;go_wp2;go_region
  all_goals go_wp2
  all_goals refine bodyPost_ret (v:=Ug va vn vc) (by simp[results,Tryz.results17,go_sem,Ug]) rfl ?_
  all_goals refine⟨va,vn,vc,rfl,B8 HO.o (fun k _ hl=>Below.heap_alloc _ _ _ hl),?_⟩
  all_goals repeat (first|exact Aa.o|refine Below.alloc ?_ z51a _|refine Below.drew ?_)
theorem A1c(W:World)(l:List (List UInt8))(hn:l.length<=1000):(W.alloc (.cells (strs l).toArray 9)).ownsRow 0 9 1 (.slice (some ⟨W.heap.size,0,none⟩) l.length l.length) l.length (strs l):=
 ⟨by simp[strs],.inr ⟨W.heap.size,l.length,(strs l).toArray,rfl,Nat.zero_le _,heap_alloc_new _ _,Nat.le_refl _,by unfold maxLen;omega,by simp[strs],by simp only[Nat.mul_one];exact List.take_of_length_le (by simp[strs])⟩⟩
theorem A8i(h:Sy Na [] Pr)(w:World)(hg:Ir w)(hw:4<=w.heap.size)(ht:Gb w):Calls Tryz.prog 15 #[] w fun e w'=>e=.returned (.bool true)/\Below w.heap.size w w':=by
 have HR:=A0 (h w (.slice none 0 0) hg hw ht ⟨none,0,rfl,Nat.le_refl _,fun q=>absurd rfl q⟩);clear hg ht h;go_enter Tryz.func15,Tryz.ntmps15;go_wp2_with fail
 refine HR.o.mono ?_;rintro e w1 ⟨va,vn,vc,rfl,ho,hb⟩;have ls:=hb.size;have HS:=A0 (A3i Pr z52a (w1.alloc (.cells (strs Pr).toArray 9)) va vn vc (some ⟨w1.heap.size,0,none⟩) 3 3 (B8 ho (fun k _ hl=>Below.heap_alloc _ _ _ hl)) (A1c w1 Pr z52a));have HB:=A0 hb;clear ho hb HR;unfold Ug;go_wp2_with fail
 refine HS.o.mono ?_;rintro e w2 ⟨rfl,A8⟩;have Aa:Hid (Below w.heap.size w w2):=HB.o.trans (Below.trans (Below.alloc (Below.refl _ _) ls _) (A8.mono z54a));clear A8 HS;go_wp2;go_ret;exact⟨rfl,Aa.o⟩
end
end Go.Proofs.YtjdlndhfaaolaaaGreatDoor
