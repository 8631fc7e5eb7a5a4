import Derived.Test.YtjdlndhfaaolaaaGreatDoorV16
import Derived.Test.YtjdlndhfaaolaaaGreatDoorV29
import Derived.Test.YtjdlndhfaaolaaaGreatDoorV32
set_option maxHeartbeats 20000000
namespace Go.Proofs.YtjdlndhfaaolaaaGreatDoor
section
set_option maxRecDepth 100000
open Go.RowKit
open Go.Deep (BT)
theorem G3.keep{w w':World}(h:G3 w)(hb:Below w.heap.size w w'):G3 w':=Lib.tabBelow_of_tabIs h w' hb
def Us(va:Option Addr)(vn vc:Nat):Value:=.tuple #[.slice va vn vc,.bool true]
def Vk(P:D7)(bets:List Cx)(out:List (List UInt8)):Prop:=∀(w:World) (gb:Nat) (E:Nat->Prop) (v:Value),Rq E w gb P->(∀g,E g->g<w.heap.size)->G3 w->Ib Mc w v bets->
 Calls Tryz.prog 23 #[.pointer (some ⟨gb,0,none⟩),v] w fun e w'=>∃va vn vc line fv dv,e=.returned (.agg #[.slice va vn vc,.int .i64 0,.int .i64 (line:Nat),fv,dv])/\(∃fa fn fc da dn dc,fv=.slice fa fn fc/\dv=.slice da dn dc)/\w'.ownsRow 0 9 1 (.slice va vn vc) out.length (strs out)/\Below w.heap.size w w'
def Vj(l:List UInt8)(bets:List Cx)(out:List (List UInt8)):Prop:=∀(w:World) (v:Value),It w->4<=w.heap.size->G3 w->Ib Mc w v bets->
 Calls Tryz.prog 17 #[.string ⟨l.toArray⟩,v] w fun e w'=>∃va vn vc,e=.returned (Us va vn vc)/\w'.ownsRow 0 9 1 (.slice va vn vc) out.length (strs out)/\Below w.heap.size w w'
theorem z5ja {P:Prop} (h:P:=by obtain⟨pb,q1,q2,q3⟩:=hpg;exact⟨pb,q1,(hbW.block _ (A5 q2)).trans q2,q3.keep (fun g hg hl=>⟨hbW.block g hl,hg⟩)⟩):P:=h
theorem Ajg{l:List UInt8}{c:BT A6}{P:D7}{bets:List Cx}{out:List (List UInt8)}(hPa:Qd l)(hc:Hi l=((0,0),some c))(hP:Ny c=P)(hR:Vk P bets out):Vj l bets out:=by
 intro w v hg hw ht hb;obtain⟨a,cc,rfl,hcc,hb'⟩:=id hb;have HCo:=A0 (b9 l (fun _=>hPa) w hg hw);have HT:=A0 ht;have HBt:=A0 hb;have HR:=A0 hR;have HC:=A0 hc;clear hg ht hb hb' hR hc;go_enter Tryz.func17,Tryz.ntmps17;go_wp2_with fail
 refine HCo.o.mono ?_;rintro e w1 ⟨A1,⟨hf,rfl⟩|⟨c',gb,E,hcp,_,_,_,rfl,hpg,hE⟩⟩
 ·exact absurd (by rw[HC.o]) hf
 ·have hcc':c'=c:=by have:=HC.o.symm.trans hcp;simpa using this.symm
  rw[hcc',hP]at hpg;clear hcc' hP hcp HCo;have ls:=A1.size;have HRun:=A0 (fun(W:World) (hbW:Below w1.heap.size w1 W)=>HR.o W gb E (.slice a bets.length cc) z5ja (fun g hg=>Nat.lt_of_lt_of_le (hE g hg).2 hbW.size) ((HT.o.keep A1).keep hbW) ((HBt.o.below A1).below hbW));have A4:=A0 A1;clear A1 hpg hE HR HT HBt HC;go_wp2_with fail
  refine(HRun.o _ (by repeat (first|exact Below.refl _ _|refine Below.alloc ?_ z50a _|refine Below.setCell ?_ z50a _|refine Below.drew ?_))).mono ?_;rintro e w2 ⟨va,vn,vc,line,fv,dv,rfl,⟨fa,fn,fc,da,dn,dc,rfl,rfl⟩,ho,A8⟩;have HO:=A0 ho;have Aa:Hid (Below w.heap.size w w2):=A4.o.trans (Below.trans (by repeat (first|exact Below.refl _ _|refine Below.alloc ?_ z4va _|refine Below.setCell ?_ z4ya _|refine Below.drew ?_)) (A8.mono z4ya));have ls2:=Aa.o.size;clear ho A8 HRun;go_wp2;go_region
  all_goals go_wp2
  all_goals refine bodyPost_ret (v:=Us va vn vc) (by simp[results,Tryz.results17,go_sem,Us]) rfl ?_
  all_goals refine⟨va,vn,vc,rfl,B4 HO.o (fun k _ hl=>Below.heap_alloc _ _ _ hl),?_⟩
  all_goals repeat (first|exact Aa.o|refine Below.alloc ?_ z4va _|refine Below.drew ?_)
theorem A1m(W:World)(l:List (List UInt8))(hn:l.length<=1000):(W.alloc (.cells (strs l).toArray 9)).ownsRow 0 9 1 (.slice (some ⟨W.heap.size,0,none⟩) l.length l.length) l.length (strs l):=
 ⟨by simp[strs],.inr ⟨W.heap.size,l.length,(strs l).toArray,rfl,Nat.zero_le _,heap_alloc_new _ _,Nat.le_refl _,by unfold maxLen;omega,by simp[strs],by simp only[Nat.mul_one];exact List.take_of_length_le (by simp[strs])⟩⟩
theorem A8p(h:Vj Nh [] Q9)(w:World)(hg:It w)(hw:4<=w.heap.size)(ht:G3 w):Calls Tryz.prog 15 #[] w fun e w'=>e=.returned (.bool true)/\Below w.heap.size w w':=by
 have HR:=A0 (h w (.slice none 0 0) hg hw ht ⟨none,0,rfl,Nat.le_refl _,fun q=>absurd rfl q⟩);clear hg ht h;go_enter Tryz.func15,Tryz.ntmps15;go_wp2_with fail
 refine HR.o.mono ?_;rintro e w1 ⟨va,vn,vc,rfl,ho,hb⟩;have ls:=hb.size;have HS:=A0 (A3n Q9 z4wa (w1.alloc (.cells (strs Q9).toArray 9)) va vn vc (some ⟨w1.heap.size,0,none⟩) 3 3 (B4 ho (fun k _ hl=>Below.heap_alloc _ _ _ hl)) (A1m w1 Q9 z4wa));have HB:=A0 hb;clear ho hb HR;unfold Us;go_wp2_with fail
 refine HS.o.mono ?_;rintro e w2 ⟨rfl,A8⟩;have Aa:Hid (Below w.heap.size w w2):=HB.o.trans (Below.trans (Below.alloc (Below.refl _ _) ls _) (A8.mono z4ya));clear A8 HS;go_wp2;go_ret;exact⟨rfl,Aa.o⟩
theorem Ahh(c:Int)(hc:D4 c)(n:Nat)(h0:0<n)(hn:n<=1000)(w:World):Calls Tryz.prog 21 #[.int .i64 c,.int .i64 (n:Nat)] w fun e w'=>∃k:Nat,k<n/\e=.returned (.int .i64 (k:Nat))/\w'=w:=by
 have hz:((n:Nat):Int)≠0:=by omega
 unfold D4 at hc;by_cases h:c<0
 ·have hw:IntKind.i64.wrap (c+1)=c+1:=by rw[IntKind.wrap_i64];omega
  have Fk:IntKind.i64.wrap (-(c+1))=-(c+1):=by rw[IntKind.wrap_i64];omega
  have e0:(-(c+1)).tmod (n:Int)=-(c+1) % (n:Int):=Int.tmod_eq_emod_of_nonneg z4va;have Gb:=Int.emod_nonneg (-(c+1)) hz;have hlt:=Int.emod_lt_of_pos (-(c+1)) (show(0:Int)<(n:Nat) by omega);go_enter Tryz.func21,Tryz.ntmps21;go_wp2;go_ret;exact⟨(-(c+1) % (n:Int)).toNat,by omega,by rw[Int.toNat_of_nonneg Gb];rfl,rfl⟩
 ·have e0:c.tmod (n:Int)=c % (n:Int):=Int.tmod_eq_emod_of_nonneg z4va;have Gb:=Int.emod_nonneg c hz;have hlt:=Int.emod_lt_of_pos c (show(0:Int)<(n:Nat) by omega);go_enter Tryz.func21,Tryz.ntmps21;go_wp2;go_ret;exact⟨(c % (n:Int)).toNat,by omega,by rw[Int.toNat_of_nonneg Gb];rfl,rfl⟩
theorem A3j{W:World}{g:Nat}{cs:List Value}{t:TypeId}{fr:Nat×Nat}(h:W.heap[g]?=some (.cells cs.toArray t fr))(c:Nat):Lg Mc W (.slice (some ⟨g,0,none⟩) cs.length c) cs:=
 ⟨_,_,rfl,fun _=>⟨g,0,rfl,trivial,A5 h,fun j x hx=>by rw[Nat.zero_add];exact A2 h j x (by simpa using hx)⟩⟩
end
end Go.Proofs.YtjdlndhfaaolaaaGreatDoor
