import Derived.Test.YtjdlndhfaaolaaaGreatDoorQ11
import Derived.Test.YtjdlndhfaaolaaaGreatDoorQ12
import Derived.Test.YtjdlndhfaaolaaaGreatDoorQ29
set_option maxHeartbeats 20000000
namespace Go.Proofs.YtjdlndhfaaolaaaGreatDoor
section
set_option maxRecDepth 100000
open Go.RowKit
def Jm:List (List UInt8×Nat):=[([102,110],4),([108,101,116],5),([105,102],6),([101,108,115,101],7),([119,104,105,108,101],8),([114,101,116,117,114,110],9),([98,114,101,97,107],10),([99,111,110,116,105,110,117,101],11),([112,114,105,110,116],12),([116,114,117,101],13),([102,97,108,115,101],14),([110,117,108,108],15),([108,101,110],16),([112,117,115,104],17)]
def Rk:Array Value:=(Vn Jm).toArray
theorem A49(w:World):∀n (h:n<14),(Instr.index 330 (.agg Rk) (.int .i64 (n:Nat))).run Tryz.prog w=.ok (.agg #[.string ⟨(Jm[n]'h).1.toArray⟩,.int .i64 ((Jm[n]'h).2:Nat)]) w
 | 0,_=>by kernel_rfl
 | 1,_=>by kernel_rfl
 | 2,_=>by kernel_rfl
 | 3,_=>by kernel_rfl
 | 4,_=>by kernel_rfl
 | 5,_=>by kernel_rfl
 | 6,_=>by kernel_rfl
 | 7,_=>by kernel_rfl
 | 8,_=>by kernel_rfl
 | 9,_=>by kernel_rfl
 | 10,_=>by kernel_rfl
 | 11,_=>by kernel_rfl
 | 12,_=>by kernel_rfl
 | 13,_=>by kernel_rfl
 | n+14,h=>absurd h (by omega)
def A4n(b te:Nat)(w:World)(l:List UInt8)(i line:Nat)(e:Ending)(w':World):Prop:=
 A7 b w w'/\Sc b te w' l (i+((l.drop i).takeWhile E4).length) line/\((∃p,Jm.find? (fun p=>p.1==(l.drop i).takeWhile E4)=some p/\e=.returned (.tuple #[.agg #[.int .i64 (p.2:Nat),.int .i64 (line:Nat),.string ⟨#[]⟩,.int .i64 0],.bool true]))\/
  (Jm.find? (fun p=>p.1==(l.drop i).takeWhile E4)=none/\((16<((l.drop i).takeWhile E4).length/\e=.returned (.tuple #[.agg #[.int .i64 0,.int .i64 0,.string ⟨#[]⟩,.int .i64 0],.bool false]))\/
   (((l.drop i).takeWhile E4).length<=16/\e=.returned (.tuple #[.agg #[.int .i64 1,.int .i64 (line:Nat),.string ⟨((l.drop i).takeWhile E4).toArray⟩,.int .i64 0],.bool true])))))
theorem Alf(l:List UInt8)(w:World)(h:l.length<=100000):Calls Tryz.prog 178 #[.string ⟨l.toArray⟩] w fun e w'=>e=.returned (.string ⟨l.toArray⟩)/\Below w.heap.size w w':=by
 have hs:(⟨l.toArray⟩:ByteArray).size<=281474976710656:=by show l.toArray.size<=_;simp;omega
 go_enter Tryz.func178,Tryz.ntmps178;go_wp2_with fail
 refine(Tryz.stringslite_Clone _ _ hs).mono ?_;rintro e w' ⟨rfl,hb⟩;go_wp2;go_ret;exact⟨rfl,hb⟩
theorem Alg{b te tg:Nat}{fr:Nat×Nat}{w:World}{l:List UInt8}{i line:Nat}(h:Sc b te w l i line)(hg:w.heap[0]?=some (.cells Rk tg fr))(Bi:b≠0)(hl:l.length<=100000)(hi:i<l.length) :
  Calls Tryz.prog 125 #[.pointer (some ⟨b,0,none⟩)] w (A4n b te w l i line):=by
 have HSc0:=A0 h;have hlb:=A4 h;have HG0:=A0 hg;clear h hg;go_enter Tryz.func125,Tryz.ntmps125;go_wp2_with fail
 refine(Ag6 (HSc0.o.keep (Below.heap_alloc _ _ _ hlb)) hl (by omega)).mono ?_;rintro e w1 ⟨rfl,hsc1,Bw⟩;have hg1:=Bw.blk (alloc_old HG0.o) (by omega);have Fu:=A0 (Bw.blk (heap_alloc_new w _) (by omega));have HSc1:=A0 hsc1;have Az:Hid (A7 b w w1):=((A7.refl b w).alloc _).trans Bw;have Dk:=Bw.size;simp only[World.size_alloc]at Dk;generalize ht:(l.drop i).takeWhile E4=t at *;have htl:t.length<=100000:=by rw[←ht];have:=(List.takeWhile_sublist E4 (l:=l.drop i)).length_le;simp at this;omega
 have HTt:=A0 ht;clear ht hsc1 Bw HSc0 HG0;go_wp2_with (refine wpList_load_row rfl 330 _ rfl 0 rfl tg _ fr _ hg1 Tryz.underlying330 rfl (by kernel_rfl) ?_)
 clear hg1;go_loopg [10] 14 (fun k v wr=>∃n:Nat,v=.int .i64 n/\n+k=14/\Jm.find? (fun p=>p.1==t)=(Jm.drop n).find? (fun p=>p.1==t)/\Sc b te wr l (i+t.length) line/\A7 b w wr/\wr.heap[w.heap.size]?=some (.cells #[.int .i64 0,.int .i64 0,.string ⟨#[]⟩,.int .i64 0] 198))
 case atStart=>exact⟨0,rfl,rfl,rfl,HSc1.o,Az.o,Fu.o⟩
 case round=>
  clear HSc1 Az Fu;obtain⟨n,rfl,hnk,hf,hsc,ho,htk⟩:=hrel;have HF:=A0 hf;have HSc:=A0 hsc;have HO:=A0 ho;have HT:=A0 htk;obtain⟨x0,x1,x2,x3,fx,lx⟩:=Dw htk;obtain⟨c0,c1,c2,fz,lbr⟩:=hsc.cells;have hne:b≠w.heap.size:=by omega
  clear hf hsc ho htk;by_cases hlt:n<14
  ·have hix:=fun W=>A49 W n hlt;have HF1:=A0 (HF.o.trans (Zf hlt));generalize Rk=sc at *;generalize Jm[n]=p at *;clear HF;cases hp:(p.1==t)
   ·have HF2:Hid (Jm.find? (fun p=>p.1==t)=(Jm.drop (n+1)).find? (fun p=>p.1==t)):=by
     show _=_;rw[HF1.o];simp only[hp];rfl
    clear HF1;go_wp2;go_roundg (gk-1)
    case measure=>omega
    case rel=>exact⟨n+1,rfl,by omega,HF2.o,HSc.o.keep (Below.heap_alloc _ _ _ lbr),HO.o.alloc _,alloc_old HT.o⟩
   ·have HF2:Hid (Jm.find? (fun p=>p.1==t)=some p):=by
     show _=_;rw[HF1.o];simp only[hp];rfl
    clear HF1;go_wp2;have hne2:wr.heap.size≠b:=by omega
    have hne3:wr.heap.size≠w.heap.size:=by omega
    go_region
    all_goals go_wp2
    all_goals
     refine bodyPost_ret (v:=.tuple #[.agg #[.int .i64 (p.2:Nat),.int .i64 (line:Nat),.string ⟨#[]⟩,.int .i64 0],.bool true]) (by simp[results,Tryz.results125,go_sem,x0,x1,x2,x3,lx]) rfl ?_;refine⟨?_,?_,.inl ⟨p,by rw[HTt.o];exact HF2.o,rfl⟩⟩
     ·exact((A7.Hu HO.o (Nat.le_refl _) _ _ _ _).alloc _).drew
     ·rw[HTt.o];exact alloc_old (HSc.o.keep (Gw (by omega) _ _ _ _))
  ·have HF2:Hid (Jm.find? (fun p=>p.1==t)=none):=by
    show _=_;rw[HF.o,show n=14 by omega];rfl
   clear HF;by_cases h16:16<t.length
   ·have t16:decide (16<(t.length:Int))=true:=decide_eq_true (by omega);have H16:=A0 h16;clear h16;go_wp2;refine bodyPost_ret (v:=.tuple #[.agg #[.int .i64 0,.int .i64 0,.string ⟨#[]⟩,.int .i64 0],.bool false]) (by simp[results,Tryz.results125,go_sem,x0,x1,x2,x3]) rfl ?_;refine⟨A7.Hu HO.o (Nat.le_refl _) _ _ _ _,by rw[HTt.o];exact HSc.o.keep (Gw (by omega) _ _ _ _),.inr ⟨by rw[HTt.o];exact HF2.o,.inl ⟨by rw[HTt.o];exact H16.o,rfl⟩⟩⟩
   ·have t16:decide (16<(t.length:Int))=false:=decide_eq_false (by omega);have H16:=A0 h16;clear h16;go_wp2;have HT':Hid (wr.drew.heap[w.heap.size]?=some (.cells #[.int .i64 0,.int .i64 0,.string ⟨#[]⟩,.int .i64 0] 198 (0,0))):=HT.o;have HSc':Hid (Sc b te wr.drew l (i+t.length) line):=HSc.o.keep rfl;go_region_with (go_at_call 178;refine(Alf _ _ htl).mono ?_;rintro e w5 ⟨rfl,Cc⟩;have hT5:=Fq Cc HT'.o;have hSc5:Sc b te w5 l (i+t.length) line:=Fq Cc HSc'.o;obtain⟨y0,y1,y2,y3,fy,ly⟩:=Dw hT5;obtain⟨q0,q1,q2,fq,lq⟩:=hSc5.cells;have HSc5:=A0 hSc5;have Dn:=A0 Cc;clear hT5 hSc5 Cc)
    all_goals go_wp2
    all_goals refine bodyPost_ret (v:=.tuple #[.agg #[.int .i64 1,.int .i64 (line:Nat),.string ⟨t.toArray⟩,.int .i64 0],.bool true]) (by simp[results,Tryz.results125,go_sem,y0,y1,y2,y3]) rfl ?_
    all_goals refine⟨A7.Hu (HO.o.drew.trans (Below.only Dn.o)) (Nat.le_refl _) _ _ _ _,by rw[HTt.o];exact HSc5.o.keep (Gw (by omega) _ _ _ _),.inr ⟨by rw[HTt.o];exact HF2.o,.inr ⟨by rw[HTt.o];exact Nat.le_of_not_lt H16.o,by rw[HTt.o]⟩⟩⟩
theorem Amo:∀(l:List UInt8),(∀c∈l,D9 c=true)->∀acc:Nat,acc<=18446744073709551615->
  (Hf acc l<=18446744073709551615->Lib.parseUintM 18446744073709551615 acc l=.ok (Hf acc l).toNat)/\(18446744073709551615<Hf acc l->Lib.parseUintM 18446744073709551615 acc l=.range):=by
 intro l;induction l with
 | nil=>intro _ acc ha;exact⟨fun _=>by simp[Lib.parseUintM,Hf],fun h=>by simp only[Hf]at h;omega⟩
 | cons c r ih=>
  intro hd acc ha;have hc:=hd c (List.mem_cons_self ..);have hr:∀c∈r,D9 c=true:=fun x hx=>hd x (List.mem_cons_of_mem _ hx);have hc2:48<=c.toNat/\c.toNat<=57:=by
   unfold D9 at hc;simpa using hc
  have he:Hf acc (c::r)=Hf ((acc*10+(c.toNat-48):Nat):Int) r:=by
   rw[Hf];congr 1
   omega
  have hge:=A2e r hr ((acc*10+(c.toNat-48):Nat):Int) (by omega);rw[he];simp only[Lib.parseUintM];rw[if_pos hc2];by_cases h1:1844674407370955162<=acc
  ·rw[if_pos h1];exact⟨fun h=>by omega,fun _=>rfl⟩
  ·rw[if_neg h1];by_cases h2:18446744073709551615<acc*10+(c.toNat-48)
   ·rw[if_pos h2];exact⟨fun h=>by omega,fun _=>rfl⟩
   ·rw[if_neg h2];exact ih hr _ (by omega)
theorem Aip{c:UInt8}(h:D9 c=true):c.toNat≠43/\c.toNat≠45:=by
 unfold D9 at h;simp at h;omega
theorem A60(c:UInt8)(r:List UInt8)(hd:∀x∈c::r,D9 x=true):Lib.parseIntB 64 (c::r)=match numOf (c::r) with
  | some v=>.ok v
  | none=>.range:=by
 have hc:=Aip (hd c (List.mem_cons_self ..));have hge:=A2e (c::r) hd 0 (by omega);have e:(2:Nat) ^ 64-1=18446744073709551615:=by decide
 have e2:(2:Nat) ^ (64-1)=9223372036854775808:=by decide
 rw[Lib.parseIntB_plain 64 c r hc.1 hc.2];unfold Lib.parseUintB;rw[if_neg (by simp),e,e2];have h:=Amo (c::r) hd 0 (by omega);unfold numOf Qh;by_cases h1:Hf ((0:Nat):Int) (c::r)<=18446744073709551615
 ·rw[h.1 h1];simp only[Lib.signlessC];have h0:Hf ((0:Nat):Int) (c::r)=Hf 0 (c::r):=rfl;rw[h0]at h1 ⊢;by_cases h2:Hf 0 (c::r)<=9223372036854775807
  ·rw[if_pos h2,if_neg (by omega)];simp only;congr 1
   omega
  ·rw[if_neg h2,if_pos (by omega)]
 ·rw[h.2 (by omega)];have h0:Hf ((0:Nat):Int) (c::r)=Hf 0 (c::r):=rfl;rw[h0]at h1;rw[if_neg (by omega)];rfl
def A5x(b te:Nat)(w:World)(l:List UInt8)(i line:Nat)(e:Ending)(w':World):Prop:=
 A7 b w w'/\Sc b te w' l (i+((l.drop i).takeWhile D9).length) line/\((∃v,numOf ((l.drop i).takeWhile D9)=some v/\e=.returned (.tuple #[.agg #[.int .i64 2,.int .i64 (line:Nat),.string ⟨#[]⟩,.int .i64 v],.bool true]))\/
  (numOf ((l.drop i).takeWhile D9)=none/\e=.returned (.tuple #[.agg #[.int .i64 0,.int .i64 0,.string ⟨#[]⟩,.int .i64 0],.bool false])))
theorem Ahm{p:UInt8->Bool}{x:UInt8}:∀{l:List UInt8},x∈l.takeWhile p->p x=true:=by
 intro l;induction l with
 | nil=>intro h;simp at h
 | cons c r ih=>
  intro h;rw[List.takeWhile_cons]at h;split at h
  ·rename_i hc;rcases List.mem_cons.1 h with e|e
   ·rw[e];exact hc
   ·exact ih e
  ·simp at h
theorem Ah1{b te:Nat}{ev:Value}{w:World}{l:List UInt8}{i line:Nat}(h:Sc b te w l i line)(hv:w.cell? ⟨3,0,none⟩=some ev)(hev:ev=.nilIface\/∃te pe,ev=.iface te pe)(Bi:b≠3)(hl:l.length<=100000)(hi:i<l.length)(hd:D9 l[i]=true) :
  Calls Tryz.prog 127 #[.pointer (some ⟨b,0,none⟩)] w (A5x b te w l i line):=by
 have HSc0:=A0 h;have hlb:=A4 h;have HV0:=A0 hv;clear h hv;go_enter Tryz.func127,Tryz.ntmps127;go_wp2_with fail
 refine(Aa4 (HSc0.o.keep (Below.heap_alloc _ _ _ hlb)) hl (by omega)).mono ?_;rintro e w1 ⟨rfl,hsc1,Bw⟩;have Fu:=A0 (Bw.blk (heap_alloc_new w _) (by omega));have HSc1:=A0 hsc1;have Az:Hid (A7 b w w1):=((A7.refl b w).alloc _).trans Bw;have Dk:=Bw.size;simp only[World.size_alloc]at Dk;have lv:3<w.heap.size:=block_lt_of_cell HV0.o;have HV1:Hid (w1.cell? ⟨3,0,none⟩=some ev):=(World.cell?_of_block (Az.o.block _ lv (fun e=>Bi e.symm))).trans HV0.o;generalize ht:(l.drop i).takeWhile D9=t at *;have htl:t.length<=100000:=by rw[←ht];have:=(List.takeWhile_sublist D9 (l:=l.drop i)).length_le;simp at this;omega
 have htd:∀c∈t,D9 c=true:=by
  intro c hc;rw[←ht]at hc;exact Ahm hc
 obtain⟨c0,r0,hcr⟩:∃c r,t=c::r:=by
  rw[←ht,List.drop_eq_getElem_cons hi,List.takeWhile_cons_of_pos hd];exact⟨_,_,rfl⟩
 have hpi:Lib.parseIntB 64 t=match numOf t with
  | some v=>.ok v
  | none=>.range:=by rw[hcr];exact A60 c0 r0 (by rw[←hcr];exact htd)
 have HTt:=A0 ht;clear ht hsc1 Bw HSc0 HV0 htd hcr;cases hn:numOf t with
 | some v=>
  rw[hn]at hpi;have HN:=A0 hn;have HPI:=A0 hpi;clear hn hpi;go_wp2_with fail
  refine(Tryz.strconv_ParseInt_10_at64_ok ⟨t.toArray⟩ (by show t.toArray.size<=_;simp;omega) v (by simpa using HPI.o) _).mono ?_;rintro e w2 ⟨rfl,G4⟩;have A8:Below w1.heap.size w1 w2:=by
   rcases G4 with rfl|⟨t',rfl⟩
   ·exact Below.refl _ _
   ·exact Lib.bytesWorld_below _ _ _
  have J8:=Fq A8 Fu.o;have hSc2:Sc b te w2 l (i+t.length) line:=Fq A8 HSc1.o;obtain⟨y0,y1,y2,y3,fy,ly⟩:=Dw J8;obtain⟨q0,q1,q2,fq,lq⟩:=hSc2.cells;have HSc2:=A0 hSc2;have Be:Hid (A7 b w w2):=Az.o.trans (Below.only A8);clear J8 hSc2 A8 G4;go_wp2;refine bodyPost_ret (v:=.tuple #[.agg #[.int .i64 2,.int .i64 (line:Nat),.string ⟨#[]⟩,.int .i64 v],.bool true]) (by simp[results,Tryz.results127,go_sem,y0,y1,y2,y3]) rfl ?_;exact⟨A7.Hu Be.o (Nat.le_refl _) _ _ _ _,by rw[HTt.o];exact HSc2.o.keep (Gw (by omega) _ _ _ _),.inl ⟨v,by rw[HTt.o];exact HN.o,rfl⟩⟩
 | none=>
  rw[hn]at hpi;have HN:=A0 hn;have HPI:=A0 hpi;clear hn hpi;go_wp2_with fail
  refine(Tryz.strconv_ParseInt_10_at64_range ⟨t.toArray⟩ (by show t.toArray.size<=_;simp;omega) (by simpa using HPI.o) ev _ HV1.o hev).mono ?_;rintro e w2 ⟨N,rfl,_,_,A8⟩;have J8:=Fq A8 Fu.o;have hSc2:Sc b te w2 l (i+t.length) line:=Fq A8 HSc1.o;obtain⟨y0,y1,y2,y3,fy,ly⟩:=Dw J8;have HSc2:=A0 hSc2;have Be:Hid (A7 b w w2):=Az.o.trans (Below.only A8);clear J8 hSc2 A8;go_wp2;refine bodyPost_ret (v:=.tuple #[.agg #[.int .i64 0,.int .i64 0,.string ⟨#[]⟩,.int .i64 0],.bool false]) (by simp[results,Tryz.results127,go_sem,y0,y1,y2,y3]) rfl ?_;exact⟨A7.Hu Be.o (Nat.le_refl _) _ _ _ _,by rw[HTt.o];exact HSc2.o.keep (Gw (by omega) _ _ _ _),.inr ⟨by rw[HTt.o];exact HN.o,rfl⟩⟩
end
section
open Go.RowKit
theorem Yv(t:List UInt8):Lc t=((Jm.find? fun p=>p.1==t).map (·.2)).getD 0:=by
 by_cases h0:t=[102,110]
 ·subst h0;rfl
 by_cases h1:t=[108,101,116]
 ·subst h1;rfl
 by_cases h2:t=[105,102]
 ·subst h2;rfl
 by_cases h3:t=[101,108,115,101]
 ·subst h3;rfl
 by_cases h4:t=[119,104,105,108,101]
 ·subst h4;rfl
 by_cases h5:t=[114,101,116,117,114,110]
 ·subst h5;rfl
 by_cases h6:t=[98,114,101,97,107]
 ·subst h6;rfl
 by_cases h7:t=[99,111,110,116,105,110,117,101]
 ·subst h7;rfl
 by_cases h8:t=[112,114,105,110,116]
 ·subst h8;rfl
 by_cases h9:t=[116,114,117,101]
 ·subst h9;rfl
 by_cases h10:t=[102,97,108,115,101]
 ·subst h10;rfl
 by_cases h11:t=[110,117,108,108]
 ·subst h11;rfl
 by_cases h12:t=[108,101,110]
 ·subst h12;rfl
 by_cases h13:t=[112,117,115,104]
 ·subst h13;rfl
 unfold Lc Jm;simp only[beq_eq_false_iff_ne.2 h0,beq_eq_false_iff_ne.2 h1,beq_eq_false_iff_ne.2 h2,beq_eq_false_iff_ne.2 h3,beq_eq_false_iff_ne.2 h4,beq_eq_false_iff_ne.2 h5,beq_eq_false_iff_ne.2 h6,beq_eq_false_iff_ne.2 h7,beq_eq_false_iff_ne.2 h8,beq_eq_false_iff_ne.2 h9,beq_eq_false_iff_ne.2 h10,beq_eq_false_iff_ne.2 h11,beq_eq_false_iff_ne.2 h12,beq_eq_false_iff_ne.2 h13,beq_eq_false_iff_ne.2 (Ne.symm h0),beq_eq_false_iff_ne.2 (Ne.symm h1),beq_eq_false_iff_ne.2 (Ne.symm h2),beq_eq_false_iff_ne.2 (Ne.symm h3),beq_eq_false_iff_ne.2 (Ne.symm h4),beq_eq_false_iff_ne.2 (Ne.symm h5),beq_eq_false_iff_ne.2 (Ne.symm h6),beq_eq_false_iff_ne.2 (Ne.symm h7),beq_eq_false_iff_ne.2 (Ne.symm h8),beq_eq_false_iff_ne.2 (Ne.symm h9),beq_eq_false_iff_ne.2 (Ne.symm h10),beq_eq_false_iff_ne.2 (Ne.symm h11),beq_eq_false_iff_ne.2 (Ne.symm h12),beq_eq_false_iff_ne.2 (Ne.symm h13),Bool.false_eq_true,if_false,List.find?_cons,List.find?_nil,Option.map_none,Option.getD_none]
theorem Aih{t:List UInt8}{p:List UInt8×Nat}(h:(Jm.find? fun p=>p.1==t)=some p):Lc t=p.2/\p.2≠0:=by
 refine⟨by rw[Yv,h];rfl,?_⟩;have:∀q∈Jm,q.2≠0:=by decide
 exact this p (List.mem_of_find?_eq_some h)
theorem Zo{t:List UInt8}(h:(Jm.find? fun p=>p.1==t)=none):Lc t=0:=by rw[Yv,h];rfl
theorem Xo(c a:UInt8)(r:List UInt8):Gf (c::r) [a]=(c==a):=by
 unfold Gf;simp
theorem Akr(c d a b:UInt8)(r:List UInt8):Gf (c::d::r) [a,b]=(c==a&&d==b):=by
 unfold Gf;rw[Bool.eq_iff_iff];simp
theorem Aes(c a b:UInt8):Gf [c] [a,b]=false:=by
 unfold Gf;simp
def Pw(l:List UInt8):Prop:=(∃p,Jw.find? (fun p=>Gf l p.1)=some p/\Gm l=(p.2,p.1.length)/\p.1.length≠0)\/(Jw.find? (fun p=>Gf l p.1)=none/\Gm l=(0,0))
theorem sign_one(c:UInt8):Pw [c]:=by
 unfold Pw Jw;simp only[List.find?_cons,List.find?_nil,Aes,Xo];by_cases o40:c=40
 ·subst o40;exact .inl ⟨([40],18),rfl,rfl,by decide⟩
 by_cases o41:c=41
 ·subst o41;exact .inl ⟨([41],19),rfl,rfl,by decide⟩
 by_cases o123:c=123
 ·subst o123;exact .inl ⟨([123],20),rfl,rfl,by decide⟩
 by_cases o125:c=125
 ·subst o125;exact .inl ⟨([125],21),rfl,rfl,by decide⟩
 by_cases o91:c=91
 ·subst o91;exact .inl ⟨([91],22),rfl,rfl,by decide⟩
 by_cases o93:c=93
 ·subst o93;exact .inl ⟨([93],23),rfl,rfl,by decide⟩
 by_cases o44:c=44
 ·subst o44;exact .inl ⟨([44],24),rfl,rfl,by decide⟩
 by_cases o59:c=59
 ·subst o59;exact .inl ⟨([59],25),rfl,rfl,by decide⟩
 by_cases o61:c=61
 ·subst o61;exact .inl ⟨([61],26),rfl,rfl,by decide⟩
 by_cases o33:c=33
 ·subst o33;exact .inl ⟨([33],28),rfl,rfl,by decide⟩
 by_cases o60:c=60
 ·subst o60;exact .inl ⟨([60],30),rfl,rfl,by decide⟩
 by_cases o62:c=62
 ·subst o62;exact .inl ⟨([62],32),rfl,rfl,by decide⟩
 by_cases o43:c=43
 ·subst o43;exact .inl ⟨([43],34),rfl,rfl,by decide⟩
 by_cases o45:c=45
 ·subst o45;exact .inl ⟨([45],35),rfl,rfl,by decide⟩
 by_cases o42:c=42
 ·subst o42;exact .inl ⟨([42],36),rfl,rfl,by decide⟩
 by_cases o47:c=47
 ·subst o47;exact .inl ⟨([47],37),rfl,rfl,by decide⟩
 by_cases o37:c=37
 ·subst o37;exact .inl ⟨([37],38),rfl,rfl,by decide⟩
 right;simp only[beq_eq_false_iff_ne.2 o40,beq_eq_false_iff_ne.2 o41,beq_eq_false_iff_ne.2 o123,beq_eq_false_iff_ne.2 o125,beq_eq_false_iff_ne.2 o91,beq_eq_false_iff_ne.2 o93,beq_eq_false_iff_ne.2 o44,beq_eq_false_iff_ne.2 o59,beq_eq_false_iff_ne.2 o61,beq_eq_false_iff_ne.2 o33,beq_eq_false_iff_ne.2 o60,beq_eq_false_iff_ne.2 o62,beq_eq_false_iff_ne.2 o43,beq_eq_false_iff_ne.2 o45,beq_eq_false_iff_ne.2 o42,beq_eq_false_iff_ne.2 o47,beq_eq_false_iff_ne.2 o37];refine⟨trivial,?_⟩;unfold Gm Ia;simp only[beq_eq_false_iff_ne.2 o40,beq_eq_false_iff_ne.2 o41,beq_eq_false_iff_ne.2 o123,beq_eq_false_iff_ne.2 o125,beq_eq_false_iff_ne.2 o91,beq_eq_false_iff_ne.2 o93,beq_eq_false_iff_ne.2 o44,beq_eq_false_iff_ne.2 o59,beq_eq_false_iff_ne.2 o61,beq_eq_false_iff_ne.2 o33,beq_eq_false_iff_ne.2 o60,beq_eq_false_iff_ne.2 o62,beq_eq_false_iff_ne.2 o43,beq_eq_false_iff_ne.2 o45,beq_eq_false_iff_ne.2 o42,beq_eq_false_iff_ne.2 o47,beq_eq_false_iff_ne.2 o37,Bool.false_eq_true,if_false];rfl
theorem A9z(c d:UInt8)(r:List UInt8):Pw (c::d::r):=by
 unfold Pw Jw;simp only[List.find?_cons,List.find?_nil,Akr,Xo];cases t27:(c==61&&d==61)
 case true=>
  simp only[Bool.and_eq_true,beq_iff_eq]at t27;obtain⟨rfl,rfl⟩:=t27;exact .inl ⟨([61,61],27),rfl,rfl,by decide⟩
 cases t29:(c==33&&d==61)
 case true=>
  simp only[Bool.and_eq_true,beq_iff_eq]at t29;obtain⟨rfl,rfl⟩:=t29;exact .inl ⟨([33,61],29),rfl,rfl,by decide⟩
 cases t31:(c==60&&d==61)
 case true=>
  simp only[Bool.and_eq_true,beq_iff_eq]at t31;obtain⟨rfl,rfl⟩:=t31;exact .inl ⟨([60,61],31),rfl,rfl,by decide⟩
 cases t33:(c==62&&d==61)
 case true=>
  simp only[Bool.and_eq_true,beq_iff_eq]at t33;obtain⟨rfl,rfl⟩:=t33;exact .inl ⟨([62,61],33),rfl,rfl,by decide⟩
 cases t39:(c==38&&d==38)
 case true=>
  simp only[Bool.and_eq_true,beq_iff_eq]at t39;obtain⟨rfl,rfl⟩:=t39;exact .inl ⟨([38,38],39),rfl,rfl,by decide⟩
 cases t40:(c==124&&d==124)
 case true=>
  simp only[Bool.and_eq_true,beq_iff_eq]at t40;obtain⟨rfl,rfl⟩:=t40;exact .inl ⟨([124,124],40),rfl,rfl,by decide⟩
 have h2:K2 c d=0:=by
  unfold K2;simp only[t27,t29,t31,t33,t39,t40,Bool.false_eq_true,if_false]
 have hs:Gm (c::d::r)=if Ia c==0 then(0,0) else(Ia c,1):=by
  rw[Gm,h2];rfl
 rw[hs];clear hs h2 t27 t29 t31 t33 t39 t40;by_cases o40:c=40
 ·subst o40;exact .inl ⟨([40],18),rfl,rfl,by decide⟩
 by_cases o41:c=41
 ·subst o41;exact .inl ⟨([41],19),rfl,rfl,by decide⟩
 by_cases o123:c=123
 ·subst o123;exact .inl ⟨([123],20),rfl,rfl,by decide⟩
 by_cases o125:c=125
 ·subst o125;exact .inl ⟨([125],21),rfl,rfl,by decide⟩
 by_cases o91:c=91
 ·subst o91;exact .inl ⟨([91],22),rfl,rfl,by decide⟩
 by_cases o93:c=93
 ·subst o93;exact .inl ⟨([93],23),rfl,rfl,by decide⟩
 by_cases o44:c=44
 ·subst o44;exact .inl ⟨([44],24),rfl,rfl,by decide⟩
 by_cases o59:c=59
 ·subst o59;exact .inl ⟨([59],25),rfl,rfl,by decide⟩
 by_cases o61:c=61
 ·subst o61;exact .inl ⟨([61],26),rfl,rfl,by decide⟩
 by_cases o33:c=33
 ·subst o33;exact .inl ⟨([33],28),rfl,rfl,by decide⟩
 by_cases o60:c=60
 ·subst o60;exact .inl ⟨([60],30),rfl,rfl,by decide⟩
 by_cases o62:c=62
 ·subst o62;exact .inl ⟨([62],32),rfl,rfl,by decide⟩
 by_cases o43:c=43
 ·subst o43;exact .inl ⟨([43],34),rfl,rfl,by decide⟩
 by_cases o45:c=45
 ·subst o45;exact .inl ⟨([45],35),rfl,rfl,by decide⟩
 by_cases o42:c=42
 ·subst o42;exact .inl ⟨([42],36),rfl,rfl,by decide⟩
 by_cases o47:c=47
 ·subst o47;exact .inl ⟨([47],37),rfl,rfl,by decide⟩
 by_cases o37:c=37
 ·subst o37;exact .inl ⟨([37],38),rfl,rfl,by decide⟩
 right;simp only[beq_eq_false_iff_ne.2 o40,beq_eq_false_iff_ne.2 o41,beq_eq_false_iff_ne.2 o123,beq_eq_false_iff_ne.2 o125,beq_eq_false_iff_ne.2 o91,beq_eq_false_iff_ne.2 o93,beq_eq_false_iff_ne.2 o44,beq_eq_false_iff_ne.2 o59,beq_eq_false_iff_ne.2 o61,beq_eq_false_iff_ne.2 o33,beq_eq_false_iff_ne.2 o60,beq_eq_false_iff_ne.2 o62,beq_eq_false_iff_ne.2 o43,beq_eq_false_iff_ne.2 o45,beq_eq_false_iff_ne.2 o42,beq_eq_false_iff_ne.2 o47,beq_eq_false_iff_ne.2 o37];refine⟨trivial,?_⟩;unfold Ia;simp only[beq_eq_false_iff_ne.2 o40,beq_eq_false_iff_ne.2 o41,beq_eq_false_iff_ne.2 o123,beq_eq_false_iff_ne.2 o125,beq_eq_false_iff_ne.2 o91,beq_eq_false_iff_ne.2 o93,beq_eq_false_iff_ne.2 o44,beq_eq_false_iff_ne.2 o59,beq_eq_false_iff_ne.2 o61,beq_eq_false_iff_ne.2 o33,beq_eq_false_iff_ne.2 o60,beq_eq_false_iff_ne.2 o62,beq_eq_false_iff_ne.2 o43,beq_eq_false_iff_ne.2 o45,beq_eq_false_iff_ne.2 o42,beq_eq_false_iff_ne.2 o47,beq_eq_false_iff_ne.2 o37,Bool.false_eq_true,if_false];rfl
theorem Acf(c:UInt8)(r:List UInt8):Pw (c::r):=by
 cases r with
 | nil=>exact sign_one c
 | cons d r=>exact A9z c d r
end
section
set_option maxRecDepth 100000
open Go.RowKit
def Vz(b te:Nat)(w:World)(l:List UInt8)(i line:Nat)(e:Ending)(w':World):Prop:=
 A7 b w w'/\((∃x,(Fo (l.drop i)).2=some x/\e=.returned (.tuple #[.agg #[.int .i64 (x.1.k:Nat),.int .i64 ((line+(Fo (l.drop i)).1:Nat):Nat),.string ⟨x.1.s.toArray⟩,.int .i64 x.1.n],.bool true])/\Sc b te w' l (i+x.2) (line+(Fo (l.drop i)).1))\/
  ((Fo (l.drop i)).2=none/\e=.returned (.tuple #[.agg #[.int .i64 0,.int .i64 0,.string ⟨#[]⟩,.int .i64 0],.bool false])/\∃j,Sc b te w' l j (line+(Fo (l.drop i)).1)))
structure Ij (w : World) : Prop where
 signs:∃tg fr,w.heap[1]?=some (.cells Rx tg fr)
 words:∃tg fr,w.heap[0]?=some (.cells Rk tg fr)
 range:∃ev,w.cell? ⟨3,0,none⟩=some ev/\(ev=.nilIface\/∃te pe,ev=.iface te pe)
theorem Ij.keep{w w':World}(h:Ij w)(hk:∀k,k<4->k<w.heap.size->w'.heap[k]?=w.heap[k]?):Ij w':=by
 obtain⟨⟨t1,f1,h1⟩,⟨t2,f2,h2⟩,⟨ev,h3,h4⟩⟩:=h;exact⟨⟨t1,f1,(hk _ (by decide) (A4 h1)).trans h1⟩,⟨t2,f2,(hk _ (by decide) (A4 h2)).trans h2⟩,⟨ev,(World.cell?_of_block (hk _ (by decide) (block_lt_of_cell h3))).trans h3,h4⟩⟩
theorem Ij.only{b:Nat}{w w':World}(h:Ij w)(ho:A7 b w w')(hb:4<=b):Ij w':=h.keep (fun k h1 h2=>ho.block k h2 (by omega))
theorem Ij.below{w w':World}(h:Ij w)(ho:Below w.heap.size w w'):Ij w':=h.keep (fun k _ h2=>ho.block k h2)
theorem A6r{l:List UInt8}{i:Nat}(hok:(B6 false (l.drop i)).2.2=true)(hlt:i+(B6 false (l.drop i)).1<l.length):(Fo (l.drop i)).2=(Er (l.drop (i+(B6 false (l.drop i)).1))).map fun x=>(x.1,(B6 false (l.drop i)).1+x.2):=by
 unfold Fo;simp only[hok,if_true,List.drop_drop];rw[List.drop_eq_getElem_cons hlt,Od]
theorem A86{c:UInt8}(h:isLet c=true):D9 c=false:=by
 unfold isLet at h;unfold D9;simp only[Bool.or_eq_true,Bool.and_eq_true,decide_eq_true_eq]at h;rw[Bool.and_eq_false_iff];by_cases h1:c.toNat<=57
 ·left;rw[decide_eq_false_iff_not];omega
 ·right;rw[decide_eq_false_iff_not];exact h1
theorem Qk{b te:Nat}{w W:World}{l:List UInt8}{i line j lj n m len:Nat}{t:Tk}(hO:A7 b w W)(hsc:Sc b te W l (j+len) lj)(hj:i+n=j)(hlj:line+m=lj)(h1:(Fo (l.drop i)).1=m)(hN:(Fo (l.drop i)).2=(Er (l.drop j)).map fun x=>(x.1,n+x.2))(ht:Er (l.drop j)=some (t,len)) :
  Vz b te w l i line (.returned (.tuple #[.agg #[.int .i64 (t.k:Nat),.int .i64 (lj:Nat),.string ⟨t.s.toArray⟩,.int .i64 t.n],.bool true])) W:=by
 refine⟨hO,.inl ⟨(t,n+len),by rw[hN,ht];rfl,by rw[h1,hlj],?_⟩⟩;rw[h1,hlj,show i+(n+len)=j+len by omega];exact hsc
theorem Sx{b te:Nat}{w W:World}{l:List UInt8}{i line j lj n m:Nat}(hO:A7 b w W)(hsc:∃q,Sc b te W l q lj)(hlj:line+m=lj)(h1:(Fo (l.drop i)).1=m)(hN:(Fo (l.drop i)).2=(Er (l.drop j)).map fun x=>(x.1,n+x.2))(ht:Er (l.drop j)=none) :
  Vz b te w l i line (.returned (.tuple #[.agg #[.int .i64 0,.int .i64 0,.string ⟨#[]⟩,.int .i64 0],.bool false])) W:=by
 refine⟨hO,.inr ⟨by rw[hN,ht];rfl,rfl,?_⟩⟩;rw[h1,hlj];exact hsc
theorem A6g{b te:Nat}{w:World}{l:List UInt8}{i line:Nat}(h:Sc b te w l i line)(hg:Ij w)(Bi:4<=b)(hl:l.length<=100000)(hi:i<=l.length)(hln:line<=i+1) :
  Calls Tryz.prog 77 #[.pointer (some ⟨b,0,none⟩)] w (Vz b te w l i line):=by
 have HSc0:=A0 h;have HG0:=A0 hg;have hlb:=A4 h;have HLe:=A0 (Vp (l.drop i) false);clear h hg;go_enter Tryz.func77,Tryz.ntmps77;go_wp2_with fail
 refine(Adb (HSc0.o.keep (Below.heap_alloc _ _ _ hlb)) hl hi hln).mono ?_;rintro e w1 ⟨rfl,hsc1,Bw⟩;have Fu:=A0 (Bw.blk (heap_alloc_new w (.cells #[.int .i64 0,.int .i64 0,.string ⟨#[]⟩,.int .i64 0] 198)) (by omega));have HSc1:=A0 hsc1;have Az:Hid (A7 b w w1):=((A7.refl b w).alloc _).trans Bw;have HG1:=A0 (HG0.o.only Az.o Bi);have Dk:=Bw.size;simp only[World.size_alloc]at Dk;have Fh:Hid ((Fo (l.drop i)).1=(B6 false (l.drop i)).2.1):=rfl;have HTk:=A0 (fun h1 h2=>A6r (l:=l) (i:=i) h1 h2);have HEnd:Hid ((B6 false (l.drop i)).2.2=true->i+(B6 false (l.drop i)).1=l.length->(Fo (l.drop i)).2=some (⟨0,0,[],0⟩,(B6 false (l.drop i)).1)):=by
  intro h1 h2;unfold Fo;simp only[h1,if_true,List.drop_drop];have hd:l.drop (i+(B6 false (l.drop i)).1)=[]:=List.drop_of_length_le (by omega);rw[hd,Od]
 have HNo:Hid ((B6 false (l.drop i)).2.2=false->(Fo (l.drop i)).2=none):=by
  intro h1;unfold Fo;simp[h1]
 have hle:=HLe.o.1;rw[List.length_drop]at hle;have hle2:=HLe.o.2;generalize hsn:(B6 false (l.drop i)).1=n at *;generalize hsm:(B6 false (l.drop i)).2.1=m at *;obtain⟨x0,x1,x2,x3,fx,lx⟩:=Dw Fu.o;obtain⟨c0,c1,c2,fz,Bt⟩:=hsc1.cells;clear hsc1 Bw HSc0 HG0 HLe hsn hsm;cases hok:(B6 false (l.drop i)).2.2
 ·have HN:=A0 (HNo.o hok);clear HTk HEnd HNo hok;go_wp2;refine bodyPost_ret (v:=.tuple #[.agg #[.int .i64 0,.int .i64 0,.string ⟨#[]⟩,.int .i64 0],.bool false]) (by simp[results,Tryz.results77,go_sem,x0,x1,x2,x3]) rfl ?_;exact⟨A7.Hu Az.o (Nat.le_refl _) _ _ _ _,.inr ⟨HN.o,rfl,_,by rw[Fh.o];exact HSc1.o.keep (Gw (by omega) _ _ _ _)⟩⟩
 ·by_cases hend:i+n=l.length
  ·have HN:=A0 (HEnd.o hok hend);have t1:(((i+n:Nat):Int)==(l.length:Int))=true:=by rw[hend];simp
   clear HTk HEnd HNo hok;have HEn:=A0 hend;clear hend;go_wp2;go_quiet (fail)
   go_wp2;refine bodyPost_ret (v:=.tuple #[.agg #[.int .i64 0,.int .i64 ((line+m:Nat):Nat),.string ⟨#[]⟩,.int .i64 0],.bool true]) (by simp[results,Tryz.results77,go_sem,x0,x1,x2,x3]) rfl ?_;exact⟨A7.Hu (Az.o.drewN nq) (Nat.le_refl _) _ _ _ _,.inl ⟨_,HN.o,by rw[Fh.o];rfl,by rw[Fh.o];exact HSc1.o.keep (Gw (w:=w1.drewN nq) (by omega) _ _ _ _)⟩⟩
  ·have hlt:i+n<l.length:=by omega
   have HN:=A0 (HTk.o hok hlt);clear HTk HEnd HNo hok hend;have hlm:line+m<=100001:=by omega
   generalize hj:i+n=j at *;have HJ:=A0 hj;generalize hlj:line+m=lj at *;have HLj:=A0 hlj;clear hj hlj;have t1:((j:Int)==(l.length:Int))=false:=by rw[beq_eq_false_iff_ne];omega
   have hE:∀h,((⟨l.toArray⟩:ByteArray)[j]'h)=l[j]:=fun h=>On l j h;go_wp2;go_quiet (fail)
   have HSc2:Hid (Sc b te (w1.drewN nq) l j lj):=HSc1.o.keep rfl;have Be:Hid (A7 b w (w1.drewN nq)):=Az.o.drewN _;have I6:Hid ((w1.drewN nq).heap[w.heap.size]?=_):=Fu.o;have HG2:Hid (Ij (w1.drewN nq)):=HG1.o.keep (fun _ _ _=>rfl);have Ey:w.heap.size+1<=(w1.drewN nq).heap.size:=Dk;clear x0 x1 x2 x3 fx lx c0 c1 c2 fz Bt HSc1 Az Fu HG1 Dk;generalize w1.drewN nq=w2 at *;obtain⟨c0,c1,c2,fz,Bt⟩:=HSc2.o.cells;go_wp2;go_quiet (fail)
   have HSc3:Hid (Sc b te (w2.drewN nq) l j lj):=HSc2.o.keep rfl;have Cg:Hid (A7 b w (w2.drewN nq)):=Be.o.drewN _;have Ip:Hid ((w2.drewN nq).heap[w.heap.size]?=_):=I6.o;have HG3:Hid (Ij (w2.drewN nq)):=HG2.o.keep (fun _ _ _=>rfl);have lw3:w.heap.size+1<=(w2.drewN nq).heap.size:=Ey;clear c0 c1 c2 fz Bt HSc2 Be I6 HG2 Ey hE;generalize w2.drewN nq=w3 at *;obtain⟨⟨tg1,fr1,hg1⟩,⟨tg2,fr2,Gn⟩,⟨ev,hv1,H8⟩⟩:=HG3.o;cases ha:isLet l[j]
   ·cases hd:D9 l[j]
    ·by_cases hq:l[j]=34
     ·have t34:((l[j].toNat:Int)==34)=true:=Mc (d:=34) rfl hq;have HTok:=A0 (Alc l j hlt hq);have HQ:=A0 (Al3 HSc3.o hl hlt);clear hq hg1 Gn hv1 H8;go_wp2_with fail
      refine(Qj _ _).mono ?_;rintro e w' ⟨rfl,rfl⟩;rw[ha];go_wp2_with fail
      refine(Pv _ _).mono ?_;rintro e w' ⟨rfl,rfl⟩;rw[hd];go_wp2_with fail
      refine HQ.o.mono ?_;rintro e w4 ⟨Cf,⟨x,hx,rfl,I5⟩|⟨hx,rfl,j',I5⟩⟩
      ·have HSc4:Hid (Sc b te w4 l (j+(x.2+1)) lj):=by rw[show j+(x.2+1)=j+1+x.2 by omega];exact I5
       have Eb:Hid (Er (l.drop j)=some (⟨3,0,x.1,0⟩,x.2+1)):=by show _=_;rw[HTok.o,hx]
       clear I5 hx;have Gx:=Cf.blk Ip.o (by omega);obtain⟨y0,y1,y2,y3,fy,ly⟩:=Dw Gx;have C2:Hid (A7 b w w4):=Cg.o.trans Cf;clear Gx Cf;go_wp2;refine bodyPost_ret (v:=.tuple #[.agg #[.int .i64 3,.int .i64 (lj:Nat),.string ⟨x.1.toArray⟩,.int .i64 0],.bool true]) (by simp[results,Tryz.results77,go_sem,y0,y1,y2,y3]) rfl ?_;exact Qk (t:=⟨3,0,_,_⟩) (A7.Hu C2.o (Nat.le_refl _) _ _ _ _) (HSc4.o.keep (Gw (by omega) _ _ _ _)) HJ.o HLj.o Fh.o HN.o Eb.o
      ·have HSc4:=A0 I5;have Eb:Hid (Er (l.drop j)=none):=by show _=_;rw[HTok.o,hx]
       clear I5 hx;have Gx:=Cf.blk Ip.o (by omega);obtain⟨y0,y1,y2,y3,fy,ly⟩:=Dw Gx;have C2:Hid (A7 b w w4):=Cg.o.trans Cf;clear Gx Cf;go_wp2;refine bodyPost_ret (v:=.tuple #[.agg #[.int .i64 0,.int .i64 0,.string ⟨#[]⟩,.int .i64 0],.bool false]) (by simp[results,Tryz.results77,go_sem,y0,y1,y2,y3]) rfl ?_;exact Sx (A7.Hu C2.o (Nat.le_refl _) _ _ _ _) ⟨_,HSc4.o.keep (Gw (by omega) _ _ _ _)⟩ HLj.o Fh.o HN.o Eb.o
     ·have t34:((l[j].toNat:Int)==34)=false:=Kp (d:=34) rfl hq;have HTok:=A0 (Afu l j hlt hd ha hq);have HQ:=A0 (A3b HSc3.o hg1 hl hlt);have HSi:Hid (Pw (l.drop j)):=by rw[List.drop_eq_getElem_cons hlt];exact Acf _ _
      clear hq hg1 Gn hv1 H8;go_wp2_with fail
      refine(Qj _ _).mono ?_;rintro e w' ⟨rfl,rfl⟩;rw[ha];go_wp2_with fail
      refine(Pv _ _).mono ?_;rintro e w' ⟨rfl,rfl⟩;rw[hd];go_wp2_with fail
      refine HQ.o.mono ?_;rintro e w4 ⟨Cf,⟨p,hx,rfl,I5⟩|⟨hx,rfl,I5⟩⟩
      ·have HSc4:=A0 I5;have Eb:Hid (Er (l.drop j)=some (⟨p.2,0,[],0⟩,p.1.length)):=by
        show _=_;rcases HSi.o with⟨p',e1,e2,e3⟩|⟨e1,_⟩
        ·rw[hx]at e1;obtain rfl:=Option.some.inj e1;rw[HTok.o,e2,if_neg (by simpa using e3)]
        ·rw[hx]at e1;cases e1
       clear I5 hx;have Gx:=Cf.blk Ip.o (by omega);obtain⟨y0,y1,y2,y3,fy,ly⟩:=Dw Gx;have C2:Hid (A7 b w w4):=Cg.o.trans Cf;clear Gx Cf;go_wp2;refine bodyPost_ret (v:=.tuple #[.agg #[.int .i64 (p.2:Nat),.int .i64 (lj:Nat),.string ⟨#[]⟩,.int .i64 0],.bool true]) (by simp[results,Tryz.results77,go_sem,y0,y1,y2,y3]) rfl ?_;exact Qk (t:=⟨(p.2:Nat),0,_,_⟩) (A7.Hu C2.o (Nat.le_refl _) _ _ _ _) (HSc4.o.keep (Gw (by omega) _ _ _ _)) HJ.o HLj.o Fh.o HN.o Eb.o
      ·have HSc4:=A0 I5;have Eb:Hid (Er (l.drop j)=none):=by
        show _=_;rcases HSi.o with⟨p',e1,e2,e3⟩|⟨e1,e2⟩
        ·rw[hx]at e1;cases e1
        ·rw[HTok.o,e2];rfl
       clear I5 hx;have Gx:=Cf.blk Ip.o (by omega);obtain⟨y0,y1,y2,y3,fy,ly⟩:=Dw Gx;have C2:Hid (A7 b w w4):=Cg.o.trans Cf;clear Gx Cf;go_wp2;refine bodyPost_ret (v:=.tuple #[.agg #[.int .i64 0,.int .i64 0,.string ⟨#[]⟩,.int .i64 0],.bool false]) (by simp[results,Tryz.results77,go_sem,y0,y1,y2,y3]) rfl ?_;exact Sx (A7.Hu C2.o (Nat.le_refl _) _ _ _ _) ⟨_,HSc4.o.keep (Gw (by omega) _ _ _ _)⟩ HLj.o Fh.o HN.o Eb.o
    ·have HTok:=A0 (Aal l j hlt hd);have HQ:=A0 (Ah1 HSc3.o hv1 H8 (by omega) hl hlt hd);clear hg1 Gn hv1 H8;go_wp2_with fail
     refine(Qj _ _).mono ?_;rintro e w' ⟨rfl,rfl⟩;rw[ha];go_wp2_with fail
     refine(Pv _ _).mono ?_;rintro e w' ⟨rfl,rfl⟩;rw[hd];go_wp2_with fail
     refine HQ.o.mono ?_;rintro e w4 ⟨Cf,I5,⟨v,hx,rfl⟩|⟨hx,rfl⟩⟩
     ·have HSc4:=A0 I5;have Eb:Hid (Er (l.drop j)=some (⟨2,0,[],v⟩,((l.drop j).takeWhile D9).length)):=by show _=_;rw[HTok.o,hx]
      clear I5 hx;have Gx:=Cf.blk Ip.o (by omega);obtain⟨y0,y1,y2,y3,fy,ly⟩:=Dw Gx;have C2:Hid (A7 b w w4):=Cg.o.trans Cf;clear Gx Cf;go_wp2;refine bodyPost_ret (v:=.tuple #[.agg #[.int .i64 2,.int .i64 (lj:Nat),.string ⟨#[]⟩,.int .i64 v],.bool true]) (by simp[results,Tryz.results77,go_sem,y0,y1,y2,y3]) rfl ?_;exact Qk (t:=⟨2,0,_,_⟩) (A7.Hu C2.o (Nat.le_refl _) _ _ _ _) (HSc4.o.keep (Gw (by omega) _ _ _ _)) HJ.o HLj.o Fh.o HN.o Eb.o
     ·have HSc4:=A0 I5;have Eb:Hid (Er (l.drop j)=none):=by show _=_;rw[HTok.o,hx]
      clear I5 hx;have Gx:=Cf.blk Ip.o (by omega);obtain⟨y0,y1,y2,y3,fy,ly⟩:=Dw Gx;have C2:Hid (A7 b w w4):=Cg.o.trans Cf;clear Gx Cf;go_wp2;refine bodyPost_ret (v:=.tuple #[.agg #[.int .i64 0,.int .i64 0,.string ⟨#[]⟩,.int .i64 0],.bool false]) (by simp[results,Tryz.results77,go_sem,y0,y1,y2,y3]) rfl ?_;exact Sx (A7.Hu C2.o (Nat.le_refl _) _ _ _ _) ⟨_,HSc4.o.keep (Gw (by omega) _ _ _ _)⟩ HLj.o Fh.o HN.o Eb.o
   ·have hd:D9 l[j]=false:=A86 ha;have HTok:=A0 (A9h l j hlt hd ha);have HQ:=A0 (Alg HSc3.o Gn (by omega) hl hlt);clear hg1 Gn hv1 H8 hd;go_wp2_with fail
    refine(Qj _ _).mono ?_;rintro e w' ⟨rfl,rfl⟩;rw[ha];go_wp2_with fail
    refine HQ.o.mono ?_;rintro e w4 ⟨Cf,I5,⟨p,hx,rfl⟩|⟨hx,⟨h16,rfl⟩|⟨h16,rfl⟩⟩⟩
    ·have HSc4:=A0 I5;have Eb:Hid (Er (l.drop j)=some (⟨p.2,0,[],0⟩,((l.drop j).takeWhile E4).length)):=by
      show _=_;obtain⟨e1,e2⟩:=Aih hx;rw[HTok.o,e1,if_pos (by simpa using e2)]
     clear I5 hx;have Gx:=Cf.blk Ip.o (by omega);obtain⟨y0,y1,y2,y3,fy,ly⟩:=Dw Gx;have C2:Hid (A7 b w w4):=Cg.o.trans Cf;clear Gx Cf;go_wp2;refine bodyPost_ret (v:=.tuple #[.agg #[.int .i64 (p.2:Nat),.int .i64 (lj:Nat),.string ⟨#[]⟩,.int .i64 0],.bool true]) (by simp[results,Tryz.results77,go_sem,y0,y1,y2,y3]) rfl ?_;exact Qk (t:=⟨(p.2:Nat),0,_,_⟩) (A7.Hu C2.o (Nat.le_refl _) _ _ _ _) (HSc4.o.keep (Gw (by omega) _ _ _ _)) HJ.o HLj.o Fh.o HN.o Eb.o
    ·have HSc4:=A0 I5;have Eb:Hid (Er (l.drop j)=none):=by
      show _=_;rw[HTok.o,Zo hx,if_neg (by decide),if_neg (by omega)]
     clear I5 hx h16;have Gx:=Cf.blk Ip.o (by omega);obtain⟨y0,y1,y2,y3,fy,ly⟩:=Dw Gx;have C2:Hid (A7 b w w4):=Cg.o.trans Cf;clear Gx Cf;go_wp2;refine bodyPost_ret (v:=.tuple #[.agg #[.int .i64 0,.int .i64 0,.string ⟨#[]⟩,.int .i64 0],.bool false]) (by simp[results,Tryz.results77,go_sem,y0,y1,y2,y3]) rfl ?_;exact Sx (A7.Hu C2.o (Nat.le_refl _) _ _ _ _) ⟨_,HSc4.o.keep (Gw (by omega) _ _ _ _)⟩ HLj.o Fh.o HN.o Eb.o
    ·have HSc4:=A0 I5;have Eb:Hid (Er (l.drop j)=some (⟨1,0,(l.drop j).takeWhile E4,0⟩,((l.drop j).takeWhile E4).length)):=by
      show _=_;rw[HTok.o,Zo hx,if_neg (by decide),if_pos h16]
     clear I5 hx h16;have Gx:=Cf.blk Ip.o (by omega);obtain⟨y0,y1,y2,y3,fy,ly⟩:=Dw Gx;have C2:Hid (A7 b w w4):=Cg.o.trans Cf;clear Gx Cf;go_wp2;refine bodyPost_ret (v:=.tuple #[.agg #[.int .i64 1,.int .i64 (lj:Nat),.string ⟨((l.drop j).takeWhile E4).toArray⟩,.int .i64 0],.bool true]) (by simp[results,Tryz.results77,go_sem,y0,y1,y2,y3]) rfl ?_;exact Qk (t:=⟨1,0,_,_⟩) (A7.Hu C2.o (Nat.le_refl _) _ _ _ _) (HSc4.o.keep (Gw (by omega) _ _ _ _)) HJ.o HLj.o Fh.o HN.o Eb.o
end
end Go.Proofs.YtjdlndhfaaolaaaGreatDoor
