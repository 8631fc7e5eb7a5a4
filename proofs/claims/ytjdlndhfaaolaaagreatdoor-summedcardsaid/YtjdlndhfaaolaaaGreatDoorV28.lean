import Derived.Test.YtjdlndhfaaolaaaGreatDoorV12
import Derived.Test.YtjdlndhfaaolaaaGreatDoorV26
set_option maxHeartbeats 20000000
namespace Go.Proofs.YtjdlndhfaaolaaaGreatDoor
section
set_option maxRecDepth 100000
open Go.RowKit
def K2:List (List UInt8×Nat):=[([102,110],4),([108,101,116],5),([105,102],6),([101,108,115,101],7),([119,104,105,108,101],8),([114,101,116,117,114,110],9),([98,114,101,97,107],10),([99,111,110,116,105,110,117,101],11),([112,114,105,110,116],12),([116,114,117,101],13),([102,97,108,115,101],14),([110,117,108,108],15),([108,101,110],16),([112,117,115,104],17)]
def Vc:Array Value:=(Yi K2).toArray
theorem Aqf(w:World):∀n (h:n<14),(Instr.index 330 (.agg Vc) (.int .i64 (n:Nat))).run Tryz.prog w=.ok (.agg #[.string ⟨(K2[n]'h).1.toArray⟩,.int .i64 ((K2[n]'h).2:Nat)]) w
 | 0,_=>by kernel_rfl
 | 1,_=>by kernel_rfl
 | 2,_=>by kernel_rfl
 | 3,_=>by kernel_rfl
 | 4,_=>by kernel_rfl
 | 5,_=>by kernel_rfl
 | 6,_=>by kernel_rfl
 | 7,_=>by kernel_rfl
 | 8,_=>by kernel_rfl
 | 9,_=>by kernel_rfl
 | 10,_=>by kernel_rfl
 | 11,_=>by kernel_rfl
 | 12,_=>by kernel_rfl
 | 13,_=>by kernel_rfl
 | n+14,h=>absurd h z4va
def A5g(b te:Nat)(w:World)(l:List UInt8)(i line:Nat)(e:Ending)(w':World):Prop:=
 A9 b w w'/\Sc b te w' l (i+((l.drop i).takeWhile Ec).length) line/\((∃p,K2.find? (fun p=>p.1==(l.drop i).takeWhile Ec)=some p/\e=.returned (.tuple #[.agg #[.int .i64 (p.2:Nat),.int .i64 (line:Nat),.string ⟨#[]⟩,.int .i64 0],.bool true]))\/
  (K2.find? (fun p=>p.1==(l.drop i).takeWhile Ec)=none/\((16<((l.drop i).takeWhile Ec).length/\e=.returned (.tuple #[.agg #[.int .i64 0,.int .i64 0,.string ⟨#[]⟩,.int .i64 0],.bool false]))\/
   (((l.drop i).takeWhile Ec).length<=16/\e=.returned (.tuple #[.agg #[.int .i64 1,.int .i64 (line:Nat),.string ⟨((l.drop i).takeWhile Ec).toArray⟩,.int .i64 0],.bool true])))))
theorem A9z(l:List UInt8)(w:World)(h:l.length<=100000):Calls Tryz.prog 178 #[.string ⟨l.toArray⟩] w fun e w'=>e=.returned (.string ⟨l.toArray⟩)/\Below w.heap.size w w':=by
 have hs:(⟨l.toArray⟩:ByteArray).size<=281474976710656:=by show l.toArray.size<=_;simp;omega
 go_enter Tryz.func178,Tryz.ntmps178;go_wp2_with fail
 refine(Tryz.stringslite_Clone _ _ hs).mono ?_;rintro e w' ⟨rfl,hb⟩;go_wp2;go_ret;exact⟨rfl,hb⟩
theorem Aak{b te tg:Nat}{fr:Nat×Nat}{w:World}{l:List UInt8}{i line:Nat}(h:Sc b te w l i line)(hg:w.heap[0]?=some (.cells Vc tg fr))(Bf:b≠0)(hl:l.length<=100000)(hi:i<l.length) :
  Calls Tryz.prog 125 #[.pointer (some ⟨b,0,none⟩)] w (A5g b te w l i line):=by
 have HSc0:=A0 h;have hlb:=A5 h;have HG0:=A0 hg;clear h hg;go_enter Tryz.func125,Tryz.ntmps125;go_wp2_with fail
 refine(Ak1 (HSc0.o.keep (Below.heap_alloc _ _ _ hlb)) hl z4va).mono ?_;rintro e w1 ⟨rfl,hsc1,Bx⟩;have hg1:=Bx.blk (alloc_old HG0.o) z4va;have Gq:=A0 (Bx.blk (heap_alloc_new w _) z4va);have HSc1:=A0 hsc1;have B3:Hid (A9 b w w1):=((A9.refl b w).alloc _).trans Bx;have Dt:=Bx.size;simp only[World.size_alloc]at Dt;generalize ht:(l.drop i).takeWhile Ec=t at *;have htl:t.length<=100000:=by rw[←ht];have:=(List.takeWhile_sublist Ec (l:=l.drop i)).length_le;simp at this;omega
 have HTt:=A0 ht;clear ht hsc1 Bx HSc0 HG0;go_wp2_with (refine wpList_load_row rfl 330 _ rfl 0 rfl tg _ fr _ hg1 Tryz.underlying330 rfl z4xa ?_)
 clear hg1;go_loopg [10] 14 (fun k v wr=>∃n:Nat,v=.int .i64 n/\n+k=14/\K2.find? (fun p=>p.1==t)=(K2.drop n).find? (fun p=>p.1==t)/\Sc b te wr l (i+t.length) line/\A9 b w wr/\wr.heap[w.heap.size]?=some (.cells #[.int .i64 0,.int .i64 0,.string ⟨#[]⟩,.int .i64 0] 198))
 case atStart=>exact⟨0,rfl,rfl,rfl,HSc1.o,B3.o,Gq.o⟩
 case round=>
  clear HSc1 B3 Gq;obtain⟨n,rfl,hnk,hf,hsc,ho,htk⟩:=hrel;have HF:=A0 hf;have HSc:=A0 hsc;have HO:=A0 ho;have HT:=A0 htk;obtain⟨x0,x1,x2,x3,fx,lx⟩:=E5 htk;obtain⟨c0,c1,c2,fz,lbr⟩:=hsc.cells;have hne:b≠w.heap.size:=by omega
  clear hf hsc ho htk;by_cases hlt:n<14
  ·have hix:=fun W=>Aqf W n hlt;have HF1:=A0 (HF.o.trans (A0p hlt));generalize Vc=sc at *;generalize K2[n]=p at *;clear HF;cases hp:(p.1==t)
   ·have HF2:Hid (K2.find? (fun p=>p.1==t)=(K2.drop (n+1)).find? (fun p=>p.1==t)):=by
     exact z47a
    clear HF1;go_wp2;go_roundg (gk-1)
    case measure=>omega
    case rel=>exact⟨n+1,rfl,by omega,HF2.o,HSc.o.keep (Below.heap_alloc _ _ _ lbr),HO.o.alloc _,alloc_old HT.o⟩
   ·have HF2:Hid (K2.find? (fun p=>p.1==t)=some p):=by
     exact z47a
    clear HF1;go_wp2;have hne2:wr.heap.size≠b:=by omega
    have hne3:wr.heap.size≠w.heap.size:=by omega
    go_region
    all_goals go_wp2
    all_goals
     refine bodyPost_ret (v:=.tuple #[.agg #[.int .i64 (p.2:Nat),.int .i64 (line:Nat),.string ⟨#[]⟩,.int .i64 0],.bool true]) (by simp[results,Tryz.results125,go_sem,x0,x1,x2,x3,lx]) rfl ?_;refine⟨?_,?_,.inl ⟨p,by rw[HTt.o];exact HF2.o,rfl⟩⟩
     ·exact((A9.I9 HO.o (Nat.le_refl _) _ _ _ _).alloc _).drew
     ·rw[HTt.o];exact alloc_old (HSc.o.keep (Hf z4va _ _ _ _))
  ·have HF2:Hid (K2.find? (fun p=>p.1==t)=none):=by
    show _=_;rw[HF.o,show n=14 by omega];rfl
   clear HF;by_cases h16:16<t.length
   ·have t16:decide (16<(t.length:Int))=true:=decide_eq_true z4va;have H16:=A0 h16;clear h16;go_wp2;refine bodyPost_ret (v:=.tuple #[.agg #[.int .i64 0,.int .i64 0,.string ⟨#[]⟩,.int .i64 0],.bool false]) (by simp[results,Tryz.results125,go_sem,x0,x1,x2,x3]) rfl ?_;refine⟨A9.I9 HO.o (Nat.le_refl _) _ _ _ _,by rw[HTt.o];exact HSc.o.keep (Hf z4va _ _ _ _),.inr ⟨by rw[HTt.o];exact HF2.o,.inl ⟨by rw[HTt.o];exact H16.o,rfl⟩⟩⟩
   ·have t16:decide (16<(t.length:Int))=false:=decide_eq_false z4va;have H16:=A0 h16;clear h16;go_wp2;have HT':Hid (wr.drew.heap[w.heap.size]?=some (.cells #[.int .i64 0,.int .i64 0,.string ⟨#[]⟩,.int .i64 0] 198 (0,0))):=HT.o;have HSc':Hid (Sc b te wr.drew l (i+t.length) line):=HSc.o.keep rfl;go_region_with (go_at_call 178;refine(A9z _ _ htl).mono ?_;rintro e w5 ⟨rfl,Ch⟩;have hT5:=Fq Ch HT'.o;have hSc5:Sc b te w5 l (i+t.length) line:=Fq Ch HSc'.o;obtain⟨y0,y1,y2,y3,fy,ly⟩:=E5 hT5;obtain⟨q0,q1,q2,fq,lq⟩:=hSc5.cells;have HSc5:=A0 hSc5;have E4:=A0 Ch;clear hT5 hSc5 Ch)
    all_goals go_wp2
    all_goals refine bodyPost_ret (v:=.tuple #[.agg #[.int .i64 1,.int .i64 (line:Nat),.string ⟨t.toArray⟩,.int .i64 0],.bool true]) (by simp[results,Tryz.results125,go_sem,y0,y1,y2,y3]) rfl ?_
    all_goals refine⟨A9.I9 (HO.o.drew.trans (Below.only E4.o)) (Nat.le_refl _) _ _ _ _,by rw[HTt.o];exact HSc5.o.keep (Hf z4va _ _ _ _),.inr ⟨by rw[HTt.o];exact HF2.o,.inr ⟨by rw[HTt.o];exact Nat.le_of_not_lt H16.o,by rw[HTt.o]⟩⟩⟩
theorem Apc:∀(l:List UInt8),(∀c∈l,De c=true)->∀acc:Nat,acc<=18446744073709551615->
  (Hr acc l<=18446744073709551615->Lib.parseUintM 18446744073709551615 acc l=.ok (Hr acc l).toNat)/\(18446744073709551615<Hr acc l->Lib.parseUintM 18446744073709551615 acc l=.range):=by
 intro l;induction l with
 | nil=>intro _ acc ha;exact⟨fun _=>by simp[Lib.parseUintM,Hr],fun h=>by simp only[Hr]at h;omega⟩
 | cons c r ih=>
  intro hd acc ha;have hc:=hd c (List.mem_cons_self ..);have hr:∀c∈r,De c=true:=fun x hx=>hd x (List.mem_cons_of_mem _ hx);have He:48<=c.toNat/\c.toNat<=57:=by
   unfold De at hc;simpa using hc
  have he:Hr acc (c::r)=Hr ((acc*10+(c.toNat-48):Nat):Int) r:=by
   rw[Hr];congr 1
   omega
  have hge:=l6 r hr ((acc*10+(c.toNat-48):Nat):Int) z4va;rw[he];simp only[Lib.parseUintM];rw[if_pos He];by_cases h1:1844674407370955162<=acc
  ·rw[if_pos h1];exact⟨fun h=>by omega,fun _=>rfl⟩
  ·rw[if_neg h1];by_cases h2:18446744073709551615<acc*10+(c.toNat-48)
   ·rw[if_pos h2];exact⟨fun h=>by omega,fun _=>rfl⟩
   ·rw[if_neg h2];exact ih hr _ z4va
theorem Abp{c:UInt8}(h:De c=true):c.toNat≠43/\c.toNat≠45:=by
 unfold De at h;simp at h;omega
theorem Ahk(c:UInt8)(r:List UInt8)(hd:∀x∈c::r,De x=true):Lib.parseIntB 64 (c::r)=match numOf (c::r) with
  | some v=>.ok v
  | none=>.range:=by
 have hc:=Abp (hd c (List.mem_cons_self ..));have hge:=l6 (c::r) hd 0 z4va;have e:(2:Nat) ^ 64-1=18446744073709551615:=by decide
 have e2:(2:Nat) ^ (64-1)=9223372036854775808:=by decide
 rw[Lib.parseIntB_plain 64 c r hc.1 hc.2];unfold Lib.parseUintB;rw[if_neg z50a,e,e2];have h:=Apc (c::r) hd 0 z4va;unfold numOf So;by_cases h1:Hr ((0:Nat):Int) (c::r)<=18446744073709551615
 ·rw[h.1 h1];simp only[Lib.signlessC];have h0:Hr ((0:Nat):Int) (c::r)=Hr 0 (c::r):=rfl;rw[h0]at h1 ⊢;by_cases h2:Hr 0 (c::r)<=9223372036854775807
  ·rw[if_pos h2,if_neg z4va];simp only;congr 1
   omega
  ·rw[if_neg h2,if_pos z4va]
 ·rw[h.2 z4va];have h0:Hr ((0:Nat):Int) (c::r)=Hr 0 (c::r):=rfl;rw[h0]at h1;rw[if_neg z4va];rfl
def A5h(b te:Nat)(w:World)(l:List UInt8)(i line:Nat)(e:Ending)(w':World):Prop:=
 A9 b w w'/\Sc b te w' l (i+((l.drop i).takeWhile De).length) line/\((∃v,numOf ((l.drop i).takeWhile De)=some v/\e=.returned (.tuple #[.agg #[.int .i64 2,.int .i64 (line:Nat),.string ⟨#[]⟩,.int .i64 v],.bool true]))\/
  (numOf ((l.drop i).takeWhile De)=none/\e=.returned (.tuple #[.agg #[.int .i64 0,.int .i64 0,.string ⟨#[]⟩,.int .i64 0],.bool false])))
theorem Agb{p:UInt8->Bool}{x:UInt8}:∀{l:List UInt8},x∈l.takeWhile p->p x=true:=by
 intro l;induction l with
 | nil=>intro h;simp at h
 | cons c r ih=>
  intro h;rw[List.takeWhile_cons]at h;split at h
  ·rename_i hc;rcases List.mem_cons.1 h with e|e
   ·rw[e];exact hc
   ·exact ih e
  ·simp at h
theorem Aao{b te:Nat}{ev:Value}{w:World}{l:List UInt8}{i line:Nat}(h:Sc b te w l i line)(hv:w.cell? ⟨3,0,none⟩=some ev)(hev:ev=.nilIface\/∃te pe,ev=.iface te pe)(Bf:b≠3)(hl:l.length<=100000)(hi:i<l.length)(hd:De l[i]=true) :
  Calls Tryz.prog 127 #[.pointer (some ⟨b,0,none⟩)] w (A5h b te w l i line):=by
 have HSc0:=A0 h;have hlb:=A5 h;have HV0:=A0 hv;clear h hv;go_enter Tryz.func127,Tryz.ntmps127;go_wp2_with fail
 refine(Ak0 (HSc0.o.keep (Below.heap_alloc _ _ _ hlb)) hl z4va).mono ?_;rintro e w1 ⟨rfl,hsc1,Bx⟩;have Gq:=A0 (Bx.blk (heap_alloc_new w _) z4va);have HSc1:=A0 hsc1;have B3:Hid (A9 b w w1):=((A9.refl b w).alloc _).trans Bx;have Dt:=Bx.size;simp only[World.size_alloc]at Dt;have lv:3<w.heap.size:=block_lt_of_cell HV0.o;have HV1:Hid (w1.cell? ⟨3,0,none⟩=some ev):=(World.cell?_of_block (B3.o.block _ lv (fun e=>Bf e.symm))).trans HV0.o;generalize ht:(l.drop i).takeWhile De=t at *;have htl:t.length<=100000:=by rw[←ht];have:=(List.takeWhile_sublist De (l:=l.drop i)).length_le;simp at this;omega
 have htd:∀c∈t,De c=true:=by
  intro c hc;rw[←ht]at hc;exact Agb hc
 obtain⟨c0,r0,hcr⟩:∃c r,t=c::r:=by
  rw[←ht,List.drop_eq_getElem_cons hi,List.takeWhile_cons_of_pos hd];exact⟨_,_,rfl⟩
 have hpi:Lib.parseIntB 64 t=match numOf t with
  | some v=>.ok v
  | none=>.range:=by rw[hcr];exact Ahk c0 r0 (by rw[←hcr];exact htd)
 have HTt:=A0 ht;clear ht hsc1 Bx HSc0 HV0 htd hcr;cases hn:numOf t with
 | some v=>
  rw[hn]at hpi;have HN:=A0 hn;have HPI:=A0 hpi;clear hn hpi;go_wp2_with fail
  refine(Tryz.strconv_ParseInt_10_at64_ok ⟨t.toArray⟩ (by show t.toArray.size<=_;simp;omega) v (by simpa using HPI.o) _).mono ?_;rintro e w2 ⟨rfl,Fk⟩;have A8:Below w1.heap.size w1 w2:=by
   rcases Fk with rfl|⟨t',rfl⟩
   ·exact Below.refl _ _
   ·exact Lib.bytesWorld_below _ _ _
  have Jd:=Fq A8 Gq.o;have hSc2:Sc b te w2 l (i+t.length) line:=Fq A8 HSc1.o;obtain⟨y0,y1,y2,y3,fy,ly⟩:=E5 Jd;obtain⟨q0,q1,q2,fq,lq⟩:=hSc2.cells;have HSc2:=A0 hSc2;have Bh:Hid (A9 b w w2):=B3.o.trans (Below.only A8);clear Jd hSc2 A8 Fk;go_wp2;refine bodyPost_ret (v:=.tuple #[.agg #[.int .i64 2,.int .i64 (line:Nat),.string ⟨#[]⟩,.int .i64 v],.bool true]) (by simp[results,Tryz.results127,go_sem,y0,y1,y2,y3]) rfl ?_;exact⟨A9.I9 Bh.o (Nat.le_refl _) _ _ _ _,by rw[HTt.o];exact HSc2.o.keep (Hf z4va _ _ _ _),.inl ⟨v,by rw[HTt.o];exact HN.o,rfl⟩⟩
 | none=>
  rw[hn]at hpi;have HN:=A0 hn;have HPI:=A0 hpi;clear hn hpi;go_wp2_with fail
  refine(Tryz.strconv_ParseInt_10_at64_range ⟨t.toArray⟩ (by show t.toArray.size<=_;simp;omega) (by simpa using HPI.o) ev _ HV1.o hev).mono ?_;rintro e w2 ⟨N,rfl,_,_,A8⟩;have Jd:=Fq A8 Gq.o;have hSc2:Sc b te w2 l (i+t.length) line:=Fq A8 HSc1.o;obtain⟨y0,y1,y2,y3,fy,ly⟩:=E5 Jd;have HSc2:=A0 hSc2;have Bh:Hid (A9 b w w2):=B3.o.trans (Below.only A8);clear Jd hSc2 A8;go_wp2;refine bodyPost_ret (v:=.tuple #[.agg #[.int .i64 0,.int .i64 0,.string ⟨#[]⟩,.int .i64 0],.bool false]) (by simp[results,Tryz.results127,go_sem,y0,y1,y2,y3]) rfl ?_;exact⟨A9.I9 Bh.o (Nat.le_refl _) _ _ _ _,by rw[HTt.o];exact HSc2.o.keep (Hf z4va _ _ _ _),.inr ⟨by rw[HTt.o];exact HN.o,rfl⟩⟩
end
section
open Go.RowKit
theorem A4z(t:List UInt8):Lw t=((K2.find? fun p=>p.1==t).map (·.2)).getD 0:=by
 by_cases h0:t=[102,110]
 ·subst h0;rfl
 by_cases h1:t=[108,101,116]
 ·subst h1;rfl
 by_cases h2:t=[105,102]
 ·subst h2;rfl
 by_cases h3:t=[101,108,115,101]
 ·subst h3;rfl
 by_cases h4:t=[119,104,105,108,101]
 ·subst h4;rfl
 by_cases h5:t=[114,101,116,117,114,110]
 ·subst h5;rfl
 by_cases h6:t=[98,114,101,97,107]
 ·subst h6;rfl
 by_cases h7:t=[99,111,110,116,105,110,117,101]
 ·subst h7;rfl
 by_cases h8:t=[112,114,105,110,116]
 ·subst h8;rfl
 by_cases h9:t=[116,114,117,101]
 ·subst h9;rfl
 by_cases h10:t=[102,97,108,115,101]
 ·subst h10;rfl
 by_cases h11:t=[110,117,108,108]
 ·subst h11;rfl
 by_cases h12:t=[108,101,110]
 ·subst h12;rfl
 by_cases h13:t=[112,117,115,104]
 ·subst h13;rfl
 unfold Lw K2;simp only[beq_eq_false_iff_ne.2 h0,beq_eq_false_iff_ne.2 h1,beq_eq_false_iff_ne.2 h2,beq_eq_false_iff_ne.2 h3,beq_eq_false_iff_ne.2 h4,beq_eq_false_iff_ne.2 h5,beq_eq_false_iff_ne.2 h6,beq_eq_false_iff_ne.2 h7,beq_eq_false_iff_ne.2 h8,beq_eq_false_iff_ne.2 h9,beq_eq_false_iff_ne.2 h10,beq_eq_false_iff_ne.2 h11,beq_eq_false_iff_ne.2 h12,beq_eq_false_iff_ne.2 h13,beq_eq_false_iff_ne.2 (Ne.symm h0),beq_eq_false_iff_ne.2 (Ne.symm h1),beq_eq_false_iff_ne.2 (Ne.symm h2),beq_eq_false_iff_ne.2 (Ne.symm h3),beq_eq_false_iff_ne.2 (Ne.symm h4),beq_eq_false_iff_ne.2 (Ne.symm h5),beq_eq_false_iff_ne.2 (Ne.symm h6),beq_eq_false_iff_ne.2 (Ne.symm h7),beq_eq_false_iff_ne.2 (Ne.symm h8),beq_eq_false_iff_ne.2 (Ne.symm h9),beq_eq_false_iff_ne.2 (Ne.symm h10),beq_eq_false_iff_ne.2 (Ne.symm h11),beq_eq_false_iff_ne.2 (Ne.symm h12),beq_eq_false_iff_ne.2 (Ne.symm h13),Bool.false_eq_true,if_false,List.find?_cons,List.find?_nil,Option.map_none,Option.getD_none]
theorem Aqg{t:List UInt8}{p:List UInt8×Nat}(h:(K2.find? fun p=>p.1==t)=some p):Lw t=p.2/\p.2≠0:=by
 refine⟨by rw[A4z,h];rfl,?_⟩;have:∀q∈K2,q.2≠0:=by decide
 exact this p (List.mem_of_find?_eq_some h)
theorem A50{t:List UInt8}(h:(K2.find? fun p=>p.1==t)=none):Lw t=0:=by rw[A4z,h];rfl
theorem A39(c a:UInt8)(r:List UInt8):Gk (c::r) [a]=(c==a):=by
 unfold Gk;simp
theorem Aht(c d a b:UInt8)(r:List UInt8):Gk (c::d::r) [a,b]=(c==a&&d==b):=by
 unfold Gk;rw[Bool.eq_iff_iff];simp
theorem Ahu(c a b:UInt8):Gk [c] [a,b]=false:=by
 unfold Gk;simp
def Qf(l:List UInt8):Prop:=(∃p,K8.find? (fun p=>Gk l p.1)=some p/\Gn l=(p.2,p.1.length)/\p.1.length≠0)\/(K8.find? (fun p=>Gk l p.1)=none/\Gn l=(0,0))
theorem z17a {P:Prop} (h:P:=by
  simp only[beq_eq_false_iff_ne.2 o40,beq_eq_false_iff_ne.2 o41,beq_eq_false_iff_ne.2 o123,beq_eq_false_iff_ne.2 o125,beq_eq_false_iff_ne.2 o91,beq_eq_false_iff_ne.2 o93,beq_eq_false_iff_ne.2 o44,beq_eq_false_iff_ne.2 o59,beq_eq_false_iff_ne.2 o61,beq_eq_false_iff_ne.2 o33,beq_eq_false_iff_ne.2 o60,beq_eq_false_iff_ne.2 o62,beq_eq_false_iff_ne.2 o43,beq_eq_false_iff_ne.2 o45,beq_eq_false_iff_ne.2 o42,beq_eq_false_iff_ne.2 o47,beq_eq_false_iff_ne.2 o37,Bool.false_eq_true,if_false];rfl):P:=h
theorem sign_one(c:UInt8):Qf [c]:=by
 unfold Qf K8;simp only[List.find?_cons,List.find?_nil,Ahu,A39];by_cases o40:c=40
 ·subst o40;exact .inl ⟨([40],18),rfl,rfl,by decide⟩
 by_cases o41:c=41
 ·subst o41;exact .inl ⟨([41],19),rfl,rfl,by decide⟩
 by_cases o123:c=123
 ·subst o123;exact .inl ⟨([123],20),rfl,rfl,by decide⟩
 by_cases o125:c=125
 ·subst o125;exact .inl ⟨([125],21),rfl,rfl,by decide⟩
 by_cases o91:c=91
 ·subst o91;exact .inl ⟨([91],22),rfl,rfl,by decide⟩
 by_cases o93:c=93
 ·subst o93;exact .inl ⟨([93],23),rfl,rfl,by decide⟩
 by_cases o44:c=44
 ·subst o44;exact .inl ⟨([44],24),rfl,rfl,by decide⟩
 by_cases o59:c=59
 ·subst o59;exact .inl ⟨([59],25),rfl,rfl,by decide⟩
 by_cases o61:c=61
 ·subst o61;exact .inl ⟨([61],26),rfl,rfl,by decide⟩
 by_cases o33:c=33
 ·subst o33;exact .inl ⟨([33],28),rfl,rfl,by decide⟩
 by_cases o60:c=60
 ·subst o60;exact .inl ⟨([60],30),rfl,rfl,by decide⟩
 by_cases o62:c=62
 ·subst o62;exact .inl ⟨([62],32),rfl,rfl,by decide⟩
 by_cases o43:c=43
 ·subst o43;exact .inl ⟨([43],34),rfl,rfl,by decide⟩
 by_cases o45:c=45
 ·subst o45;exact .inl ⟨([45],35),rfl,rfl,by decide⟩
 by_cases o42:c=42
 ·subst o42;exact .inl ⟨([42],36),rfl,rfl,by decide⟩
 by_cases o47:c=47
 ·subst o47;exact .inl ⟨([47],37),rfl,rfl,by decide⟩
 by_cases o37:c=37
 ·subst o37;exact .inl ⟨([37],38),rfl,rfl,by decide⟩
 right;simp only[beq_eq_false_iff_ne.2 o40,beq_eq_false_iff_ne.2 o41,beq_eq_false_iff_ne.2 o123,beq_eq_false_iff_ne.2 o125,beq_eq_false_iff_ne.2 o91,beq_eq_false_iff_ne.2 o93,beq_eq_false_iff_ne.2 o44,beq_eq_false_iff_ne.2 o59,beq_eq_false_iff_ne.2 o61,beq_eq_false_iff_ne.2 o33,beq_eq_false_iff_ne.2 o60,beq_eq_false_iff_ne.2 o62,beq_eq_false_iff_ne.2 o43,beq_eq_false_iff_ne.2 o45,beq_eq_false_iff_ne.2 o42,beq_eq_false_iff_ne.2 o47,beq_eq_false_iff_ne.2 o37];refine⟨trivial,?_⟩;unfold Gn Ir;exact z17a
theorem Alw(c d:UInt8)(r:List UInt8):Qf (c::d::r):=by
 unfold Qf K8;simp only[List.find?_cons,List.find?_nil,Aht,A39];cases t27:(c==61&&d==61)
 case true=>
  simp only[Bool.and_eq_true,beq_iff_eq]at t27;obtain⟨rfl,rfl⟩:=t27;exact .inl ⟨([61,61],27),rfl,rfl,by decide⟩
 cases t29:(c==33&&d==61)
 case true=>
  simp only[Bool.and_eq_true,beq_iff_eq]at t29;obtain⟨rfl,rfl⟩:=t29;exact .inl ⟨([33,61],29),rfl,rfl,by decide⟩
 cases t31:(c==60&&d==61)
 case true=>
  simp only[Bool.and_eq_true,beq_iff_eq]at t31;obtain⟨rfl,rfl⟩:=t31;exact .inl ⟨([60,61],31),rfl,rfl,by decide⟩
 cases t33:(c==62&&d==61)
 case true=>
  simp only[Bool.and_eq_true,beq_iff_eq]at t33;obtain⟨rfl,rfl⟩:=t33;exact .inl ⟨([62,61],33),rfl,rfl,by decide⟩
 cases t39:(c==38&&d==38)
 case true=>
  simp only[Bool.and_eq_true,beq_iff_eq]at t39;obtain⟨rfl,rfl⟩:=t39;exact .inl ⟨([38,38],39),rfl,rfl,by decide⟩
 cases t40:(c==124&&d==124)
 case true=>
  simp only[Bool.and_eq_true,beq_iff_eq]at t40;obtain⟨rfl,rfl⟩:=t40;exact .inl ⟨([124,124],40),rfl,rfl,by decide⟩
 have h2:Kg c d=0:=by
  unfold Kg;simp only[t27,t29,t31,t33,t39,t40,Bool.false_eq_true,if_false]
 have hs:Gn (c::d::r)=if Ir c==0 then(0,0) else(Ir c,1):=by
  rw[Gn,h2];rfl
 rw[hs];clear hs h2 t27 t29 t31 t33 t39 t40;by_cases o40:c=40
 ·subst o40;exact .inl ⟨([40],18),rfl,rfl,by decide⟩
 by_cases o41:c=41
 ·subst o41;exact .inl ⟨([41],19),rfl,rfl,by decide⟩
 by_cases o123:c=123
 ·subst o123;exact .inl ⟨([123],20),rfl,rfl,by decide⟩
 by_cases o125:c=125
 ·subst o125;exact .inl ⟨([125],21),rfl,rfl,by decide⟩
 by_cases o91:c=91
 ·subst o91;exact .inl ⟨([91],22),rfl,rfl,by decide⟩
 by_cases o93:c=93
 ·subst o93;exact .inl ⟨([93],23),rfl,rfl,by decide⟩
 by_cases o44:c=44
 ·subst o44;exact .inl ⟨([44],24),rfl,rfl,by decide⟩
 by_cases o59:c=59
 ·subst o59;exact .inl ⟨([59],25),rfl,rfl,by decide⟩
 by_cases o61:c=61
 ·subst o61;exact .inl ⟨([61],26),rfl,rfl,by decide⟩
 by_cases o33:c=33
 ·subst o33;exact .inl ⟨([33],28),rfl,rfl,by decide⟩
 by_cases o60:c=60
 ·subst o60;exact .inl ⟨([60],30),rfl,rfl,by decide⟩
 by_cases o62:c=62
 ·subst o62;exact .inl ⟨([62],32),rfl,rfl,by decide⟩
 by_cases o43:c=43
 ·subst o43;exact .inl ⟨([43],34),rfl,rfl,by decide⟩
 by_cases o45:c=45
 ·subst o45;exact .inl ⟨([45],35),rfl,rfl,by decide⟩
 by_cases o42:c=42
 ·subst o42;exact .inl ⟨([42],36),rfl,rfl,by decide⟩
 by_cases o47:c=47
 ·subst o47;exact .inl ⟨([47],37),rfl,rfl,by decide⟩
 by_cases o37:c=37
 ·subst o37;exact .inl ⟨([37],38),rfl,rfl,by decide⟩
 right;simp only[beq_eq_false_iff_ne.2 o40,beq_eq_false_iff_ne.2 o41,beq_eq_false_iff_ne.2 o123,beq_eq_false_iff_ne.2 o125,beq_eq_false_iff_ne.2 o91,beq_eq_false_iff_ne.2 o93,beq_eq_false_iff_ne.2 o44,beq_eq_false_iff_ne.2 o59,beq_eq_false_iff_ne.2 o61,beq_eq_false_iff_ne.2 o33,beq_eq_false_iff_ne.2 o60,beq_eq_false_iff_ne.2 o62,beq_eq_false_iff_ne.2 o43,beq_eq_false_iff_ne.2 o45,beq_eq_false_iff_ne.2 o42,beq_eq_false_iff_ne.2 o47,beq_eq_false_iff_ne.2 o37];refine⟨trivial,?_⟩;unfold Ir;exact z17a
theorem Alu(c:UInt8)(r:List UInt8):Qf (c::r):=by
 cases r with
 | nil=>exact sign_one c
 | cons d r=>exact Alw c d r
end
section
set_option maxRecDepth 100000
open Go.RowKit
def Vh(b te:Nat)(w:World)(l:List UInt8)(i line:Nat)(e:Ending)(w':World):Prop:=
 A9 b w w'/\((∃x,(Fv (l.drop i)).2=some x/\e=.returned (.tuple #[.agg #[.int .i64 (x.1.k:Nat),.int .i64 ((line+(Fv (l.drop i)).1:Nat):Nat),.string ⟨x.1.s.toArray⟩,.int .i64 x.1.n],.bool true])/\Sc b te w' l (i+x.2) (line+(Fv (l.drop i)).1))\/
  ((Fv (l.drop i)).2=none/\e=.returned (.tuple #[.agg #[.int .i64 0,.int .i64 0,.string ⟨#[]⟩,.int .i64 0],.bool false])/\∃j,Sc b te w' l j (line+(Fv (l.drop i)).1)))
structure It (w : World) : Prop where
 signs:∃tg fr,w.heap[1]?=some (.cells Uz tg fr)
 words:∃tg fr,w.heap[0]?=some (.cells Vc tg fr)
 range:∃ev,w.cell? ⟨3,0,none⟩=some ev/\(ev=.nilIface\/∃te pe,ev=.iface te pe)
theorem It.keep{w w':World}(h:It w)(hk:∀k,k<4->k<w.heap.size->w'.heap[k]?=w.heap[k]?):It w':=by
 obtain⟨⟨t1,f1,h1⟩,⟨t2,f2,h2⟩,⟨ev,h3,h4⟩⟩:=h;exact⟨⟨t1,f1,(hk _ z4wa (A5 h1)).trans h1⟩,⟨t2,f2,(hk _ z4wa (A5 h2)).trans h2⟩,⟨ev,(World.cell?_of_block (hk _ z4wa (block_lt_of_cell h3))).trans h3,h4⟩⟩
theorem It.only{b:Nat}{w w':World}(h:It w)(ho:A9 b w w')(hb:4<=b):It w':=h.keep (fun k h1 h2=>ho.block k h2 z4va)
theorem It.below{w w':World}(h:It w)(ho:Below w.heap.size w w'):It w':=h.keep (fun k _ h2=>ho.block k h2)
theorem Agq{l:List UInt8}{i:Nat}(hok:(Ba false (l.drop i)).2.2=true)(hlt:i+(Ba false (l.drop i)).1<l.length):(Fv (l.drop i)).2=(F5 (l.drop (i+(Ba false (l.drop i)).1))).map fun x=>(x.1,(Ba false (l.drop i)).1+x.2):=by
 unfold Fv;simp only[hok,if_true,List.drop_drop];rw[List.drop_eq_getElem_cons hlt,Px]
theorem Aft{c:UInt8}(h:isLet c=true):De c=false:=by
 unfold isLet at h;unfold De;simp only[Bool.or_eq_true,Bool.and_eq_true,decide_eq_true_eq]at h;rw[Bool.and_eq_false_iff];by_cases h1:c.toNat<=57
 ·left;rw[decide_eq_false_iff_not];omega
 ·right;rw[decide_eq_false_iff_not];exact h1
theorem Sr{b te:Nat}{w W:World}{l:List UInt8}{i line j lj n m len:Nat}{t:Tk}(hO:A9 b w W)(hsc:Sc b te W l (j+len) lj)(hj:i+n=j)(hlj:line+m=lj)(h1:(Fv (l.drop i)).1=m)(hN:(Fv (l.drop i)).2=(F5 (l.drop j)).map fun x=>(x.1,n+x.2))(ht:F5 (l.drop j)=some (t,len)) :
  Vh b te w l i line (.returned (.tuple #[.agg #[.int .i64 (t.k:Nat),.int .i64 (lj:Nat),.string ⟨t.s.toArray⟩,.int .i64 t.n],.bool true])) W:=by
 refine⟨hO,.inl ⟨(t,n+len),by rw[hN,ht];rfl,by rw[h1,hlj],?_⟩⟩;rw[h1,hlj,show i+(n+len)=j+len by omega];exact hsc
theorem Um{b te:Nat}{w W:World}{l:List UInt8}{i line j lj n m:Nat}(hO:A9 b w W)(hsc:∃q,Sc b te W l q lj)(hlj:line+m=lj)(h1:(Fv (l.drop i)).1=m)(hN:(Fv (l.drop i)).2=(F5 (l.drop j)).map fun x=>(x.1,n+x.2))(ht:F5 (l.drop j)=none) :
  Vh b te w l i line (.returned (.tuple #[.agg #[.int .i64 0,.int .i64 0,.string ⟨#[]⟩,.int .i64 0],.bool false])) W:=by
 refine⟨hO,.inr ⟨by rw[hN,ht];rfl,rfl,?_⟩⟩;rw[h1,hlj];exact hsc
theorem z5ca {P:Prop} (h:P:=by simp[results,Tryz.results77,go_sem,y0,y1,y2,y3]):P:=h
theorem z0ja {P:Prop} (h:P:=by
  have H9:=Cl.blk HT3.o z4va;obtain⟨y0,y1,y2,y3,fy,ly⟩:=E5 H9;have C2:Hid (A9 b w w4):=Ck.o.trans Cl;clear H9 Cl;go_wp2;refine bodyPost_ret (v:=.tuple #[.agg #[.int .i64 0,.int .i64 0,.string ⟨#[]⟩,.int .i64 0],.bool false]) z5ca rfl ?_;exact Um (A9.I9 C2.o (Nat.le_refl _) _ _ _ _) ⟨_,HSc4.o.keep (Hf z4va _ _ _ _)⟩ HLj.o Fb.o HN.o Ef.o):P:=h
theorem z1da {P:Prop} (h:P:=by
  clear Il hx;have H9:=Cl.blk HT3.o z4va;obtain⟨y0,y1,y2,y3,fy,ly⟩:=E5 H9;have C2:Hid (A9 b w w4):=Ck.o.trans Cl;clear H9 Cl;go_wp2;refine bodyPost_ret (v:=.tuple #[.agg #[.int .i64 (p.2:Nat),.int .i64 (lj:Nat),.string ⟨#[]⟩,.int .i64 0],.bool true]) z5ca rfl ?_;exact Sr (t:=⟨(p.2:Nat),0,_,_⟩) (A9.I9 C2.o (Nat.le_refl _) _ _ _ _) (HSc4.o.keep (Hf z4va _ _ _ _)) HJ.o HLj.o Fb.o HN.o Ef.o):P:=h
theorem z3ua {P:Prop} (h:P:=by
  have HSc4:=A0 Il;have Ef:Hid (F5 (l.drop j)=none):=by show _=_;rw[HTok.o,hx]
  clear Il hx;exact z0ja):P:=h
theorem Agl{b te:Nat}{w:World}{l:List UInt8}{i line:Nat}(h:Sc b te w l i line)(hg:It w)(Bf:4<=b)(hl:l.length<=100000)(hi:i<=l.length)(hln:line<=i+1) :
  Calls Tryz.prog 77 #[.pointer (some ⟨b,0,none⟩)] w (Vh b te w l i line):=by
 have HSc0:=A0 h;have HG0:=A0 hg;have hlb:=A5 h;have HLe:=A0 (Ye (l.drop i) false);clear h hg;go_enter Tryz.func77,Tryz.ntmps77;go_wp2_with fail
 refine(Aly (HSc0.o.keep (Below.heap_alloc _ _ _ hlb)) hl hi hln).mono ?_;rintro e w1 ⟨rfl,hsc1,Bx⟩;have Gq:=A0 (Bx.blk (heap_alloc_new w (.cells #[.int .i64 0,.int .i64 0,.string ⟨#[]⟩,.int .i64 0] 198)) z4va);have HSc1:=A0 hsc1;have B3:Hid (A9 b w w1):=((A9.refl b w).alloc _).trans Bx;have HG1:=A0 (HG0.o.only B3.o Bf);have Dt:=Bx.size;simp only[World.size_alloc]at Dt;have Fb:Hid ((Fv (l.drop i)).1=(Ba false (l.drop i)).2.1):=rfl;have HTk:=A0 (fun h1 h2=>Agq (l:=l) (i:=i) h1 h2);have HEnd:Hid ((Ba false (l.drop i)).2.2=true->i+(Ba false (l.drop i)).1=l.length->(Fv (l.drop i)).2=some (⟨0,0,[],0⟩,(Ba false (l.drop i)).1)):=by
  intro h1 h2;unfold Fv;simp only[h1,if_true,List.drop_drop];have hd:l.drop (i+(Ba false (l.drop i)).1)=[]:=List.drop_of_length_le z4va;rw[hd,Px]
 have HNo:Hid ((Ba false (l.drop i)).2.2=false->(Fv (l.drop i)).2=none):=by
  intro h1;unfold Fv;simp[h1]
 have hle:=HLe.o.1;rw[List.length_drop]at hle;have hle2:=HLe.o.2;generalize hsn:(Ba false (l.drop i)).1=n at *;generalize hsm:(Ba false (l.drop i)).2.1=m at *;obtain⟨x0,x1,x2,x3,fx,lx⟩:=E5 Gq.o;obtain⟨c0,c1,c2,fz,Bj⟩:=hsc1.cells;clear hsc1 Bx HSc0 HG0 HLe hsn hsm;cases hok:(Ba false (l.drop i)).2.2
 ·have HN:=A0 (HNo.o hok);clear HTk HEnd HNo hok;go_wp2;refine bodyPost_ret (v:=.tuple #[.agg #[.int .i64 0,.int .i64 0,.string ⟨#[]⟩,.int .i64 0],.bool false]) (by simp[results,Tryz.results77,go_sem,x0,x1,x2,x3]) rfl ?_;exact⟨A9.I9 B3.o (Nat.le_refl _) _ _ _ _,.inr ⟨HN.o,rfl,_,by rw[Fb.o];exact HSc1.o.keep (Hf z4va _ _ _ _)⟩⟩
 ·by_cases hend:i+n=l.length
  ·have HN:=A0 (HEnd.o hok hend);have t1:(((i+n:Nat):Int)==(l.length:Int))=true:=by rw[hend];simp
   clear HTk HEnd HNo hok;have HEn:=A0 hend;clear hend;go_wp2;go_quiet (fail)
   go_wp2;refine bodyPost_ret (v:=.tuple #[.agg #[.int .i64 0,.int .i64 ((line+m:Nat):Nat),.string ⟨#[]⟩,.int .i64 0],.bool true]) (by simp[results,Tryz.results77,go_sem,x0,x1,x2,x3]) rfl ?_;exact⟨A9.I9 (B3.o.drewN nq) (Nat.le_refl _) _ _ _ _,.inl ⟨_,HN.o,by rw[Fb.o];rfl,by rw[Fb.o];exact HSc1.o.keep (Hf (w:=w1.drewN nq) z4va _ _ _ _)⟩⟩
  ·have hlt:i+n<l.length:=by omega
   have HN:=A0 (HTk.o hok hlt);clear HTk HEnd HNo hok hend;have hlm:line+m<=100001:=by omega
   generalize hj:i+n=j at *;have HJ:=A0 hj;generalize hlj:line+m=lj at *;have HLj:=A0 hlj;clear hj hlj;have t1:((j:Int)==(l.length:Int))=false:=by rw[beq_eq_false_iff_ne];omega
   have hE:∀h,((⟨l.toArray⟩:ByteArray)[j]'h)=l[j]:=fun h=>Pk l j h;go_wp2;go_quiet (fail)
   have HSc2:Hid (Sc b te (w1.drewN nq) l j lj):=HSc1.o.keep rfl;have Bh:Hid (A9 b w (w1.drewN nq)):=B3.o.drewN _;have HT2:Hid ((w1.drewN nq).heap[w.heap.size]?=_):=Gq.o;have HG2:Hid (It (w1.drewN nq)):=HG1.o.keep (fun _ _ _=>rfl);have Fa:w.heap.size+1<=(w1.drewN nq).heap.size:=Dt;clear x0 x1 x2 x3 fx lx c0 c1 c2 fz Bj HSc1 B3 Gq HG1 Dt;generalize w1.drewN nq=w2 at *;obtain⟨c0,c1,c2,fz,Bj⟩:=HSc2.o.cells;go_wp2;go_quiet (fail)
   have HSc3:Hid (Sc b te (w2.drewN nq) l j lj):=HSc2.o.keep rfl;have Ck:Hid (A9 b w (w2.drewN nq)):=Bh.o.drewN _;have HT3:Hid ((w2.drewN nq).heap[w.heap.size]?=_):=HT2.o;have HG3:Hid (It (w2.drewN nq)):=HG2.o.keep (fun _ _ _=>rfl);have lw3:w.heap.size+1<=(w2.drewN nq).heap.size:=Fa;clear c0 c1 c2 fz Bj HSc2 Bh HT2 HG2 Fa hE;generalize w2.drewN nq=w3 at *;obtain⟨⟨tg1,fr1,hg1⟩,⟨tg2,fr2,Hv⟩,⟨ev,G5,Ft⟩⟩:=HG3.o;cases ha:isLet l[j]
   ·cases hd:De l[j]
    ·by_cases hq:l[j]=34
     ·have t34:((l[j].toNat:Int)==34)=true:=Mz (d:=34) rfl hq;have HTok:=A0 (Aoy l j hlt hq);have HQ:=A0 (Aas HSc3.o hl hlt);clear hq hg1 Hv G5 Ft;go_wp2_with fail
      refine(Ry _ _).mono ?_;rintro e w' ⟨rfl,rfl⟩;rw[ha];go_wp2_with fail
      refine(Ql _ _).mono ?_;rintro e w' ⟨rfl,rfl⟩;rw[hd];go_wp2_with fail
      refine HQ.o.mono ?_;rintro e w4 ⟨Cl,⟨x,hx,rfl,Il⟩|⟨hx,rfl,j',Il⟩⟩
      ·have HSc4:Hid (Sc b te w4 l (j+(x.2+1)) lj):=by rw[show j+(x.2+1)=j+1+x.2 by omega];exact Il
       have Ef:Hid (F5 (l.drop j)=some (⟨3,0,x.1,0⟩,x.2+1)):=by show _=_;rw[HTok.o,hx]
       clear Il hx;have H9:=Cl.blk HT3.o z4va;obtain⟨y0,y1,y2,y3,fy,ly⟩:=E5 H9;have C2:Hid (A9 b w w4):=Ck.o.trans Cl;clear H9 Cl;go_wp2;refine bodyPost_ret (v:=.tuple #[.agg #[.int .i64 3,.int .i64 (lj:Nat),.string ⟨x.1.toArray⟩,.int .i64 0],.bool true]) z5ca rfl ?_;exact Sr (t:=⟨3,0,_,_⟩) (A9.I9 C2.o (Nat.le_refl _) _ _ _ _) (HSc4.o.keep (Hf z4va _ _ _ _)) HJ.o HLj.o Fb.o HN.o Ef.o
      ·exact z3ua
     ·have t34:((l[j].toNat:Int)==34)=false:=L7 (d:=34) rfl hq;have HTok:=A0 (Aoz l j hlt hd ha hq);have HQ:=A0 (Aau HSc3.o hg1 hl hlt);have HSi:Hid (Qf (l.drop j)):=by rw[List.drop_eq_getElem_cons hlt];exact Alu _ _
      clear hq hg1 Hv G5 Ft;go_wp2_with fail
      refine(Ry _ _).mono ?_;rintro e w' ⟨rfl,rfl⟩;rw[ha];go_wp2_with fail
      refine(Ql _ _).mono ?_;rintro e w' ⟨rfl,rfl⟩;rw[hd];go_wp2_with fail
      refine HQ.o.mono ?_;rintro e w4 ⟨Cl,⟨p,hx,rfl,Il⟩|⟨hx,rfl,Il⟩⟩
      ·have HSc4:=A0 Il;have Ef:Hid (F5 (l.drop j)=some (⟨p.2,0,[],0⟩,p.1.length)):=by
        show _=_;rcases HSi.o with⟨p',e1,e2,e3⟩|⟨e1,_⟩
        ·rw[hx]at e1;obtain rfl:=Option.some.inj e1;rw[HTok.o,e2,if_neg (by simpa using e3)]
        ·rw[hx]at e1;cases e1
       exact z1da
      ·have HSc4:=A0 Il;have Ef:Hid (F5 (l.drop j)=none):=by
        show _=_;rcases HSi.o with⟨p',e1,e2,e3⟩|⟨e1,e2⟩
        ·rw[hx]at e1;cases e1
        ·rw[HTok.o,e2];rfl
       clear Il hx;exact z0ja
    ·have HTok:=A0 (Aow l j hlt hd);have HQ:=A0 (Aao HSc3.o G5 Ft z4va hl hlt hd);clear hg1 Hv G5 Ft;go_wp2_with fail
     refine(Ry _ _).mono ?_;rintro e w' ⟨rfl,rfl⟩;rw[ha];go_wp2_with fail
     refine(Ql _ _).mono ?_;rintro e w' ⟨rfl,rfl⟩;rw[hd];go_wp2_with fail
     refine HQ.o.mono ?_;rintro e w4 ⟨Cl,Il,⟨v,hx,rfl⟩|⟨hx,rfl⟩⟩
     ·have HSc4:=A0 Il;have Ef:Hid (F5 (l.drop j)=some (⟨2,0,[],v⟩,((l.drop j).takeWhile De).length)):=by show _=_;rw[HTok.o,hx]
      clear Il hx;have H9:=Cl.blk HT3.o z4va;obtain⟨y0,y1,y2,y3,fy,ly⟩:=E5 H9;have C2:Hid (A9 b w w4):=Ck.o.trans Cl;clear H9 Cl;go_wp2;refine bodyPost_ret (v:=.tuple #[.agg #[.int .i64 2,.int .i64 (lj:Nat),.string ⟨#[]⟩,.int .i64 v],.bool true]) z5ca rfl ?_;exact Sr (t:=⟨2,0,_,_⟩) (A9.I9 C2.o (Nat.le_refl _) _ _ _ _) (HSc4.o.keep (Hf z4va _ _ _ _)) HJ.o HLj.o Fb.o HN.o Ef.o
     ·exact z3ua
   ·have hd:De l[j]=false:=Aft ha;have HTok:=A0 (Aox l j hlt hd ha);have HQ:=A0 (Aak HSc3.o Hv z4va hl hlt);clear hg1 Hv G5 Ft hd;go_wp2_with fail
    refine(Ry _ _).mono ?_;rintro e w' ⟨rfl,rfl⟩;rw[ha];go_wp2_with fail
    refine HQ.o.mono ?_;rintro e w4 ⟨Cl,Il,⟨p,hx,rfl⟩|⟨hx,⟨h16,rfl⟩|⟨h16,rfl⟩⟩⟩
    ·have HSc4:=A0 Il;have Ef:Hid (F5 (l.drop j)=some (⟨p.2,0,[],0⟩,((l.drop j).takeWhile Ec).length)):=by
      show _=_;obtain⟨e1,e2⟩:=Aqg hx;rw[HTok.o,e1,if_pos (by simpa using e2)]
     exact z1da
    ·have HSc4:=A0 Il;have Ef:Hid (F5 (l.drop j)=none):=by
      show _=_;rw[HTok.o,A50 hx,if_neg z4wa,if_neg z4va]
     clear Il hx h16;exact z0ja
    ·have HSc4:=A0 Il;have Ef:Hid (F5 (l.drop j)=some (⟨1,0,(l.drop j).takeWhile Ec,0⟩,((l.drop j).takeWhile Ec).length)):=by
      show _=_;rw[HTok.o,A50 hx,if_neg z4wa,if_pos h16]
     clear Il hx h16;have H9:=Cl.blk HT3.o z4va;obtain⟨y0,y1,y2,y3,fy,ly⟩:=E5 H9;have C2:Hid (A9 b w w4):=Ck.o.trans Cl;clear H9 Cl;go_wp2;refine bodyPost_ret (v:=.tuple #[.agg #[.int .i64 1,.int .i64 (lj:Nat),.string ⟨((l.drop j).takeWhile Ec).toArray⟩,.int .i64 0],.bool true]) z5ca rfl ?_;exact Sr (t:=⟨1,0,_,_⟩) (A9.I9 C2.o (Nat.le_refl _) _ _ _ _) (HSc4.o.keep (Hf z4va _ _ _ _)) HJ.o HLj.o Fb.o HN.o Ef.o
end
end Go.Proofs.YtjdlndhfaaolaaaGreatDoor
