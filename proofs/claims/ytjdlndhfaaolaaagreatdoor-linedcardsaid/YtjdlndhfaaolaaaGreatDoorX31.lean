import Derived.Test.YtjdlndhfaaolaaaGreatDoorX13
import Derived.Test.YtjdlndhfaaolaaaGreatDoorX29
set_option maxHeartbeats 20000000
namespace Go.Proofs.YtjdlndhfaaolaaaGreatDoor
section
set_option maxRecDepth 100000
open Go.RowKit
def K0:List (List UInt8×Nat):=[([102,110],4),([108,101,116],5),([105,102],6),([101,108,115,101],7),([119,104,105,108,101],8),([114,101,116,117,114,110],9),([98,114,101,97,107],10),([99,111,110,116,105,110,117,101],11),([112,114,105,110,116],12),([116,114,117,101],13),([102,97,108,115,101],14),([110,117,108,108],15),([108,101,110],16),([112,117,115,104],17)]
def V0:Array Value:=(Za K0).toArray
theorem Anp(w:World):∀n (h:n<14),(Instr.index 330 (.agg V0) (.int .i64 (n:Nat))).run Tryz.prog w=.ok (.agg #[.string ⟨(K0[n]'h).1.toArray⟩,.int .i64 ((K0[n]'h).2:Nat)]) w
 | 0,_=>by kernel_rfl
 | 1,_=>by kernel_rfl
 | 2,_=>by kernel_rfl
 | 3,_=>by kernel_rfl
 | 4,_=>by kernel_rfl
 | 5,_=>by kernel_rfl
 | 6,_=>by kernel_rfl
 | 7,_=>by kernel_rfl
 | 8,_=>by kernel_rfl
 | 9,_=>by kernel_rfl
 | 10,_=>by kernel_rfl
 | 11,_=>by kernel_rfl
 | 12,_=>by kernel_rfl
 | 13,_=>by kernel_rfl
 | n+14,h=>absurd h z4sa
def A5o(b te:Nat)(w:World)(l:List UInt8)(i line:Nat)(e:Ending)(w':World):Prop:=
 A5 b w w'/\Sc b te w' l (i+((l.drop i).takeWhile Di).length) line/\((∃p,K0.find? (fun p=>p.1==(l.drop i).takeWhile Di)=some p/\e=.returned (.tuple #[.agg #[.int .i64 (p.2:Nat),.int .i64 (line:Nat),.string ⟨#[]⟩,.int .i64 0],.bool true]))\/
  (K0.find? (fun p=>p.1==(l.drop i).takeWhile Di)=none/\((16<((l.drop i).takeWhile Di).length/\e=.returned (.tuple #[.agg #[.int .i64 0,.int .i64 0,.string ⟨#[]⟩,.int .i64 0],.bool false]))\/
   (((l.drop i).takeWhile Di).length<=16/\e=.returned (.tuple #[.agg #[.int .i64 1,.int .i64 (line:Nat),.string ⟨((l.drop i).takeWhile Di).toArray⟩,.int .i64 0],.bool true])))))
theorem A9g(l:List UInt8)(w:World)(h:l.length<=100000):Calls Tryz.prog 178 #[.string ⟨l.toArray⟩] w fun e w'=>e=.returned (.string ⟨l.toArray⟩)/\Below w.heap.size w w':=by
 have hs:(⟨l.toArray⟩:ByteArray).size<=281474976710656:=by show l.toArray.size<=_;simp;omega
 go_enter Tryz.func178,Tryz.ntmps178;go_wp2_with fail
 refine(Tryz.stringslite_Clone _ _ hs).mono ?_;rintro e w' ⟨rfl,hb⟩;go_wp2;go_ret;exact⟨rfl,hb⟩
theorem Aa1{b te tg:Nat}{fr:Nat×Nat}{w:World}{l:List UInt8}{i line:Nat}(h:Sc b te w l i line)(hg:w.heap[0]?=some (.cells V0 tg fr))(Bv:b≠0)(hl:l.length<=100000)(hi:i<l.length) :
  Calls Tryz.prog 125 #[.pointer (some ⟨b,0,none⟩)] w (A5o b te w l i line):=by
 have HSc0:=A0 h;have hlb:=A6 h;have HG0:=A0 hg;clear h hg;go_enter Tryz.func125,Tryz.ntmps125;go_wp2_with fail
 refine(Aif (HSc0.o.keep (Below.heap_alloc _ _ _ hlb)) hl z4sa).mono ?_;rintro e w1 ⟨rfl,hsc1,Bt⟩;have Ig:=Bt.blk (alloc_old HG0.o) z4sa;have Gq:=A0 (Bt.blk (heap_alloc_new w _) z4sa);have HSc1:=A0 hsc1;have Av:Hid (A5 b w w1):=((A5.refl b w).alloc _).trans Bt;have Df:=Bt.size;simp only[World.size_alloc]at Df;generalize ht:(l.drop i).takeWhile Di=t at *;have htl:t.length<=100000:=by rw[←ht];have:=(List.takeWhile_sublist Di (l:=l.drop i)).length_le;simp at this;omega
 have HTt:=A0 ht;clear ht hsc1 Bt HSc0 HG0;go_wp2_with (refine wpList_load_row rfl 330 _ rfl 0 rfl tg _ fr _ Ig Tryz.underlying330 rfl z4va ?_)
 clear Ig;go_loopg [10] 14 (fun k v wr=>∃n:Nat,v=.int .i64 n/\n+k=14/\K0.find? (fun p=>p.1==t)=(K0.drop n).find? (fun p=>p.1==t)/\Sc b te wr l (i+t.length) line/\A5 b w wr/\wr.heap[w.heap.size]?=some (.cells #[.int .i64 0,.int .i64 0,.string ⟨#[]⟩,.int .i64 0] 198))
 case atStart=>exact⟨0,rfl,rfl,rfl,HSc1.o,Av.o,Gq.o⟩
 case round=>
  clear HSc1 Av Gq;obtain⟨n,rfl,hnk,hf,hsc,ho,htk⟩:=hrel;have HF:=A0 hf;have HSc:=A0 hsc;have HO:=A0 ho;have HT:=A0 htk;obtain⟨x0,x1,x2,x3,fx,lx⟩:=Dt htk;obtain⟨c0,c1,c2,fz,lbr⟩:=hsc.cells;have hne:b≠w.heap.size:=by omega
  clear hf hsc ho htk;by_cases hlt:n<14
  ·have hix:=fun W=>Anp W n hlt;have HF1:=A0 (HF.o.trans (A0o hlt));generalize V0=sc at *;generalize K0[n]=p at *;clear HF;cases hp:(p.1==t)
   ·have HF2:Hid (K0.find? (fun p=>p.1==t)=(K0.drop (n+1)).find? (fun p=>p.1==t)):=by
     exact z3ya
    clear HF1;go_wp2;go_roundg (gk-1)
    case measure=>omega
    case rel=>exact⟨n+1,rfl,by omega,HF2.o,HSc.o.keep (Below.heap_alloc _ _ _ lbr),HO.o.alloc _,alloc_old HT.o⟩
   ·have HF2:Hid (K0.find? (fun p=>p.1==t)=some p):=by
     exact z3ya
    clear HF1;go_wp2;have hne2:wr.heap.size≠b:=by omega
    have hne3:wr.heap.size≠w.heap.size:=by omega
    go_region
    all_goals go_wp2
    all_goals
     refine bodyPost_ret (v:=.tuple #[.agg #[.int .i64 (p.2:Nat),.int .i64 (line:Nat),.string ⟨#[]⟩,.int .i64 0],.bool true]) (by simp[results,Tryz.results125,go_sem,x0,x1,x2,x3,lx]) rfl ?_;refine⟨?_,?_,.inl ⟨p,by rw[HTt.o];exact HF2.o,rfl⟩⟩
     ·exact((A5.Ih HO.o (Nat.le_refl _) _ _ _ _).alloc _).drew
     ·rw[HTt.o];exact alloc_old (HSc.o.keep (Hj z4sa _ _ _ _))
  ·have HF2:Hid (K0.find? (fun p=>p.1==t)=none):=by
    show _=_;rw[HF.o,show n=14 by omega];rfl
   clear HF;by_cases h16:16<t.length
   ·have t16:decide (16<(t.length:Int))=true:=decide_eq_true z4sa;have H16:=A0 h16;clear h16;go_wp2;refine bodyPost_ret (v:=.tuple #[.agg #[.int .i64 0,.int .i64 0,.string ⟨#[]⟩,.int .i64 0],.bool false]) (by simp[results,Tryz.results125,go_sem,x0,x1,x2,x3]) rfl ?_;refine⟨A5.Ih HO.o (Nat.le_refl _) _ _ _ _,by rw[HTt.o];exact HSc.o.keep (Hj z4sa _ _ _ _),.inr ⟨by rw[HTt.o];exact HF2.o,.inl ⟨by rw[HTt.o];exact H16.o,rfl⟩⟩⟩
   ·have t16:decide (16<(t.length:Int))=false:=decide_eq_false z4sa;have H16:=A0 h16;clear h16;go_wp2;have HT':Hid (wr.drew.heap[w.heap.size]?=some (.cells #[.int .i64 0,.int .i64 0,.string ⟨#[]⟩,.int .i64 0] 198 (0,0))):=HT.o;have HSc':Hid (Sc b te wr.drew l (i+t.length) line):=HSc.o.keep rfl;go_region_with (go_at_call 178;refine(A9g _ _ htl).mono ?_;rintro e w5 ⟨rfl,Dd⟩;have hT5:=Fu Dd HT'.o;have hSc5:Sc b te w5 l (i+t.length) line:=Fu Dd HSc'.o;obtain⟨y0,y1,y2,y3,fy,ly⟩:=Dt hT5;obtain⟨q0,q1,q2,fq,lq⟩:=hSc5.cells;have HSc5:=A0 hSc5;have Ek:=A0 Dd;clear hT5 hSc5 Dd)
    all_goals go_wp2
    all_goals refine bodyPost_ret (v:=.tuple #[.agg #[.int .i64 1,.int .i64 (line:Nat),.string ⟨t.toArray⟩,.int .i64 0],.bool true]) (by simp[results,Tryz.results125,go_sem,y0,y1,y2,y3]) rfl ?_
    all_goals refine⟨A5.Ih (HO.o.drew.trans (Below.only Ek.o)) (Nat.le_refl _) _ _ _ _,by rw[HTt.o];exact HSc5.o.keep (Hj z4sa _ _ _ _),.inr ⟨by rw[HTt.o];exact HF2.o,.inr ⟨by rw[HTt.o];exact Nat.le_of_not_lt H16.o,by rw[HTt.o]⟩⟩⟩
theorem Amy:∀(l:List UInt8),(∀c∈l,Cw c=true)->∀acc:Nat,acc<=18446744073709551615->
  (Jl acc l<=18446744073709551615->Lib.parseUintM 18446744073709551615 acc l=.ok (Jl acc l).toNat)/\(18446744073709551615<Jl acc l->Lib.parseUintM 18446744073709551615 acc l=.range):=by
 intro l;induction l with
 | nil=>intro _ acc ha;exact⟨fun _=>by simp[Lib.parseUintM,Jl],fun h=>by simp only[Jl]at h;omega⟩
 | cons c r ih=>
  intro hd acc ha;have hc:=hd c (List.mem_cons_self ..);have hr:∀c∈r,Cw c=true:=fun x hx=>hd x (List.mem_cons_of_mem _ hx);have hc2:48<=c.toNat/\c.toNat<=57:=by
   unfold Cw at hc;simpa using hc
  have he:Jl acc (c::r)=Jl ((acc*10+(c.toNat-48):Nat):Int) r:=by
   rw[Jl];congr 1
   omega
  have hge:=A03 r hr ((acc*10+(c.toNat-48):Nat):Int) z4sa;rw[he];simp only[Lib.parseUintM];rw[if_pos hc2];by_cases h1:1844674407370955162<=acc
  ·rw[if_pos h1];exact⟨fun h=>by omega,fun _=>rfl⟩
  ·rw[if_neg h1];by_cases h2:18446744073709551615<acc*10+(c.toNat-48)
   ·rw[if_pos h2];exact⟨fun h=>by omega,fun _=>rfl⟩
   ·rw[if_neg h2];exact ih hr _ z4sa
theorem Aay{c:UInt8}(h:Cw c=true):c.toNat≠43/\c.toNat≠45:=by
 unfold Cw at h;simp at h;omega
theorem Agd(c:UInt8)(r:List UInt8)(hd:∀x∈c::r,Cw x=true):Lib.parseIntB 64 (c::r)=match numOf (c::r) with
  | some v=>.ok v
  | none=>.range:=by
 have hc:=Aay (hd c (List.mem_cons_self ..));have hge:=A03 (c::r) hd 0 z4sa;have e:(2:Nat) ^ 64-1=18446744073709551615:=by decide
 have e2:(2:Nat) ^ (64-1)=9223372036854775808:=by decide
 rw[Lib.parseIntB_plain 64 c r hc.1 hc.2];unfold Lib.parseUintB;rw[if_neg z4wa,e,e2];have h:=Amy (c::r) hd 0 z4sa;unfold numOf Xy;by_cases h1:Jl ((0:Nat):Int) (c::r)<=18446744073709551615
 ·rw[h.1 h1];simp only[Lib.signlessC];have h0:Jl ((0:Nat):Int) (c::r)=Jl 0 (c::r):=rfl;rw[h0]at h1 ⊢;by_cases h2:Jl 0 (c::r)<=9223372036854775807
  ·rw[if_pos h2,if_neg z4sa];simp only;congr 1
   omega
  ·rw[if_neg h2,if_pos z4sa]
 ·rw[h.2 z4sa];have h0:Jl ((0:Nat):Int) (c::r)=Jl 0 (c::r):=rfl;rw[h0]at h1;rw[if_neg z4sa];rfl
def A5p(b te:Nat)(w:World)(l:List UInt8)(i line:Nat)(e:Ending)(w':World):Prop:=
 A5 b w w'/\Sc b te w' l (i+((l.drop i).takeWhile Cw).length) line/\((∃v,numOf ((l.drop i).takeWhile Cw)=some v/\e=.returned (.tuple #[.agg #[.int .i64 2,.int .i64 (line:Nat),.string ⟨#[]⟩,.int .i64 v],.bool true]))\/
  (numOf ((l.drop i).takeWhile Cw)=none/\e=.returned (.tuple #[.agg #[.int .i64 0,.int .i64 0,.string ⟨#[]⟩,.int .i64 0],.bool false])))
theorem Af2{p:UInt8->Bool}{x:UInt8}:∀{l:List UInt8},x∈l.takeWhile p->p x=true:=by
 intro l;induction l with
 | nil=>intro h;simp at h
 | cons c r ih=>
  intro h;rw[List.takeWhile_cons]at h;split at h
  ·rename_i hc;rcases List.mem_cons.1 h with e|e
   ·rw[e];exact hc
   ·exact ih e
  ·simp at h
theorem Aa5{b te:Nat}{ev:Value}{w:World}{l:List UInt8}{i line:Nat}(h:Sc b te w l i line)(hv:w.cell? ⟨3,0,none⟩=some ev)(hev:ev=.nilIface\/∃te pe,ev=.iface te pe)(Bv:b≠3)(hl:l.length<=100000)(hi:i<l.length)(hd:Cw l[i]=true) :
  Calls Tryz.prog 127 #[.pointer (some ⟨b,0,none⟩)] w (A5p b te w l i line):=by
 have HSc0:=A0 h;have hlb:=A6 h;have HV0:=A0 hv;clear h hv;go_enter Tryz.func127,Tryz.ntmps127;go_wp2_with fail
 refine(Aib (HSc0.o.keep (Below.heap_alloc _ _ _ hlb)) hl z4sa).mono ?_;rintro e w1 ⟨rfl,hsc1,Bt⟩;have Gq:=A0 (Bt.blk (heap_alloc_new w _) z4sa);have HSc1:=A0 hsc1;have Av:Hid (A5 b w w1):=((A5.refl b w).alloc _).trans Bt;have Df:=Bt.size;simp only[World.size_alloc]at Df;have lv:3<w.heap.size:=block_lt_of_cell HV0.o;have HV1:Hid (w1.cell? ⟨3,0,none⟩=some ev):=(World.cell?_of_block (Av.o.block _ lv (fun e=>Bv e.symm))).trans HV0.o;generalize ht:(l.drop i).takeWhile Cw=t at *;have htl:t.length<=100000:=by rw[←ht];have:=(List.takeWhile_sublist Cw (l:=l.drop i)).length_le;simp at this;omega
 have htd:∀c∈t,Cw c=true:=by
  intro c hc;rw[←ht]at hc;exact Af2 hc
 obtain⟨c0,r0,hcr⟩:∃c r,t=c::r:=by
  rw[←ht,List.drop_eq_getElem_cons hi,List.takeWhile_cons_of_pos hd];exact⟨_,_,rfl⟩
 have hpi:Lib.parseIntB 64 t=match numOf t with
  | some v=>.ok v
  | none=>.range:=by rw[hcr];exact Agd c0 r0 (by rw[←hcr];exact htd)
 have HTt:=A0 ht;clear ht hsc1 Bt HSc0 HV0 htd hcr;cases hn:numOf t with
 | some v=>
  rw[hn]at hpi;have HN:=A0 hn;have HPI:=A0 hpi;clear hn hpi;go_wp2_with fail
  refine(Tryz.strconv_ParseInt_10_at64_ok ⟨t.toArray⟩ (by show t.toArray.size<=_;simp;omega) v (by simpa using HPI.o) _).mono ?_;rintro e w2 ⟨rfl,Fx⟩;have A9:Below w1.heap.size w1 w2:=by
   rcases Fx with rfl|⟨t',rfl⟩
   ·exact Below.refl _ _
   ·exact Lib.bytesWorld_below _ _ _
  have Il:=Fu A9 Gq.o;have hSc2:Sc b te w2 l (i+t.length) line:=Fu A9 HSc1.o;obtain⟨y0,y1,y2,y3,fy,ly⟩:=Dt Il;obtain⟨q0,q1,q2,fq,lq⟩:=hSc2.cells;have HSc2:=A0 hSc2;have B7:Hid (A5 b w w2):=Av.o.trans (Below.only A9);clear Il hSc2 A9 Fx;go_wp2;refine bodyPost_ret (v:=.tuple #[.agg #[.int .i64 2,.int .i64 (line:Nat),.string ⟨#[]⟩,.int .i64 v],.bool true]) (by simp[results,Tryz.results127,go_sem,y0,y1,y2,y3]) rfl ?_;exact⟨A5.Ih B7.o (Nat.le_refl _) _ _ _ _,by rw[HTt.o];exact HSc2.o.keep (Hj z4sa _ _ _ _),.inl ⟨v,by rw[HTt.o];exact HN.o,rfl⟩⟩
 | none=>
  rw[hn]at hpi;have HN:=A0 hn;have HPI:=A0 hpi;clear hn hpi;go_wp2_with fail
  refine(Tryz.strconv_ParseInt_10_at64_range ⟨t.toArray⟩ (by show t.toArray.size<=_;simp;omega) (by simpa using HPI.o) ev _ HV1.o hev).mono ?_;rintro e w2 ⟨N,rfl,_,_,A9⟩;have Il:=Fu A9 Gq.o;have hSc2:Sc b te w2 l (i+t.length) line:=Fu A9 HSc1.o;obtain⟨y0,y1,y2,y3,fy,ly⟩:=Dt Il;have HSc2:=A0 hSc2;have B7:Hid (A5 b w w2):=Av.o.trans (Below.only A9);clear Il hSc2 A9;go_wp2;refine bodyPost_ret (v:=.tuple #[.agg #[.int .i64 0,.int .i64 0,.string ⟨#[]⟩,.int .i64 0],.bool false]) (by simp[results,Tryz.results127,go_sem,y0,y1,y2,y3]) rfl ?_;exact⟨A5.Ih B7.o (Nat.le_refl _) _ _ _ _,by rw[HTt.o];exact HSc2.o.keep (Hj z4sa _ _ _ _),.inr ⟨by rw[HTt.o];exact HN.o,rfl⟩⟩
end
section
open Go.RowKit
theorem A57(t:List UInt8):Lm t=((K0.find? fun p=>p.1==t).map (·.2)).getD 0:=by
 by_cases h0:t=[102,110]
 ·subst h0;rfl
 by_cases h1:t=[108,101,116]
 ·subst h1;rfl
 by_cases h2:t=[105,102]
 ·subst h2;rfl
 by_cases h3:t=[101,108,115,101]
 ·subst h3;rfl
 by_cases h4:t=[119,104,105,108,101]
 ·subst h4;rfl
 by_cases h5:t=[114,101,116,117,114,110]
 ·subst h5;rfl
 by_cases h6:t=[98,114,101,97,107]
 ·subst h6;rfl
 by_cases h7:t=[99,111,110,116,105,110,117,101]
 ·subst h7;rfl
 by_cases h8:t=[112,114,105,110,116]
 ·subst h8;rfl
 by_cases h9:t=[116,114,117,101]
 ·subst h9;rfl
 by_cases h10:t=[102,97,108,115,101]
 ·subst h10;rfl
 by_cases h11:t=[110,117,108,108]
 ·subst h11;rfl
 by_cases h12:t=[108,101,110]
 ·subst h12;rfl
 by_cases h13:t=[112,117,115,104]
 ·subst h13;rfl
 unfold Lm K0;simp only[beq_eq_false_iff_ne.2 h0,beq_eq_false_iff_ne.2 h1,beq_eq_false_iff_ne.2 h2,beq_eq_false_iff_ne.2 h3,beq_eq_false_iff_ne.2 h4,beq_eq_false_iff_ne.2 h5,beq_eq_false_iff_ne.2 h6,beq_eq_false_iff_ne.2 h7,beq_eq_false_iff_ne.2 h8,beq_eq_false_iff_ne.2 h9,beq_eq_false_iff_ne.2 h10,beq_eq_false_iff_ne.2 h11,beq_eq_false_iff_ne.2 h12,beq_eq_false_iff_ne.2 h13,beq_eq_false_iff_ne.2 (Ne.symm h0),beq_eq_false_iff_ne.2 (Ne.symm h1),beq_eq_false_iff_ne.2 (Ne.symm h2),beq_eq_false_iff_ne.2 (Ne.symm h3),beq_eq_false_iff_ne.2 (Ne.symm h4),beq_eq_false_iff_ne.2 (Ne.symm h5),beq_eq_false_iff_ne.2 (Ne.symm h6),beq_eq_false_iff_ne.2 (Ne.symm h7),beq_eq_false_iff_ne.2 (Ne.symm h8),beq_eq_false_iff_ne.2 (Ne.symm h9),beq_eq_false_iff_ne.2 (Ne.symm h10),beq_eq_false_iff_ne.2 (Ne.symm h11),beq_eq_false_iff_ne.2 (Ne.symm h12),beq_eq_false_iff_ne.2 (Ne.symm h13),Bool.false_eq_true,if_false,List.find?_cons,List.find?_nil,Option.map_none,Option.getD_none]
theorem Anq{t:List UInt8}{p:List UInt8×Nat}(h:(K0.find? fun p=>p.1==t)=some p):Lm t=p.2/\p.2≠0:=by
 refine⟨by rw[A57,h];rfl,?_⟩;have:∀q∈K0,q.2≠0:=by decide
 exact this p (List.mem_of_find?_eq_some h)
theorem A58{t:List UInt8}(h:(K0.find? fun p=>p.1==t)=none):Lm t=0:=by rw[A57,h];rfl
theorem A2x(c a:UInt8)(r:List UInt8):Gk (c::r) [a]=(c==a):=by
 unfold Gk;simp
theorem Agm(c d a b:UInt8)(r:List UInt8):Gk (c::d::r) [a,b]=(c==a&&d==b):=by
 unfold Gk;rw[Bool.eq_iff_iff];simp
theorem Agn(c a b:UInt8):Gk [c] [a,b]=false:=by
 unfold Gk;simp
def Q0(l:List UInt8):Prop:=(∃p,K7.find? (fun p=>Gk l p.1)=some p/\Fa l=(p.2,p.1.length)/\p.1.length≠0)\/(K7.find? (fun p=>Gk l p.1)=none/\Fa l=(0,0))
theorem z14a {P:Prop} (h:P:=by
  simp only[beq_eq_false_iff_ne.2 o40,beq_eq_false_iff_ne.2 o41,beq_eq_false_iff_ne.2 o123,beq_eq_false_iff_ne.2 o125,beq_eq_false_iff_ne.2 o91,beq_eq_false_iff_ne.2 o93,beq_eq_false_iff_ne.2 o44,beq_eq_false_iff_ne.2 o59,beq_eq_false_iff_ne.2 o61,beq_eq_false_iff_ne.2 o33,beq_eq_false_iff_ne.2 o60,beq_eq_false_iff_ne.2 o62,beq_eq_false_iff_ne.2 o43,beq_eq_false_iff_ne.2 o45,beq_eq_false_iff_ne.2 o42,beq_eq_false_iff_ne.2 o47,beq_eq_false_iff_ne.2 o37,Bool.false_eq_true,if_false];rfl):P:=h
theorem sign_one(c:UInt8):Q0 [c]:=by
 unfold Q0 K7;simp only[List.find?_cons,List.find?_nil,Agn,A2x];by_cases o40:c=40
 ·subst o40;exact .inl ⟨([40],18),rfl,rfl,by decide⟩
 by_cases o41:c=41
 ·subst o41;exact .inl ⟨([41],19),rfl,rfl,by decide⟩
 by_cases o123:c=123
 ·subst o123;exact .inl ⟨([123],20),rfl,rfl,by decide⟩
 by_cases o125:c=125
 ·subst o125;exact .inl ⟨([125],21),rfl,rfl,by decide⟩
 by_cases o91:c=91
 ·subst o91;exact .inl ⟨([91],22),rfl,rfl,by decide⟩
 by_cases o93:c=93
 ·subst o93;exact .inl ⟨([93],23),rfl,rfl,by decide⟩
 by_cases o44:c=44
 ·subst o44;exact .inl ⟨([44],24),rfl,rfl,by decide⟩
 by_cases o59:c=59
 ·subst o59;exact .inl ⟨([59],25),rfl,rfl,by decide⟩
 by_cases o61:c=61
 ·subst o61;exact .inl ⟨([61],26),rfl,rfl,by decide⟩
 by_cases o33:c=33
 ·subst o33;exact .inl ⟨([33],28),rfl,rfl,by decide⟩
 by_cases o60:c=60
 ·subst o60;exact .inl ⟨([60],30),rfl,rfl,by decide⟩
 by_cases o62:c=62
 ·subst o62;exact .inl ⟨([62],32),rfl,rfl,by decide⟩
 by_cases o43:c=43
 ·subst o43;exact .inl ⟨([43],34),rfl,rfl,by decide⟩
 by_cases o45:c=45
 ·subst o45;exact .inl ⟨([45],35),rfl,rfl,by decide⟩
 by_cases o42:c=42
 ·subst o42;exact .inl ⟨([42],36),rfl,rfl,by decide⟩
 by_cases o47:c=47
 ·subst o47;exact .inl ⟨([47],37),rfl,rfl,by decide⟩
 by_cases o37:c=37
 ·subst o37;exact .inl ⟨([37],38),rfl,rfl,by decide⟩
 right;simp only[beq_eq_false_iff_ne.2 o40,beq_eq_false_iff_ne.2 o41,beq_eq_false_iff_ne.2 o123,beq_eq_false_iff_ne.2 o125,beq_eq_false_iff_ne.2 o91,beq_eq_false_iff_ne.2 o93,beq_eq_false_iff_ne.2 o44,beq_eq_false_iff_ne.2 o59,beq_eq_false_iff_ne.2 o61,beq_eq_false_iff_ne.2 o33,beq_eq_false_iff_ne.2 o60,beq_eq_false_iff_ne.2 o62,beq_eq_false_iff_ne.2 o43,beq_eq_false_iff_ne.2 o45,beq_eq_false_iff_ne.2 o42,beq_eq_false_iff_ne.2 o47,beq_eq_false_iff_ne.2 o37];refine⟨trivial,?_⟩;unfold Fa Iv;exact z14a
theorem Aka(c d:UInt8)(r:List UInt8):Q0 (c::d::r):=by
 unfold Q0 K7;simp only[List.find?_cons,List.find?_nil,Agm,A2x];cases t27:(c==61&&d==61)
 case true=>
  simp only[Bool.and_eq_true,beq_iff_eq]at t27;obtain⟨rfl,rfl⟩:=t27;exact .inl ⟨([61,61],27),rfl,rfl,by decide⟩
 cases t29:(c==33&&d==61)
 case true=>
  simp only[Bool.and_eq_true,beq_iff_eq]at t29;obtain⟨rfl,rfl⟩:=t29;exact .inl ⟨([33,61],29),rfl,rfl,by decide⟩
 cases t31:(c==60&&d==61)
 case true=>
  simp only[Bool.and_eq_true,beq_iff_eq]at t31;obtain⟨rfl,rfl⟩:=t31;exact .inl ⟨([60,61],31),rfl,rfl,by decide⟩
 cases t33:(c==62&&d==61)
 case true=>
  simp only[Bool.and_eq_true,beq_iff_eq]at t33;obtain⟨rfl,rfl⟩:=t33;exact .inl ⟨([62,61],33),rfl,rfl,by decide⟩
 cases t39:(c==38&&d==38)
 case true=>
  simp only[Bool.and_eq_true,beq_iff_eq]at t39;obtain⟨rfl,rfl⟩:=t39;exact .inl ⟨([38,38],39),rfl,rfl,by decide⟩
 cases t40:(c==124&&d==124)
 case true=>
  simp only[Bool.and_eq_true,beq_iff_eq]at t40;obtain⟨rfl,rfl⟩:=t40;exact .inl ⟨([124,124],40),rfl,rfl,by decide⟩
 have h2:Jy c d=0:=by
  unfold Jy;simp only[t27,t29,t31,t33,t39,t40,Bool.false_eq_true,if_false]
 have hs:Fa (c::d::r)=if Iv c==0 then(0,0) else(Iv c,1):=by
  rw[Fa,h2];rfl
 rw[hs];clear hs h2 t27 t29 t31 t33 t39 t40;by_cases o40:c=40
 ·subst o40;exact .inl ⟨([40],18),rfl,rfl,by decide⟩
 by_cases o41:c=41
 ·subst o41;exact .inl ⟨([41],19),rfl,rfl,by decide⟩
 by_cases o123:c=123
 ·subst o123;exact .inl ⟨([123],20),rfl,rfl,by decide⟩
 by_cases o125:c=125
 ·subst o125;exact .inl ⟨([125],21),rfl,rfl,by decide⟩
 by_cases o91:c=91
 ·subst o91;exact .inl ⟨([91],22),rfl,rfl,by decide⟩
 by_cases o93:c=93
 ·subst o93;exact .inl ⟨([93],23),rfl,rfl,by decide⟩
 by_cases o44:c=44
 ·subst o44;exact .inl ⟨([44],24),rfl,rfl,by decide⟩
 by_cases o59:c=59
 ·subst o59;exact .inl ⟨([59],25),rfl,rfl,by decide⟩
 by_cases o61:c=61
 ·subst o61;exact .inl ⟨([61],26),rfl,rfl,by decide⟩
 by_cases o33:c=33
 ·subst o33;exact .inl ⟨([33],28),rfl,rfl,by decide⟩
 by_cases o60:c=60
 ·subst o60;exact .inl ⟨([60],30),rfl,rfl,by decide⟩
 by_cases o62:c=62
 ·subst o62;exact .inl ⟨([62],32),rfl,rfl,by decide⟩
 by_cases o43:c=43
 ·subst o43;exact .inl ⟨([43],34),rfl,rfl,by decide⟩
 by_cases o45:c=45
 ·subst o45;exact .inl ⟨([45],35),rfl,rfl,by decide⟩
 by_cases o42:c=42
 ·subst o42;exact .inl ⟨([42],36),rfl,rfl,by decide⟩
 by_cases o47:c=47
 ·subst o47;exact .inl ⟨([47],37),rfl,rfl,by decide⟩
 by_cases o37:c=37
 ·subst o37;exact .inl ⟨([37],38),rfl,rfl,by decide⟩
 right;simp only[beq_eq_false_iff_ne.2 o40,beq_eq_false_iff_ne.2 o41,beq_eq_false_iff_ne.2 o123,beq_eq_false_iff_ne.2 o125,beq_eq_false_iff_ne.2 o91,beq_eq_false_iff_ne.2 o93,beq_eq_false_iff_ne.2 o44,beq_eq_false_iff_ne.2 o59,beq_eq_false_iff_ne.2 o61,beq_eq_false_iff_ne.2 o33,beq_eq_false_iff_ne.2 o60,beq_eq_false_iff_ne.2 o62,beq_eq_false_iff_ne.2 o43,beq_eq_false_iff_ne.2 o45,beq_eq_false_iff_ne.2 o42,beq_eq_false_iff_ne.2 o47,beq_eq_false_iff_ne.2 o37];refine⟨trivial,?_⟩;unfold Iv;exact z14a
theorem Ak8(c:UInt8)(r:List UInt8):Q0 (c::r):=by
 cases r with
 | nil=>exact sign_one c
 | cons d r=>exact Aka c d r
end
section
set_option maxRecDepth 100000
open Go.RowKit
def V8(b te:Nat)(w:World)(l:List UInt8)(i line:Nat)(e:Ending)(w':World):Prop:=
 A5 b w w'/\((∃x,(Fo (l.drop i)).2=some x/\e=.returned (.tuple #[.agg #[.int .i64 (x.1.k:Nat),.int .i64 ((line+(Fo (l.drop i)).1:Nat):Nat),.string ⟨x.1.s.toArray⟩,.int .i64 x.1.n],.bool true])/\Sc b te w' l (i+x.2) (line+(Fo (l.drop i)).1))\/
  ((Fo (l.drop i)).2=none/\e=.returned (.tuple #[.agg #[.int .i64 0,.int .i64 0,.string ⟨#[]⟩,.int .i64 0],.bool false])/\∃j,Sc b te w' l j (line+(Fo (l.drop i)).1)))
structure Ix (w : World) : Prop where
 signs:∃tg fr,w.heap[1]?=some (.cells Up tg fr)
 words:∃tg fr,w.heap[0]?=some (.cells V0 tg fr)
 range:∃ev,w.cell? ⟨3,0,none⟩=some ev/\(ev=.nilIface\/∃te pe,ev=.iface te pe)
theorem Ix.keep{w w':World}(h:Ix w)(hk:∀k,k<4->k<w.heap.size->w'.heap[k]?=w.heap[k]?):Ix w':=by
 obtain⟨⟨t1,f1,h1⟩,⟨t2,f2,h2⟩,⟨ev,h3,h4⟩⟩:=h;exact⟨⟨t1,f1,(hk _ z4ta (A6 h1)).trans h1⟩,⟨t2,f2,(hk _ z4ta (A6 h2)).trans h2⟩,⟨ev,(World.cell?_of_block (hk _ z4ta (block_lt_of_cell h3))).trans h3,h4⟩⟩
theorem Ix.only{b:Nat}{w w':World}(h:Ix w)(ho:A5 b w w')(hb:4<=b):Ix w':=h.keep (fun k h1 h2=>ho.block k h2 z4sa)
theorem Ix.below{w w':World}(h:Ix w)(ho:Below w.heap.size w w'):Ix w':=h.keep (fun k _ h2=>ho.block k h2)
theorem Aff{l:List UInt8}{i:Nat}(hok:(B0 false (l.drop i)).2.2=true)(hlt:i+(B0 false (l.drop i)).1<l.length):(Fo (l.drop i)).2=(E7 (l.drop (i+(B0 false (l.drop i)).1))).map fun x=>(x.1,(B0 false (l.drop i)).1+x.2):=by
 unfold Fo;simp only[hok,if_true,List.drop_drop];rw[List.drop_eq_getElem_cons hlt,Pf]
theorem Aed{c:UInt8}(h:isLet c=true):Cw c=false:=by
 unfold isLet at h;unfold Cw;simp only[Bool.or_eq_true,Bool.and_eq_true,decide_eq_true_eq]at h;rw[Bool.and_eq_false_iff];by_cases h1:c.toNat<=57
 ·left;rw[decide_eq_false_iff_not];omega
 ·right;rw[decide_eq_false_iff_not];exact h1
theorem Rx{b te:Nat}{w W:World}{l:List UInt8}{i line j lj n m len:Nat}{t:Tk}(hO:A5 b w W)(hsc:Sc b te W l (j+len) lj)(hj:i+n=j)(hlj:line+m=lj)(h1:(Fo (l.drop i)).1=m)(hN:(Fo (l.drop i)).2=(E7 (l.drop j)).map fun x=>(x.1,n+x.2))(ht:E7 (l.drop j)=some (t,len)) :
  V8 b te w l i line (.returned (.tuple #[.agg #[.int .i64 (t.k:Nat),.int .i64 (lj:Nat),.string ⟨t.s.toArray⟩,.int .i64 t.n],.bool true])) W:=by
 refine⟨hO,.inl ⟨(t,n+len),by rw[hN,ht];rfl,by rw[h1,hlj],?_⟩⟩;rw[h1,hlj,show i+(n+len)=j+len by omega];exact hsc
theorem U2{b te:Nat}{w W:World}{l:List UInt8}{i line j lj n m:Nat}(hO:A5 b w W)(hsc:∃q,Sc b te W l q lj)(hlj:line+m=lj)(h1:(Fo (l.drop i)).1=m)(hN:(Fo (l.drop i)).2=(E7 (l.drop j)).map fun x=>(x.1,n+x.2))(ht:E7 (l.drop j)=none) :
  V8 b te w l i line (.returned (.tuple #[.agg #[.int .i64 0,.int .i64 0,.string ⟨#[]⟩,.int .i64 0],.bool false])) W:=by
 refine⟨hO,.inr ⟨by rw[hN,ht];rfl,rfl,?_⟩⟩;rw[h1,hlj];exact hsc
theorem z5aa {P:Prop} (h:P:=by simp[results,Tryz.results77,go_sem,y0,y1,y2,y3]):P:=h
theorem z0fa {P:Prop} (h:P:=by
  have Gb:=Ck.blk HT3.o z4sa;obtain⟨y0,y1,y2,y3,fy,ly⟩:=Dt Gb;have C8:Hid (A5 b w w4):=Cd.o.trans Ck;clear Gb Ck;go_wp2;refine bodyPost_ret (v:=.tuple #[.agg #[.int .i64 0,.int .i64 0,.string ⟨#[]⟩,.int .i64 0],.bool false]) z5aa rfl ?_;exact U2 (A5.Ih C8.o (Nat.le_refl _) _ _ _ _) ⟨_,HSc4.o.keep (Hj z4sa _ _ _ _)⟩ HLj.o G8.o HN.o Ee.o):P:=h
theorem z3ka {P:Prop} (h:P:=by
  have HSc4:=A0 Iq;have Ee:Hid (E7 (l.drop j)=none):=by show _=_;rw[HTok.o,hx]
  clear Iq hx;exact z0fa):P:=h
theorem z19a {P:Prop} (h:P:=by
  clear Iq hx;have Gb:=Ck.blk HT3.o z4sa;obtain⟨y0,y1,y2,y3,fy,ly⟩:=Dt Gb;have C8:Hid (A5 b w w4):=Cd.o.trans Ck;clear Gb Ck;go_wp2;refine bodyPost_ret (v:=.tuple #[.agg #[.int .i64 (p.2:Nat),.int .i64 (lj:Nat),.string ⟨#[]⟩,.int .i64 0],.bool true]) z5aa rfl ?_;exact Rx (t:=⟨(p.2:Nat),0,_,_⟩) (A5.Ih C8.o (Nat.le_refl _) _ _ _ _) (HSc4.o.keep (Hj z4sa _ _ _ _)) HJ.o HLj.o G8.o HN.o Ee.o):P:=h
theorem Afa{b te:Nat}{w:World}{l:List UInt8}{i line:Nat}(h:Sc b te w l i line)(hg:Ix w)(Bv:4<=b)(hl:l.length<=100000)(hi:i<=l.length)(hln:line<=i+1) :
  Calls Tryz.prog 77 #[.pointer (some ⟨b,0,none⟩)] w (V8 b te w l i line):=by
 have HSc0:=A0 h;have HG0:=A0 hg;have hlb:=A6 h;have HLe:=A0 (Z5 (l.drop i) false);clear h hg;go_enter Tryz.func77,Tryz.ntmps77;go_wp2_with fail
 refine(Akc (HSc0.o.keep (Below.heap_alloc _ _ _ hlb)) hl hi hln).mono ?_;rintro e w1 ⟨rfl,hsc1,Bt⟩;have Gq:=A0 (Bt.blk (heap_alloc_new w (.cells #[.int .i64 0,.int .i64 0,.string ⟨#[]⟩,.int .i64 0] 198)) z4sa);have HSc1:=A0 hsc1;have Av:Hid (A5 b w w1):=((A5.refl b w).alloc _).trans Bt;have HG1:=A0 (HG0.o.only Av.o Bv);have Df:=Bt.size;simp only[World.size_alloc]at Df;have G8:Hid ((Fo (l.drop i)).1=(B0 false (l.drop i)).2.1):=rfl;have HTk:=A0 (fun h1 h2=>Aff (l:=l) (i:=i) h1 h2);have HEnd:Hid ((B0 false (l.drop i)).2.2=true->i+(B0 false (l.drop i)).1=l.length->(Fo (l.drop i)).2=some (⟨0,0,[],0⟩,(B0 false (l.drop i)).1)):=by
  intro h1 h2;unfold Fo;simp only[h1,if_true,List.drop_drop];have hd:l.drop (i+(B0 false (l.drop i)).1)=[]:=List.drop_of_length_le z4sa;rw[hd,Pf]
 have HNo:Hid ((B0 false (l.drop i)).2.2=false->(Fo (l.drop i)).2=none):=by
  intro h1;unfold Fo;simp[h1]
 have hle:=HLe.o.1;rw[List.length_drop]at hle;have hle2:=HLe.o.2;generalize hsn:(B0 false (l.drop i)).1=n at *;generalize hsm:(B0 false (l.drop i)).2.1=m at *;obtain⟨x0,x1,x2,x3,fx,lx⟩:=Dt Gq.o;obtain⟨c0,c1,c2,fz,Bk⟩:=hsc1.cells;clear hsc1 Bt HSc0 HG0 HLe hsn hsm;cases hok:(B0 false (l.drop i)).2.2
 ·have HN:=A0 (HNo.o hok);clear HTk HEnd HNo hok;go_wp2;refine bodyPost_ret (v:=.tuple #[.agg #[.int .i64 0,.int .i64 0,.string ⟨#[]⟩,.int .i64 0],.bool false]) (by simp[results,Tryz.results77,go_sem,x0,x1,x2,x3]) rfl ?_;exact⟨A5.Ih Av.o (Nat.le_refl _) _ _ _ _,.inr ⟨HN.o,rfl,_,by rw[G8.o];exact HSc1.o.keep (Hj z4sa _ _ _ _)⟩⟩
 ·by_cases hend:i+n=l.length
  ·have HN:=A0 (HEnd.o hok hend);have t1:(((i+n:Nat):Int)==(l.length:Int))=true:=by rw[hend];simp
   clear HTk HEnd HNo hok;have HEn:=A0 hend;clear hend;go_wp2;go_quiet (fail)
   go_wp2;refine bodyPost_ret (v:=.tuple #[.agg #[.int .i64 0,.int .i64 ((line+m:Nat):Nat),.string ⟨#[]⟩,.int .i64 0],.bool true]) (by simp[results,Tryz.results77,go_sem,x0,x1,x2,x3]) rfl ?_;exact⟨A5.Ih (Av.o.drewN nq) (Nat.le_refl _) _ _ _ _,.inl ⟨_,HN.o,by rw[G8.o];rfl,by rw[G8.o];exact HSc1.o.keep (Hj (w:=w1.drewN nq) z4sa _ _ _ _)⟩⟩
  ·have hlt:i+n<l.length:=by omega
   have HN:=A0 (HTk.o hok hlt);clear HTk HEnd HNo hok hend;have hlm:line+m<=100001:=by omega
   generalize hj:i+n=j at *;have HJ:=A0 hj;generalize hlj:line+m=lj at *;have HLj:=A0 hlj;clear hj hlj;have t1:((j:Int)==(l.length:Int))=false:=by rw[beq_eq_false_iff_ne];omega
   have hE:∀h,((⟨l.toArray⟩:ByteArray)[j]'h)=l[j]:=fun h=>P5 l j h;go_wp2;go_quiet (fail)
   have HSc2:Hid (Sc b te (w1.drewN nq) l j lj):=HSc1.o.keep rfl;have B7:Hid (A5 b w (w1.drewN nq)):=Av.o.drewN _;have HT2:Hid ((w1.drewN nq).heap[w.heap.size]?=_):=Gq.o;have HG2:Hid (Ix (w1.drewN nq)):=HG1.o.keep (fun _ _ _=>rfl);have F2:w.heap.size+1<=(w1.drewN nq).heap.size:=Df;clear x0 x1 x2 x3 fx lx c0 c1 c2 fz Bk HSc1 Av Gq HG1 Df;generalize w1.drewN nq=w2 at *;obtain⟨c0,c1,c2,fz,Bk⟩:=HSc2.o.cells;go_wp2;go_quiet (fail)
   have HSc3:Hid (Sc b te (w2.drewN nq) l j lj):=HSc2.o.keep rfl;have Cd:Hid (A5 b w (w2.drewN nq)):=B7.o.drewN _;have HT3:Hid ((w2.drewN nq).heap[w.heap.size]?=_):=HT2.o;have HG3:Hid (Ix (w2.drewN nq)):=HG2.o.keep (fun _ _ _=>rfl);have lw3:w.heap.size+1<=(w2.drewN nq).heap.size:=F2;clear c0 c1 c2 fz Bk HSc2 B7 HT2 HG2 F2 hE;generalize w2.drewN nq=w3 at *;obtain⟨⟨tg1,fr1,Ig⟩,⟨tg2,fr2,Io⟩,⟨ev,G3,Fk⟩⟩:=HG3.o;cases ha:isLet l[j]
   ·cases hd:Cw l[j]
    ·by_cases hq:l[j]=34
     ·have t34:((l[j].toNat:Int)==34)=true:=Mu (d:=34) rfl hq;have HTok:=A0 (Amm l j hlt hq);have HQ:=A0 (Aa8 HSc3.o hl hlt);clear hq Ig Io G3 Fk;go_wp2_with fail
      refine(Rb _ _).mono ?_;rintro e w' ⟨rfl,rfl⟩;rw[ha];go_wp2_with fail
      refine(Q6 _ _).mono ?_;rintro e w' ⟨rfl,rfl⟩;rw[hd];go_wp2_with fail
      refine HQ.o.mono ?_;rintro e w4 ⟨Ck,⟨x,hx,rfl,Iq⟩|⟨hx,rfl,j',Iq⟩⟩
      ·have HSc4:Hid (Sc b te w4 l (j+(x.2+1)) lj):=by rw[show j+(x.2+1)=j+1+x.2 by omega];exact Iq
       have Ee:Hid (E7 (l.drop j)=some (⟨3,0,x.1,0⟩,x.2+1)):=by show _=_;rw[HTok.o,hx]
       clear Iq hx;have Gb:=Ck.blk HT3.o z4sa;obtain⟨y0,y1,y2,y3,fy,ly⟩:=Dt Gb;have C8:Hid (A5 b w w4):=Cd.o.trans Ck;clear Gb Ck;go_wp2;refine bodyPost_ret (v:=.tuple #[.agg #[.int .i64 3,.int .i64 (lj:Nat),.string ⟨x.1.toArray⟩,.int .i64 0],.bool true]) z5aa rfl ?_;exact Rx (t:=⟨3,0,_,_⟩) (A5.Ih C8.o (Nat.le_refl _) _ _ _ _) (HSc4.o.keep (Hj z4sa _ _ _ _)) HJ.o HLj.o G8.o HN.o Ee.o
      ·exact z3ka
     ·have t34:((l[j].toNat:Int)==34)=false:=Kz (d:=34) rfl hq;have HTok:=A0 (Amn l j hlt hd ha hq);have HQ:=A0 (Aa9 HSc3.o Ig hl hlt);have HSi:Hid (Q0 (l.drop j)):=by rw[List.drop_eq_getElem_cons hlt];exact Ak8 _ _
      clear hq Ig Io G3 Fk;go_wp2_with fail
      refine(Rb _ _).mono ?_;rintro e w' ⟨rfl,rfl⟩;rw[ha];go_wp2_with fail
      refine(Q6 _ _).mono ?_;rintro e w' ⟨rfl,rfl⟩;rw[hd];go_wp2_with fail
      refine HQ.o.mono ?_;rintro e w4 ⟨Ck,⟨p,hx,rfl,Iq⟩|⟨hx,rfl,Iq⟩⟩
      ·have HSc4:=A0 Iq;have Ee:Hid (E7 (l.drop j)=some (⟨p.2,0,[],0⟩,p.1.length)):=by
        show _=_;rcases HSi.o with⟨p',e1,e2,e3⟩|⟨e1,_⟩
        ·rw[hx]at e1;obtain rfl:=Option.some.inj e1;rw[HTok.o,e2,if_neg (by simpa using e3)]
        ·rw[hx]at e1;cases e1
       exact z19a
      ·have HSc4:=A0 Iq;have Ee:Hid (E7 (l.drop j)=none):=by
        show _=_;rcases HSi.o with⟨p',e1,e2,e3⟩|⟨e1,e2⟩
        ·rw[hx]at e1;cases e1
        ·rw[HTok.o,e2];rfl
       clear Iq hx;exact z0fa
    ·have HTok:=A0 (Amk l j hlt hd);have HQ:=A0 (Aa5 HSc3.o G3 Fk z4sa hl hlt hd);clear Ig Io G3 Fk;go_wp2_with fail
     refine(Rb _ _).mono ?_;rintro e w' ⟨rfl,rfl⟩;rw[ha];go_wp2_with fail
     refine(Q6 _ _).mono ?_;rintro e w' ⟨rfl,rfl⟩;rw[hd];go_wp2_with fail
     refine HQ.o.mono ?_;rintro e w4 ⟨Ck,Iq,⟨v,hx,rfl⟩|⟨hx,rfl⟩⟩
     ·have HSc4:=A0 Iq;have Ee:Hid (E7 (l.drop j)=some (⟨2,0,[],v⟩,((l.drop j).takeWhile Cw).length)):=by show _=_;rw[HTok.o,hx]
      clear Iq hx;have Gb:=Ck.blk HT3.o z4sa;obtain⟨y0,y1,y2,y3,fy,ly⟩:=Dt Gb;have C8:Hid (A5 b w w4):=Cd.o.trans Ck;clear Gb Ck;go_wp2;refine bodyPost_ret (v:=.tuple #[.agg #[.int .i64 2,.int .i64 (lj:Nat),.string ⟨#[]⟩,.int .i64 v],.bool true]) z5aa rfl ?_;exact Rx (t:=⟨2,0,_,_⟩) (A5.Ih C8.o (Nat.le_refl _) _ _ _ _) (HSc4.o.keep (Hj z4sa _ _ _ _)) HJ.o HLj.o G8.o HN.o Ee.o
     ·exact z3ka
   ·have hd:Cw l[j]=false:=Aed ha;have HTok:=A0 (Aml l j hlt hd ha);have HQ:=A0 (Aa1 HSc3.o Io z4sa hl hlt);clear Ig Io G3 Fk hd;go_wp2_with fail
    refine(Rb _ _).mono ?_;rintro e w' ⟨rfl,rfl⟩;rw[ha];go_wp2_with fail
    refine HQ.o.mono ?_;rintro e w4 ⟨Ck,Iq,⟨p,hx,rfl⟩|⟨hx,⟨h16,rfl⟩|⟨h16,rfl⟩⟩⟩
    ·have HSc4:=A0 Iq;have Ee:Hid (E7 (l.drop j)=some (⟨p.2,0,[],0⟩,((l.drop j).takeWhile Di).length)):=by
      show _=_;obtain⟨e1,e2⟩:=Anq hx;rw[HTok.o,e1,if_pos (by simpa using e2)]
     exact z19a
    ·have HSc4:=A0 Iq;have Ee:Hid (E7 (l.drop j)=none):=by
      show _=_;rw[HTok.o,A58 hx,if_neg z4ta,if_neg z4sa]
     clear Iq hx h16;exact z0fa
    ·have HSc4:=A0 Iq;have Ee:Hid (E7 (l.drop j)=some (⟨1,0,(l.drop j).takeWhile Di,0⟩,((l.drop j).takeWhile Di).length)):=by
      show _=_;rw[HTok.o,A58 hx,if_neg z4ta,if_pos h16]
     clear Iq hx h16;have Gb:=Ck.blk HT3.o z4sa;obtain⟨y0,y1,y2,y3,fy,ly⟩:=Dt Gb;have C8:Hid (A5 b w w4):=Cd.o.trans Ck;clear Gb Ck;go_wp2;refine bodyPost_ret (v:=.tuple #[.agg #[.int .i64 1,.int .i64 (lj:Nat),.string ⟨((l.drop j).takeWhile Di).toArray⟩,.int .i64 0],.bool true]) z5aa rfl ?_;exact Rx (t:=⟨1,0,_,_⟩) (A5.Ih C8.o (Nat.le_refl _) _ _ _ _) (HSc4.o.keep (Hj z4sa _ _ _ _)) HJ.o HLj.o G8.o HN.o Ee.o
end
end Go.Proofs.YtjdlndhfaaolaaaGreatDoor
