import Derived.Test.YtjdlndhfaaolaaaGreatDoorY13
import Derived.Test.YtjdlndhfaaolaaaGreatDoorY15
import Derived.Test.YtjdlndhfaaolaaaGreatDoorY21
import Derived.Test.YtjdlndhfaaolaaaGreatDoorY28
set_option maxHeartbeats 20000000
set_option linter.defProp false
namespace Go.Proofs.YtjdlndhfaaolaaaGreatDoor
section
set_option maxRecDepth 100000
open Go.RowKit
def Lv:List (List UInt8×Nat):=[([102,110],4),([108,101,116],5),([105,102],6),([101,108,115,101],7),([119,104,105,108,101],8),([114,101,116,117,114,110],9),([98,114,101,97,107],10),([99,111,110,116,105,110,117,101],11),([112,114,105,110,116],12),([116,114,117,101],13),([102,97,108,115,101],14),([110,117,108,108],15),([108,101,110],16),([112,117,115,104],17)]
def Z5:Array Value:=(A2g Lv).toArray
def Awc(w:World):∀n (h:n<14),(Instr.index 330 (.agg Z5) (.n n)).run Tryz.prog w=.ok (.agg #[.string ⟨(Lv[n]'h).1.toArray⟩,.n ((Lv[n]'h).2)]) w
 | 0,_=>by kernel_rfl
 | 1,_=>by kernel_rfl
 | 2,_=>by kernel_rfl
 | 3,_=>by kernel_rfl
 | 4,_=>by kernel_rfl
 | 5,_=>by kernel_rfl
 | 6,_=>by kernel_rfl
 | 7,_=>by kernel_rfl
 | 8,_=>by kernel_rfl
 | 9,_=>by kernel_rfl
 | 10,_=>by kernel_rfl
 | 11,_=>by kernel_rfl
 | 12,_=>by kernel_rfl
 | 13,_=>by kernel_rfl
 | n+14,h=>absurd h z4ma
def Ab4(b te:Nat)(w:World)(l:List UInt8)(i line:Nat)(e:Ending)(w':World):Prop:=
 A8 b w w'/\Sc b te w' l (i+((l.drop i).takeWhile Es).length) line/\((∃p,Lv.find? (fun p=>p.1==(l.drop i).takeWhile Es)=some p/\e=.returned (.tuple #[.agg #[.n p.2,.n line,.string ⟨#[]⟩,.i 0],.bool true]))\/
  (Lv.find? (fun p=>p.1==(l.drop i).takeWhile Es)=none/\((16<((l.drop i).takeWhile Es).length/\e=.returned (.tuple #[.agg #[.i 0,.i 0,.string ⟨#[]⟩,.i 0],.bool false]))\/
   (((l.drop i).takeWhile Es).length<=16/\e=.returned (.tuple #[.agg #[.i 1,.n line,.s ((l.drop i).takeWhile Es),.i 0],.bool true])))))
def Ag0(l:List UInt8)(w:World)(h:l.length<=100000):Calls Tryz.prog 178 #[.s l] w fun e w'=>e=.returned (.s l)/\Bw w w':=by
 have hs:(⟨l.toArray⟩:ByteArray).size<=281474976710656:=by show l.toArray.size<=_;simp;omega
 go_in;go_wp2_with fail
 refine(Tryz.stringslite_Clone _ _ hs).mono ?_;rintro e w' ⟨rfl,hb⟩;go_wp2;go_ret;exact⟨rfl,hb⟩
def Agp{b te tg:Nat}{fr:Nat×Nat}{w:World}{l:List UInt8}{i line:Nat}(h:Sc b te w l i line)(hg:w.heap[0]?=some (.cells Z5 tg fr))(Bq:b≠0)(hl:l.length<=100000)(hi:i<l.length) :
  Calls Tryz.prog 125 #[.p b] w (Ab4 b te w l i line):=by
 have hlb:=A6 h;go_in;go_wp2_with fail
 refine(Aqq (h.keep (Ck _ _ _ hlb)) hl z4ma).mono ?_;rintro e w1 ⟨rfl,hsc1,Cy⟩;have Kj:=Cy.blk (alloc_old hg) z4ma;have Im:=Cy.blk (Bp w _) z4ma;have Bd:A8 b w w1:=((A8.refl b w).alloc _).trans Cy;have Ef:=Cy.size;simp only[K3]at Ef;generalize ht:(l.drop i).takeWhile Es=t at *;have htl:t.length<=100000:=by rw[←ht];have:=(Z9 Es (l:=l.drop i)).length_le;simp at this;omega
 go_wp2_with (refine wpList_load_row rfl 330 _ rfl 0 rfl tg _ fr _ Kj Tryz.underlying330 rfl z4pa ?_)
 go_loopg [10] 14 (fun k v wr=>∃n:Nat,v=.i n/\n+k=14/\Lv.find? (fun p=>p.1==t)=(Lv.drop n).find? (fun p=>p.1==t)/\Sc b te wr l (i+t.length) line/\A8 b w wr/\wr.heap[w.heap.size]?=some (.cells #[.i 0,.i 0,.string ⟨#[]⟩,.i 0] 198))
 case atStart=>exact⟨0,rfl,rfl,rfl,hsc1,Bd,Im⟩
 case round=>
  obtain⟨n,rfl,hnk,hf,hsc,ho,htk⟩:=hrel;obtain⟨x0,x1,x2,x3,fx,lx⟩:=Eo htk;obtain⟨c0,c1,c2,fz,lbr⟩:=hsc.cells;have hne:b≠w.heap.size:=by omega
  by_cases hlt:n<14
  ·have hix:=fun W=>Awc W n hlt;have HF1:=hf.trans (A62 hlt);generalize Z5=sc at *;generalize Lv[n]=p at *;cases hp:(p.1==t)
   ·have HF2:Hid (Lv.find? (fun p=>p.1==t)=(Lv.drop (n+1)).find? (fun p=>p.1==t)):=by
     exact z45a
    go_wp2;go_roundg (gk-1)
    case measure=>omega
    case rel=>exact⟨n+1,rfl,by omega,HF2.o,hsc.keep (Ck _ _ _ lbr),ho.alloc _,alloc_old htk⟩
   ·have HF2:Hid (Lv.find? (fun p=>p.1==t)=some p):=by
     exact z45a
    go_wp2;have hne2:wr.heap.size≠b:=by omega
    have hne3:wr.heap.size≠w.heap.size:=by omega
    go_region
    all_goals go_wp2
    all_goals
     refine B9 (v:=.tuple #[.agg #[.n p.2,.n line,.string ⟨#[]⟩,.i 0],.bool true]) (by simp[results,Tryz.results125,go_sem,x0,x1,x2,x3,lx]) rfl ?_;refine⟨?_,?_,.inl ⟨p,by rw[ht];exact HF2.o,rfl⟩⟩
     ·exact((A8.Jm ho (Af _) _ _ _ _).alloc _).drew
     ·rw[ht];exact alloc_old (hsc.keep (Iy z4ma _ _ _ _))
  ·have HF2:Hid (Lv.find? (fun p=>p.1==t)=none):=by
    show _=_;rw[hf,show n=14 by omega];rfl
   by_cases h16:16<t.length
   ·have t16:decide (16<(t.length:Int))=true:=Sa z4ma;have H16:=A0 h16;go_wp2;refine B9 (v:=.tuple #[.agg #[.i 0,.i 0,.string ⟨#[]⟩,.i 0],.bool false]) (by simp[results,Tryz.results125,go_sem,x0,x1,x2,x3]) rfl ?_;refine⟨A8.Jm ho (Af _) _ _ _ _,by rw[ht];exact hsc.keep (Iy z4ma _ _ _ _),.inr ⟨by rw[ht];exact HF2.o,.inl ⟨by rw[ht];exact H16.o,rfl⟩⟩⟩
   ·have t16:decide (16<(t.length:Int))=false:=O2 z4ma;have H16:=A0 h16;go_wp2;have HT':wr.drew.heap[w.heap.size]?=some (.cells #[.i 0,.i 0,.string ⟨#[]⟩,.i 0] 198 (0,0)):=htk;have HSc':Sc b te wr.drew l (i+t.length) line:=hsc.keep rfl;go_region_with (go_at_call 178;refine(Ag0 _ _ htl).mono ?_;rintro e w5 ⟨rfl,Cz⟩;have hT5:=Gn Cz HT';have hSc5:Sc b te w5 l (i+t.length) line:=Gn Cz HSc';obtain⟨y0,y1,y2,y3,fy,ly⟩:=Eo hT5;obtain⟨q0,q1,q2,fq,lq⟩:=hSc5.cells;have HSc5:=A0 hSc5;have Ez:=A0 Cz;clear hT5 hSc5 Cz)
    all_goals go_wp2
    all_goals refine B9 (v:=.tuple #[.agg #[.i 1,.n line,.s t,.i 0],.bool true]) (by simp[results,Tryz.results125,go_sem,y0,y1,y2,y3]) rfl ?_
    all_goals refine⟨A8.Jm (ho.drew.trans (Below.only Ez.o)) (Af _) _ _ _ _,by rw[ht];exact HSc5.o.keep (Iy z4ma _ _ _ _),.inr ⟨by rw[ht];exact HF2.o,.inr ⟨by rw[ht];exact Nat.le_of_not_lt H16.o,by rw[ht]⟩⟩⟩
def Avn:∀(l:List UInt8),(∀c∈l,E5 c=true)->∀acc:Nat,acc<=18446744073709551615->
  (Kw acc l<=18446744073709551615->Lib.parseUintM 18446744073709551615 acc l=.ok (Kw acc l).toNat)/\(18446744073709551615<Kw acc l->Lib.parseUintM 18446744073709551615 acc l=.range):=by
 intro l;induction l with
 | nil=>intro _ acc ha;exact⟨fun _=>by simp[Lib.parseUintM,Kw],fun h=>by simp only[Kw]at h;omega⟩
 | cons c r ih=>
  intro hd acc ha;have hc:=hd c (Q0 ..);have hr:∀c∈r,E5 c=true:=fun x hx=>hd x (Sb _ hx);have hc2:48<=c.toNat/\c.toNat<=57:=by
   unfold E5 at hc;simpa using hc
  have he:Kw acc (c::r)=Kw ((acc*10+(c.toNat-48):Nat):Int) r:=by
   rw[Kw];congr 1
   omega
  have hge:=A5h r hr ((acc*10+(c.toNat-48):Nat):Int) z4ma;rw[he];simp only[Lib.parseUintM];rw[A7 hc2];by_cases h1:1844674407370955162<=acc
  ·rw[A7 h1];exact⟨fun h=>by omega,fun _=>rfl⟩
  ·rw[A1 h1];by_cases h2:18446744073709551615<acc*10+(c.toNat-48)
   ·rw[A7 h2];exact⟨fun h=>by omega,fun _=>rfl⟩
   ·rw[A1 h2];exact ih hr _ z4ma
def Ahm{c:UInt8}(h:E5 c=true):c.toNat≠43/\c.toNat≠45:=by
 unfold E5 at h;simp at h;omega
def Aoj(c:UInt8)(r:List UInt8)(hd:∀x∈c::r,E5 x=true):Lib.parseIntB 64 (c::r)=match numOf (c::r) with
  | some v=>.ok v
  | none=>.range:=by
 have hc:=Ahm (hd c (Q0 ..));have hge:=A5h (c::r) hd 0 z4ma;have e:(2:Nat) ^ 64-1=18446744073709551615:=by decide
 have e2:(2:Nat) ^ (64-1)=9223372036854775808:=by decide
 rw[Lib.parseIntB_plain 64 c r hc.1 hc.2];unfold Lib.parseUintB;rw[A1 z4ra,e,e2];have h:=Avn (c::r) hd 0 z4ma;unfold numOf A1q;by_cases h1:Kw ((0:Nat):Int) (c::r)<=18446744073709551615
 ·rw[h.1 h1];simp only[Lib.signlessC];have h0:Kw ((0:Nat):Int) (c::r)=Kw 0 (c::r):=rfl;rw[h0]at h1 ⊢;by_cases h2:Kw 0 (c::r)<=9223372036854775807
  ·rw[A7 h2,Ai];simp only;congr 1
   omega
  ·rw[A1 h2,Mn]
 ·rw[h.2 z4ma];have h0:Kw ((0:Nat):Int) (c::r)=Kw 0 (c::r):=rfl;rw[h0]at h1;rw[Ai];rfl
def Ab5(b te:Nat)(w:World)(l:List UInt8)(i line:Nat)(e:Ending)(w':World):Prop:=
 A8 b w w'/\Sc b te w' l (i+((l.drop i).takeWhile E5).length) line/\((∃v,numOf ((l.drop i).takeWhile E5)=some v/\e=.returned (.tuple #[.agg #[.i 2,.n line,.string ⟨#[]⟩,.i v],.bool true]))\/
  (numOf ((l.drop i).takeWhile E5)=none/\e=.returned (.tuple #[.agg #[.i 0,.i 0,.string ⟨#[]⟩,.i 0],.bool false])))
def Ame{p:UInt8->Bool}{x:UInt8}:∀{l:List UInt8},x∈l.takeWhile p->p x=true:=by
 intro l;induction l with
 | nil=>intro h;simp at h
 | cons c r ih=>
  intro h;rw[Tg]at h;split at h
  ·rename_i hc;rcases L9.1 h with e|e
   ·rw[e];exact hc
   ·exact ih e
  ·simp at h
def Ags{b te:Nat}{ev:Value}{w:World}{l:List UInt8}{i line:Nat}(h:Sc b te w l i line)(hv:w.cell? ⟨3,0,none⟩=some ev)(hev:ev=.nilIface\/∃te pe,ev=.iface te pe)(Bq:b≠3)(hl:l.length<=100000)(hi:i<l.length)(hd:E5 l[i]=true) :
  Calls Tryz.prog 127 #[.p b] w (Ab5 b te w l i line):=by
 have HSc0:=A0 h;have hlb:=A6 h;have HV0:=A0 hv;clear h hv;go_in;go_wp2_with fail
 refine(Aqn (HSc0.o.keep (Ck _ _ _ hlb)) hl z4ma).mono ?_;rintro e w1 ⟨rfl,hsc1,Cy⟩;have Im:=Cy.blk (Bp w _) z4ma;have HSc1:=A0 hsc1;have Bd:A8 b w w1:=((A8.refl b w).alloc _).trans Cy;have Ef:=Cy.size;simp only[K3]at Ef;have lv:3<w.heap.size:=O3 HV0.o;have HV1:w1.cell? ⟨3,0,none⟩=some ev:=(D9 (Bd.block _ lv (fun e=>Bq e.symm))).trans HV0.o;generalize ht:(l.drop i).takeWhile E5=t at *;have htl:t.length<=100000:=by rw[←ht];have:=(Z9 E5 (l:=l.drop i)).length_le;simp at this;omega
 have htd:∀c∈t,E5 c=true:=by
  intro c hc;rw[←ht]at hc;exact Ame hc
 obtain⟨c0,r0,hcr⟩:∃c r,t=c::r:=by
  rw[←ht,Gk hi,List.takeWhile_cons_of_pos hd];exact⟨_,_,rfl⟩
 have hpi:Lib.parseIntB 64 t=match numOf t with
  | some v=>.ok v
  | none=>.range:=by rw[hcr];exact Aoj c0 r0 (by rw[←hcr];exact htd)
 have HTt:=A0 ht;clear ht hsc1 Cy HSc0 HV0 htd hcr;cases hn:numOf t with
 | some v=>
  rw[hn]at hpi;have HN:=A0 hn;have HPI:=A0 hpi;clear hn hpi;go_wp2_with fail
  refine(Tryz.strconv_ParseInt_10_at64_ok ⟨t.toArray⟩ (by show t.toArray.size<=_;simp;omega) v (by simpa using HPI.o) _).mono ?_;rintro e w2 ⟨rfl,Gh⟩;have Ad:Bw w1 w2:=by
   rcases Gh with rfl|⟨t',rfl⟩
   ·exact Al _ _
   ·exact Lib.bytesWorld_below _ _ _
  have Kz:=Gn Ad Im;have hSc2:Sc b te w2 l (i+t.length) line:=Gn Ad HSc1.o;obtain⟨y0,y1,y2,y3,fy,ly⟩:=Eo Kz;obtain⟨q0,q1,q2,fq,lq⟩:=hSc2.cells;have HSc2:=A0 hSc2;have Bo:Hid (A8 b w w2):=Bd.trans (Below.only Ad);clear Kz hSc2 Ad Gh;go_wp2;refine B9 (v:=.tuple #[.agg #[.i 2,.n line,.string ⟨#[]⟩,.i v],.bool true]) (by simp[results,Tryz.results127,go_sem,y0,y1,y2,y3]) rfl ?_;exact⟨A8.Jm Bo.o (Af _) _ _ _ _,by rw[HTt.o];exact HSc2.o.keep (Iy z4ma _ _ _ _),.inl ⟨v,by rw[HTt.o];exact HN.o,rfl⟩⟩
 | none=>
  rw[hn]at hpi;have HN:=A0 hn;have HPI:=A0 hpi;clear hn hpi;go_wp2_with fail
  refine(Tryz.strconv_ParseInt_10_at64_range ⟨t.toArray⟩ (by show t.toArray.size<=_;simp;omega) (by simpa using HPI.o) ev _ HV1 hev).mono ?_;rintro e w2 ⟨N,rfl,_,_,Ad⟩;have Kz:=Gn Ad Im;have hSc2:Sc b te w2 l (i+t.length) line:=Gn Ad HSc1.o;obtain⟨y0,y1,y2,y3,fy,ly⟩:=Eo Kz;have HSc2:=A0 hSc2;have Bo:Hid (A8 b w w2):=Bd.trans (Below.only Ad);clear Kz hSc2 Ad;go_wp2;refine B9 (v:=.tuple #[.agg #[.i 0,.i 0,.string ⟨#[]⟩,.i 0],.bool false]) (by simp[results,Tryz.results127,go_sem,y0,y1,y2,y3]) rfl ?_;exact⟨A8.Jm Bo.o (Af _) _ _ _ _,by rw[HTt.o];exact HSc2.o.keep (Iy z4ma _ _ _ _),.inr ⟨by rw[HTt.o];exact HN.o,rfl⟩⟩
end
section
open Go.RowKit
def Aaf(t:List UInt8):O0 t=((Lv.find? fun p=>p.1==t).map (·.2)).getD 0:=by
 by_cases h0:t=[102,110]
 ·subst h0;rfl
 by_cases h1:t=[108,101,116]
 ·subst h1;rfl
 by_cases h2:t=[105,102]
 ·subst h2;rfl
 by_cases h3:t=[101,108,115,101]
 ·subst h3;rfl
 by_cases h4:t=[119,104,105,108,101]
 ·subst h4;rfl
 by_cases h5:t=[114,101,116,117,114,110]
 ·subst h5;rfl
 by_cases h6:t=[98,114,101,97,107]
 ·subst h6;rfl
 by_cases h7:t=[99,111,110,116,105,110,117,101]
 ·subst h7;rfl
 by_cases h8:t=[112,114,105,110,116]
 ·subst h8;rfl
 by_cases h9:t=[116,114,117,101]
 ·subst h9;rfl
 by_cases h10:t=[102,97,108,115,101]
 ·subst h10;rfl
 by_cases h11:t=[110,117,108,108]
 ·subst h11;rfl
 by_cases h12:t=[108,101,110]
 ·subst h12;rfl
 by_cases h13:t=[112,117,115,104]
 ·subst h13;rfl
 unfold O0 Lv;simp only[Am.2 h0,Am.2 h1,Am.2 h2,Am.2 h3,Am.2 h4,Am.2 h5,Am.2 h6,Am.2 h7,Am.2 h8,Am.2 h9,Am.2 h10,Am.2 h11,Am.2 h12,Am.2 h13,Am.2 (N4 h0),Am.2 (N4 h1),Am.2 (N4 h2),Am.2 (N4 h3),Am.2 (N4 h4),Am.2 (N4 h5),Am.2 (N4 h6),Am.2 (N4 h7),Am.2 (N4 h8),Am.2 (N4 h9),Am.2 (N4 h10),Am.2 (N4 h11),Am.2 (N4 h12),Am.2 (N4 h13),Py,Oq,Za,A33,Option.map_none,Option.getD_none]
def Awd{t:List UInt8}{p:List UInt8×Nat}(h:(Lv.find? fun p=>p.1==t)=some p):O0 t=p.2/\p.2≠0:=by
 refine⟨by rw[Aaf,h];rfl,?_⟩;have:∀q∈Lv,q.2≠0:=by decide
 exact this p (List.mem_of_find?_eq_some h)
def Aag{t:List UInt8}(h:(Lv.find? fun p=>p.1==t)=none):O0 t=0:=by rw[Aaf,h];rfl
def A8c(c a:UInt8)(r:List UInt8):I3 (c::r) [a]=(c==a):=by
 unfold I3;simp
def Aos(c d a b:UInt8)(r:List UInt8):I3 (c::d::r) [a,b]=(c==a&&d==b):=by
 unfold I3;rw[Bool.eq_iff_iff];simp
def Aot(c a b:UInt8):I3 [c] [a,b]=false:=by
 unfold I3;simp
def Tq(l:List UInt8):Prop:=(∃p,M7.find? (fun p=>I3 l p.1)=some p/\I9 l=(p.2,p.1.length)/\p.1.length≠0)\/(M7.find? (fun p=>I3 l p.1)=none/\I9 l=(0,0))
def z22a {P:Prop} (h:P:=by
  simp only[Am.2 o40,Am.2 o41,Am.2 o123,Am.2 o125,Am.2 o91,Am.2 o93,Am.2 o44,Am.2 o59,Am.2 o61,Am.2 o33,Am.2 o60,Am.2 o62,Am.2 o43,Am.2 o45,Am.2 o42,Am.2 o47,Am.2 o37,Py,Oq];rfl):P:=h
def sign_one(c:UInt8):Tq [c]:=by
 unfold Tq M7;simp only[Za,A33,Aot,A8c];by_cases o40:c=40
 ·subst o40;exact .inl ⟨([40],18),rfl,rfl,by decide⟩
 by_cases o41:c=41
 ·subst o41;exact .inl ⟨([41],19),rfl,rfl,by decide⟩
 by_cases o123:c=123
 ·subst o123;exact .inl ⟨([123],20),rfl,rfl,by decide⟩
 by_cases o125:c=125
 ·subst o125;exact .inl ⟨([125],21),rfl,rfl,by decide⟩
 by_cases o91:c=91
 ·subst o91;exact .inl ⟨([91],22),rfl,rfl,by decide⟩
 by_cases o93:c=93
 ·subst o93;exact .inl ⟨([93],23),rfl,rfl,by decide⟩
 by_cases o44:c=44
 ·subst o44;exact .inl ⟨([44],24),rfl,rfl,by decide⟩
 by_cases o59:c=59
 ·subst o59;exact .inl ⟨([59],25),rfl,rfl,by decide⟩
 by_cases o61:c=61
 ·subst o61;exact .inl ⟨([61],26),rfl,rfl,by decide⟩
 by_cases o33:c=33
 ·subst o33;exact .inl ⟨([33],28),rfl,rfl,by decide⟩
 by_cases o60:c=60
 ·subst o60;exact .inl ⟨([60],30),rfl,rfl,by decide⟩
 by_cases o62:c=62
 ·subst o62;exact .inl ⟨([62],32),rfl,rfl,by decide⟩
 by_cases o43:c=43
 ·subst o43;exact .inl ⟨([43],34),rfl,rfl,by decide⟩
 by_cases o45:c=45
 ·subst o45;exact .inl ⟨([45],35),rfl,rfl,by decide⟩
 by_cases o42:c=42
 ·subst o42;exact .inl ⟨([42],36),rfl,rfl,by decide⟩
 by_cases o47:c=47
 ·subst o47;exact .inl ⟨([47],37),rfl,rfl,by decide⟩
 by_cases o37:c=37
 ·subst o37;exact .inl ⟨([37],38),rfl,rfl,by decide⟩
 right;simp only[Am.2 o40,Am.2 o41,Am.2 o123,Am.2 o125,Am.2 o91,Am.2 o93,Am.2 o44,Am.2 o59,Am.2 o61,Am.2 o33,Am.2 o60,Am.2 o62,Am.2 o43,Am.2 o45,Am.2 o42,Am.2 o47,Am.2 o37];refine⟨trivial,?_⟩;unfold I9 K1;exact z22a
def Ash(c d:UInt8)(r:List UInt8):Tq (c::d::r):=by
 unfold Tq M7;simp only[Za,A33,Aos,A8c];cases t27:(c==61&&d==61)
 case true=>
  simp only[F3,Fh]at t27;obtain⟨rfl,rfl⟩:=t27;exact .inl ⟨([61,61],27),rfl,rfl,by decide⟩
 cases t29:(c==33&&d==61)
 case true=>
  simp only[F3,Fh]at t29;obtain⟨rfl,rfl⟩:=t29;exact .inl ⟨([33,61],29),rfl,rfl,by decide⟩
 cases t31:(c==60&&d==61)
 case true=>
  simp only[F3,Fh]at t31;obtain⟨rfl,rfl⟩:=t31;exact .inl ⟨([60,61],31),rfl,rfl,by decide⟩
 cases t33:(c==62&&d==61)
 case true=>
  simp only[F3,Fh]at t33;obtain⟨rfl,rfl⟩:=t33;exact .inl ⟨([62,61],33),rfl,rfl,by decide⟩
 cases t39:(c==38&&d==38)
 case true=>
  simp only[F3,Fh]at t39;obtain⟨rfl,rfl⟩:=t39;exact .inl ⟨([38,38],39),rfl,rfl,by decide⟩
 cases t40:(c==124&&d==124)
 case true=>
  simp only[F3,Fh]at t40;obtain⟨rfl,rfl⟩:=t40;exact .inl ⟨([124,124],40),rfl,rfl,by decide⟩
 have h2:Mk c d=0:=by
  unfold Mk;simp only[t27,t29,t31,t33,t39,t40,Py,Oq]
 have hs:I9 (c::d::r)=if K1 c==0 then(0,0) else(K1 c,1):=by
  rw[I9,h2];rfl
 rw[hs];by_cases o40:c=40
 ·subst o40;exact .inl ⟨([40],18),rfl,rfl,by decide⟩
 by_cases o41:c=41
 ·subst o41;exact .inl ⟨([41],19),rfl,rfl,by decide⟩
 by_cases o123:c=123
 ·subst o123;exact .inl ⟨([123],20),rfl,rfl,by decide⟩
 by_cases o125:c=125
 ·subst o125;exact .inl ⟨([125],21),rfl,rfl,by decide⟩
 by_cases o91:c=91
 ·subst o91;exact .inl ⟨([91],22),rfl,rfl,by decide⟩
 by_cases o93:c=93
 ·subst o93;exact .inl ⟨([93],23),rfl,rfl,by decide⟩
 by_cases o44:c=44
 ·subst o44;exact .inl ⟨([44],24),rfl,rfl,by decide⟩
 by_cases o59:c=59
 ·subst o59;exact .inl ⟨([59],25),rfl,rfl,by decide⟩
 by_cases o61:c=61
 ·subst o61;exact .inl ⟨([61],26),rfl,rfl,by decide⟩
 by_cases o33:c=33
 ·subst o33;exact .inl ⟨([33],28),rfl,rfl,by decide⟩
 by_cases o60:c=60
 ·subst o60;exact .inl ⟨([60],30),rfl,rfl,by decide⟩
 by_cases o62:c=62
 ·subst o62;exact .inl ⟨([62],32),rfl,rfl,by decide⟩
 by_cases o43:c=43
 ·subst o43;exact .inl ⟨([43],34),rfl,rfl,by decide⟩
 by_cases o45:c=45
 ·subst o45;exact .inl ⟨([45],35),rfl,rfl,by decide⟩
 by_cases o42:c=42
 ·subst o42;exact .inl ⟨([42],36),rfl,rfl,by decide⟩
 by_cases o47:c=47
 ·subst o47;exact .inl ⟨([47],37),rfl,rfl,by decide⟩
 by_cases o37:c=37
 ·subst o37;exact .inl ⟨([37],38),rfl,rfl,by decide⟩
 right;simp only[Am.2 o40,Am.2 o41,Am.2 o123,Am.2 o125,Am.2 o91,Am.2 o93,Am.2 o44,Am.2 o59,Am.2 o61,Am.2 o33,Am.2 o60,Am.2 o62,Am.2 o43,Am.2 o45,Am.2 o42,Am.2 o47,Am.2 o37];refine⟨trivial,?_⟩;unfold K1;exact z22a
def Asf(c:UInt8)(r:List UInt8):Tq (c::r):=by
 cases r with
 | nil=>exact sign_one c
 | cons d r=>exact Ash c d r
end
section
set_option maxRecDepth 100000
open Go.RowKit
def Zt(b te:Nat)(w:World)(l:List UInt8)(i line:Nat)(e:Ending)(w':World):Prop:=
 A8 b w w'/\((∃x,(Gs (l.drop i)).2=some x/\e=.returned (.tuple #[.agg #[.n x.1.k,.n ((line+(Gs (l.drop i)).1:Nat)),.s x.1.s,.i x.1.n],.bool true])/\Sc b te w' l (i+x.2) (line+(Gs (l.drop i)).1))\/
  ((Gs (l.drop i)).2=none/\e=.returned (.tuple #[.agg #[.i 0,.i 0,.string ⟨#[]⟩,.i 0],.bool false])/\∃j,Sc b te w' l j (line+(Gs (l.drop i)).1)))
structure K6 (w : World) : Prop where
 signs:∃tg fr,w.heap[1]?=some (.cells Yu tg fr)
 words:∃tg fr,w.heap[0]?=some (.cells Z5 tg fr)
 range:∃ev,w.cell? ⟨3,0,none⟩=some ev/\(ev=.nilIface\/∃te pe,ev=.iface te pe)
def K6.keep{w w':World}(h:K6 w)(hk:∀k,k<4->k<w.heap.size->w'.heap[k]?=w.heap[k]?):K6 w':=by
 obtain⟨⟨t1,f1,h1⟩,⟨t2,f2,h2⟩,⟨ev,h3,h4⟩⟩:=h;exact⟨⟨t1,f1,(hk _ z4oa (A6 h1)).trans h1⟩,⟨t2,f2,(hk _ z4oa (A6 h2)).trans h2⟩,⟨ev,(D9 (hk _ z4oa (O3 h3))).trans h3,h4⟩⟩
def K6.only{b:Nat}{w w':World}(h:K6 w)(ho:A8 b w w')(hb:4<=b):K6 w':=h.keep (fun k h1 h2=>ho.block k h2 z4ma)
def K6.below{w w':World}(h:K6 w)(ho:Bw w w'):K6 w':=h.keep (fun k _ h2=>ho.block k h2)
def Amr{l:List UInt8}{i:Nat}(hok:(Bg false (l.drop i)).2.2=true)(hlt:i+(Bg false (l.drop i)).1<l.length):(Gs (l.drop i)).2=(Fq (l.drop (i+(Bg false (l.drop i)).1))).map fun x=>(x.1,(Bg false (l.drop i)).1+x.2):=by
 unfold Gs;simp only[hok,P6,Uz];rw[Gk hlt,T2]
def Alz{c:UInt8}(h:isLet c=true):E5 c=false:=by
 unfold isLet at h;unfold E5;simp only[Gz,F3,Jg]at h;rw[Aas];by_cases h1:c.toNat<=57
 ·left;rw[Ze];omega
 ·right;rw[Ze];exact h1
def Wd{b te:Nat}{w W:World}{l:List UInt8}{i line j lj n m len:Nat}{t:Tk}(hO:A8 b w W)(hsc:Sc b te W l (j+len) lj)(hj:i+n=j)(hlj:line+m=lj)(h1:(Gs (l.drop i)).1=m)(hN:(Gs (l.drop i)).2=(Fq (l.drop j)).map fun x=>(x.1,n+x.2))(ht:Fq (l.drop j)=some (t,len)) :
  Zt b te w l i line (.returned (.tuple #[.agg #[.n t.k,.n lj,.s t.s,.i t.n],.bool true])) W:=by
 refine⟨hO,.inl ⟨(t,n+len),by rw[hN,ht];rfl,by rw[h1,hlj],?_⟩⟩;rw[h1,hlj,show i+(n+len)=j+len by omega];exact hsc
def Yg{b te:Nat}{w W:World}{l:List UInt8}{i line j lj n m:Nat}(hO:A8 b w W)(hsc:∃q,Sc b te W l q lj)(hlj:line+m=lj)(h1:(Gs (l.drop i)).1=m)(hN:(Gs (l.drop i)).2=(Fq (l.drop j)).map fun x=>(x.1,n+x.2))(ht:Fq (l.drop j)=none) :
  Zt b te w l i line (.returned (.tuple #[.agg #[.i 0,.i 0,.string ⟨#[]⟩,.i 0],.bool false])) W:=by
 refine⟨hO,.inr ⟨by rw[hN,ht];rfl,rfl,?_⟩⟩;rw[h1,hlj];exact hsc
def z54a {P:Prop} (h:P:=by simp[results,Tryz.results77,go_sem,y0,y1,y2,y3]):P:=h
def z0ia {P:Prop} (h:P:=by
  have Is:=Cx.blk HT3 z4ma;obtain⟨y0,y1,y2,y3,fy,ly⟩:=Eo Is;have Ce:Hid (A8 b w w4):=D1.trans Cx;clear Is Cx;go_wp2;refine B9 (v:=.tuple #[.agg #[.i 0,.i 0,.string ⟨#[]⟩,.i 0],.bool false]) z54a rfl ?_;exact Yg (A8.Jm Ce.o (Af _) _ _ _ _) ⟨_,HSc4.o.keep (Iy z4ma _ _ _ _)⟩ HLj.o G4 HN.o K7.o):P:=h
def z3da {P:Prop} (h:P:=by
  have HSc4:=A0 Jx;have K7:Hid (Fq (l.drop j)=none):=by show _=_;rw[HTok.o,hx]
  clear Jx hx;exact z0ia):P:=h
def z1aa {P:Prop} (h:P:=by
  clear Jx hx;have Is:=Cx.blk HT3 z4ma;obtain⟨y0,y1,y2,y3,fy,ly⟩:=Eo Is;have Ce:Hid (A8 b w w4):=D1.trans Cx;clear Is Cx;go_wp2;refine B9 (v:=.tuple #[.agg #[.n p.2,.n lj,.string ⟨#[]⟩,.i 0],.bool true]) z54a rfl ?_;exact Wd (t:=⟨(p.2:Nat),0,_,_⟩) (A8.Jm Ce.o (Af _) _ _ _ _) (HSc4.o.keep (Iy z4ma _ _ _ _)) HJ.o HLj.o G4 HN.o K7.o):P:=h
def Amm{b te:Nat}{w:World}{l:List UInt8}{i line:Nat}(h:Sc b te w l i line)(hg:K6 w)(Bq:4<=b)(hl:l.length<=100000)(hi:i<=l.length)(hln:line<=i+1) :
  Calls Tryz.prog 77 #[.p b] w (Zt b te w l i line):=by
 have HSc0:=A0 h;have HG0:=A0 hg;have hlb:=A6 h;have HLe:=A2b (l.drop i) false;clear h hg;go_in;go_wp2_with fail
 refine(Asj (HSc0.o.keep (Ck _ _ _ hlb)) hl hi hln).mono ?_;rintro e w1 ⟨rfl,hsc1,Cy⟩;have Im:=Cy.blk (Bp w (.cells #[.i 0,.i 0,.string ⟨#[]⟩,.i 0] 198)) z4ma;have HSc1:=A0 hsc1;have Bd:A8 b w w1:=((A8.refl b w).alloc _).trans Cy;have HG1:=HG0.o.only Bd Bq;have Ef:=Cy.size;simp only[K3]at Ef;have G4:(Gs (l.drop i)).1=(Bg false (l.drop i)).2.1:=rfl;have HTk:=fun h1 h2=>Amr (l:=l) (i:=i) h1 h2;have HEnd:(Bg false (l.drop i)).2.2=true->i+(Bg false (l.drop i)).1=l.length->(Gs (l.drop i)).2=some (⟨0,0,[],0⟩,(Bg false (l.drop i)).1):=by
  intro h1 h2;unfold Gs;simp only[h1,P6,Uz];have hd:l.drop (i+(Bg false (l.drop i)).1)=[]:=Z8 z4ma;rw[hd,T2]
 have HNo:(Bg false (l.drop i)).2.2=false->(Gs (l.drop i)).2=none:=by
  intro h1;unfold Gs;simp[h1]
 have hle:=HLe.1;rw[Qs]at hle;have hle2:=HLe.2;generalize hsn:(Bg false (l.drop i)).1=n at *;generalize hsm:(Bg false (l.drop i)).2.1=m at *;obtain⟨x0,x1,x2,x3,fx,lx⟩:=Eo Im;obtain⟨c0,c1,c2,fz,Bn⟩:=hsc1.cells;clear hsc1 Cy HSc0 HG0 HLe hsn hsm;cases hok:(Bg false (l.drop i)).2.2
 ·have HN:=A0 (HNo hok);clear HTk HEnd HNo hok;go_wp2;refine B9 (v:=.tuple #[.agg #[.i 0,.i 0,.string ⟨#[]⟩,.i 0],.bool false]) (by simp[results,Tryz.results77,go_sem,x0,x1,x2,x3]) rfl ?_;exact⟨A8.Jm Bd (Af _) _ _ _ _,.inr ⟨HN.o,rfl,_,by rw[G4];exact HSc1.o.keep (Iy z4ma _ _ _ _)⟩⟩
 ·by_cases hend:i+n=l.length
  ·have HN:=A0 (HEnd hok hend);have t1:(((i+n:Nat):Int)==(l.length:Int))=true:=by rw[hend];simp
   clear HTk HEnd HNo hok;have HEn:=A0 hend;clear hend;go_wp2;go_quiet (fail)
   go_wp2;refine B9 (v:=.tuple #[.agg #[.i 0,.n ((line+m:Nat)),.string ⟨#[]⟩,.i 0],.bool true]) (by simp[results,Tryz.results77,go_sem,x0,x1,x2,x3]) rfl ?_;exact⟨A8.Jm (Bd.drewN nq) (Af _) _ _ _ _,.inl ⟨_,HN.o,by rw[G4];rfl,by rw[G4];exact HSc1.o.keep (Iy (w:=w1.drewN nq) z4ma _ _ _ _)⟩⟩
  ·have hlt:i+n<l.length:=by omega
   have HN:=A0 (HTk hok hlt);clear HTk HEnd HNo hok hend;have hlm:line+m<=100001:=by omega
   generalize hj:i+n=j at *;have HJ:=A0 hj;generalize hlj:line+m=lj at *;have HLj:=A0 hlj;clear hj hlj;have t1:((j:Int)==(l.length:Int))=false:=by rw[Am];omega
   have hE:∀h,((⟨l.toArray⟩:ByteArray)[j]'h)=l[j]:=fun h=>Sn l j h;go_wp2;go_quiet (fail)
   have HSc2:Sc b te (w1.drewN nq) l j lj:=HSc1.o.keep rfl;have Bo:A8 b w (w1.drewN nq):=Bd.drewN _;have HT2:(w1.drewN nq).heap[w.heap.size]?=_:=Im;have HG2:K6 (w1.drewN nq):=HG1.keep (fun _ _ _=>rfl);have G0:w.heap.size+1<=(w1.drewN nq).heap.size:=Ef;clear x0 x1 x2 x3 fx lx c0 c1 c2 fz Bn HSc1 Bd Im HG1 Ef;generalize w1.drewN nq=w2 at *;obtain⟨c0,c1,c2,fz,Bn⟩:=HSc2.cells;go_wp2;go_quiet (fail)
   have HSc3:Sc b te (w2.drewN nq) l j lj:=HSc2.keep rfl;have D1:A8 b w (w2.drewN nq):=Bo.drewN _;have HT3:(w2.drewN nq).heap[w.heap.size]?=_:=HT2;have HG3:K6 (w2.drewN nq):=HG2.keep (fun _ _ _=>rfl);have lw3:w.heap.size+1<=(w2.drewN nq).heap.size:=G0;clear c0 c1 c2 fz Bn HSc2 Bo HT2 HG2 G0 hE;generalize w2.drewN nq=w3 at *;obtain⟨⟨tg1,fr1,Kj⟩,⟨tg2,fr2,Jw⟩,⟨ev,Hg,Iv⟩⟩:=HG3;cases ha:isLet l[j]
   ·cases hd:E5 l[j]
    ·by_cases hq:l[j]=34
     ·have t34:((l[j].toNat:Int)==34)=true:=Pe (d:=34) rfl hq;have HTok:=A0 (Ave l j hlt hq);have HQ:=A0 (Agw HSc3 hl hlt);clear hq Kj Jw Hg Iv;go_wp2_with fail
      refine(Vl _ _).mono ?_;rintro e w' ⟨rfl,rfl⟩;rw[ha];go_wp2_with fail
      refine(U0 _ _).mono ?_;rintro e w' ⟨rfl,rfl⟩;rw[hd];go_wp2_with fail
      refine HQ.o.mono ?_;rintro e w4 ⟨Cx,⟨x,hx,rfl,Jx⟩|⟨hx,rfl,j',Jx⟩⟩
      ·have HSc4:Hid (Sc b te w4 l (j+(x.2+1)) lj):=by rw[show j+(x.2+1)=j+1+x.2 by omega];exact Jx
       have K7:Hid (Fq (l.drop j)=some (⟨3,0,x.1,0⟩,x.2+1)):=by show _=_;rw[HTok.o,hx]
       clear Jx hx;have Is:=Cx.blk HT3 z4ma;obtain⟨y0,y1,y2,y3,fy,ly⟩:=Eo Is;have Ce:Hid (A8 b w w4):=D1.trans Cx;clear Is Cx;go_wp2;refine B9 (v:=.tuple #[.agg #[.i 3,.n lj,.s x.1,.i 0],.bool true]) z54a rfl ?_;exact Wd (t:=⟨3,0,_,_⟩) (A8.Jm Ce.o (Af _) _ _ _ _) (HSc4.o.keep (Iy z4ma _ _ _ _)) HJ.o HLj.o G4 HN.o K7.o
      ·exact z3da
     ·have t34:((l[j].toNat:Int)==34)=false:=Ng (d:=34) rfl hq;have HTok:=A0 (Avf l j hlt hd ha hq);have HQ:=A0 (Agx HSc3 Kj hl hlt);have HSi:Tq (l.drop j):=by rw[Gk hlt];exact Asf _ _
      clear hq Kj Jw Hg Iv;go_wp2_with fail
      refine(Vl _ _).mono ?_;rintro e w' ⟨rfl,rfl⟩;rw[ha];go_wp2_with fail
      refine(U0 _ _).mono ?_;rintro e w' ⟨rfl,rfl⟩;rw[hd];go_wp2_with fail
      refine HQ.o.mono ?_;rintro e w4 ⟨Cx,⟨p,hx,rfl,Jx⟩|⟨hx,rfl,Jx⟩⟩
      ·have HSc4:=A0 Jx;have K7:Hid (Fq (l.drop j)=some (⟨p.2,0,[],0⟩,p.1.length)):=by
        show _=_;rcases HSi with⟨p',e1,e2,e3⟩|⟨e1,_⟩
        ·rw[hx]at e1;obtain rfl:=Dl e1;rw[HTok.o,e2,A1 (by simpa using e3)]
        ·rw[hx]at e1;cases e1
       exact z1aa
      ·have HSc4:=A0 Jx;have K7:Hid (Fq (l.drop j)=none):=by
        show _=_;rcases HSi with⟨p',e1,e2,e3⟩|⟨e1,e2⟩
        ·rw[hx]at e1;cases e1
        ·rw[HTok.o,e2];rfl
       clear Jx hx;exact z0ia
    ·have HTok:=A0 (Avc l j hlt hd);have HQ:=A0 (Ags HSc3 Hg Iv z4ma hl hlt hd);clear Kj Jw Hg Iv;go_wp2_with fail
     refine(Vl _ _).mono ?_;rintro e w' ⟨rfl,rfl⟩;rw[ha];go_wp2_with fail
     refine(U0 _ _).mono ?_;rintro e w' ⟨rfl,rfl⟩;rw[hd];go_wp2_with fail
     refine HQ.o.mono ?_;rintro e w4 ⟨Cx,Jx,⟨v,hx,rfl⟩|⟨hx,rfl⟩⟩
     ·have HSc4:=A0 Jx;have K7:Hid (Fq (l.drop j)=some (⟨2,0,[],v⟩,((l.drop j).takeWhile E5).length)):=by show _=_;rw[HTok.o,hx]
      clear Jx hx;have Is:=Cx.blk HT3 z4ma;obtain⟨y0,y1,y2,y3,fy,ly⟩:=Eo Is;have Ce:Hid (A8 b w w4):=D1.trans Cx;clear Is Cx;go_wp2;refine B9 (v:=.tuple #[.agg #[.i 2,.n lj,.string ⟨#[]⟩,.i v],.bool true]) z54a rfl ?_;exact Wd (t:=⟨2,0,_,_⟩) (A8.Jm Ce.o (Af _) _ _ _ _) (HSc4.o.keep (Iy z4ma _ _ _ _)) HJ.o HLj.o G4 HN.o K7.o
     ·exact z3da
   ·have hd:E5 l[j]=false:=Alz ha;have HTok:=A0 (Avd l j hlt hd ha);have HQ:=A0 (Agp HSc3 Jw z4ma hl hlt);clear Kj Jw Hg Iv hd;go_wp2_with fail
    refine(Vl _ _).mono ?_;rintro e w' ⟨rfl,rfl⟩;rw[ha];go_wp2_with fail
    refine HQ.o.mono ?_;rintro e w4 ⟨Cx,Jx,⟨p,hx,rfl⟩|⟨hx,⟨h16,rfl⟩|⟨h16,rfl⟩⟩⟩
    ·have HSc4:=A0 Jx;have K7:Hid (Fq (l.drop j)=some (⟨p.2,0,[],0⟩,((l.drop j).takeWhile Es).length)):=by
      show _=_;obtain⟨e1,e2⟩:=Awd hx;rw[HTok.o,e1,A7 (by simpa using e2)]
     exact z1aa
    ·have HSc4:=A0 Jx;have K7:Hid (Fq (l.drop j)=none):=by
      show _=_;rw[HTok.o,Aag hx,A1 z4oa,Ai]
     clear Jx hx h16;exact z0ia
    ·have HSc4:=A0 Jx;have K7:Hid (Fq (l.drop j)=some (⟨1,0,(l.drop j).takeWhile Es,0⟩,((l.drop j).takeWhile Es).length)):=by
      show _=_;rw[HTok.o,Aag hx,A1 z4oa,A7 h16]
     clear Jx hx h16;have Is:=Cx.blk HT3 z4ma;obtain⟨y0,y1,y2,y3,fy,ly⟩:=Eo Is;have Ce:Hid (A8 b w w4):=D1.trans Cx;clear Is Cx;go_wp2;refine B9 (v:=.tuple #[.agg #[.i 1,.n lj,.s ((l.drop j).takeWhile Es),.i 0],.bool true]) z54a rfl ?_;exact Wd (t:=⟨1,0,_,_⟩) (A8.Jm Ce.o (Af _) _ _ _ _) (HSc4.o.keep (Iy z4ma _ _ _ _)) HJ.o HLj.o G4 HN.o K7.o
def strs(l:List (List UInt8)):List Value:=l.map fun t=>.s t
def A8t(l:List (List UInt8))(hfew:l.length<=100000)(w:World)(va:Option Addr)(vn vc:Nat)(ua:Option Addr)(un uc:Nat)(h1:w.ownsRow 0 9 1 (.slice va vn vc) l.length (strs l))(h2:w.ownsRow 0 9 1 (.slice ua un uc) l.length (strs l)) :
  Calls Tryz.prog 20 #[.slice va vn vc,.slice ua un uc] w fun e w'=>e=.returned (.bool true)/\Bw w w':=by
 have hvn:vn=l.length:=(Cm h1).1;have hun:un=l.length:=(Cm h2).1;subst hvn hun;go_in;go_wp2;go_loopg [5] l.length (fun k v wr=>∃i:Nat,v=.i i/\i+k=l.length/\Bw w wr)
 case atStart=>exact⟨0,rfl,by omega,Al _ _⟩
 case round=>
  obtain⟨i,rfl,hik,hbel⟩:=hrel;have HB:=A0 hbel;by_cases hlt:i<l.length
  ·obtain⟨g1,e1,_,c1,l1,k1⟩:=G1 h1 z4ma;obtain⟨g2,e2,_,c2,l2,k2⟩:=G1 h2 z4ma;subst e1 e2;have hv:(strs l)[i]?=some (.string ⟨l[i].toArray⟩):=by simp[strs,Eh hlt]
   have d1:=(D9 (hbel.block g1 l1)).trans (k1 i _ hv);have d2:=(D9 (hbel.block g2 l2)).trans (k2 i _ hv);have ls:=hbel.size;have m1:g1<wr.heap.size:=by omega
   have m2:g2<wr.heap.size:=by omega
   generalize l[i].toArray=nm at *;go_wp2;go_quiet (fail)
   go_wp2;go_roundg (gk-1)
   case measure=>omega
   case rel=>exact⟨i+1,rfl,by omega,⟨HB.o.os,HB.o.tape,HB.o.output,HB.o.size,HB.o.block⟩⟩
  ·clear hbel;go_wp2;exact B9 (v:=.bool true) (by simp[results,Tryz.results20,go_sem]) rfl ⟨rfl,HB.o⟩
