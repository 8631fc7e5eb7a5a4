import Derived.Test.YtjdlndhfaaolaaaGreatDoorV38
import Derived.Test.YtjdlndhfaaolaaaGreatDoorV45
set_option maxHeartbeats 20000000
namespace Go.Proofs.YtjdlndhfaaolaaaGreatDoor
section
set_option maxRecDepth 100000
open Go.RowKit
open Go.Deep (BT)
theorem A92(W:World)(k:Nat)(bet:Int) :
  Ib Mc (((W.alloc (.cells #[.int .i64 1,.int .i64 6] 3)).alloc (.cells #[.int .i64 0,.int .i64 bet] 2)).alloc (.cells #[.int .i64 0,.int .i64 (k:Nat),.slice (some ⟨W.heap.size,0,none⟩) 2 2,.slice (some ⟨W.heap.size+1,0,none⟩) 2 2] 41)) (.slice (some ⟨W.heap.size+2,0,none⟩) 1 1) [bU k bet]:=by
 obtain⟨W1,e1⟩:∃x,x=W.alloc (.cells #[.int .i64 1,.int .i64 6] 3):=⟨_,rfl⟩;obtain⟨W2,e2⟩:∃x,x=W1.alloc (.cells #[.int .i64 0,.int .i64 bet] 2):=⟨_,rfl⟩;have s1:W1.heap.size=W.heap.size+1:=by rw[e1];simp
 have s2:W2.heap.size=W.heap.size+2:=by rw[e2];simp[s1]
 have q1:W1.heap[W.heap.size]?=some (.cells #[.int .i64 1,.int .i64 6] 3 (0,0)):=by rw[e1];exact heap_alloc_new _ _
 have q2:W2.heap[W.heap.size+1]?=some (.cells #[.int .i64 0,.int .i64 bet] 2 (0,0)):=by rw[e2,←s1];exact heap_alloc_new _ _
 have q3:W2.heap[W.heap.size]?=some (.cells #[.int .i64 1,.int .i64 6] 3 (0,0)):=by rw[e2];exact alloc_old q1
 rw[←e1,←e2,←s2];obtain⟨W3,e3⟩:∃x,x=W2.alloc (.cells #[.int .i64 0,.int .i64 (k:Nat),.slice (some ⟨W.heap.size,0,none⟩) 2 2,.slice (some ⟨W.heap.size+1,0,none⟩) 2 2] 41):=⟨_,rfl⟩;have q:W3.heap[W2.heap.size]?=some (.cells #[.int .i64 0,.int .i64 (k:Nat),.slice (some ⟨W.heap.size,0,none⟩) 2 2,.slice (some ⟨W.heap.size+1,0,none⟩) 2 2] 41 (0,0)):=by rw[e3];exact heap_alloc_new _ _
 have p1:W3.heap[W.heap.size]?=some (.cells #[.int .i64 1,.int .i64 6] 3 (0,0)):=by rw[e3];exact alloc_old q3
 have p2:W3.heap[W.heap.size+1]?=some (.cells #[.int .i64 0,.int .i64 bet] 2 (0,0)):=by rw[e3];exact alloc_old q2
 rw[←e3];refine⟨_,_,rfl,Nat.le_refl _,fun _=>⟨W2.heap.size,0,rfl,trivial,A5 q,fun i hi'=>?_⟩⟩;have Aw:i<1:=hi';rcases i with _|i
 ·exact⟨A2 q _ _ rfl,A2 q _ _ rfl,_,_,A2 q _ _ rfl,A2 q _ _ rfl,A3j (cs:=[.int .i64 1,.int .i64 6]) p1 2,A3j (cs:=[.int .i64 0,.int .i64 bet]) p2 2⟩
 ·omega
def SuR(w:World)(raw:List Int)(k:Nat)(v6 v7 v8:Value)(wr:World):Prop:=∃j N:Nat,v6=.string ⟨(Lt++(raw.take j).flatMap Jq).toArray⟩/\v7=.int .i64 (N:Nat)/\v8=.int .i64 (j:Nat)/\j+k=min raw.length 20/\Hid (N=j)/\Below w.heap.size w wr
def Z7(raw:List Int)(k:Nat)(bet:Int)(N:Nat)(W:World)(q:Nat)(v15 v16 v17 v18:Value)(wr:World):Prop:=∃(i:Nat) (S:Int) (F D:Nat),v15=.int .i64 S/\v16=.int .i64 (F:Nat)/\v17=.int .i64 (D:Nat)/\v18=.int .i64 (i:Nat)/\i+q=N/\D4 S/\Hid (Jz 0 (raw.take 20)=Jz S ((raw.take 20).drop i))/\Hid (Ke k bet 0 0 0 (raw.take 20)=Ke k bet i F D ((raw.take 20).drop i))/\(F<=i/\D<=i)/\Below W.heap.size W wr
theorem z2ka {P:Prop} (h:P:=by
  have HC3:=A0 hc3;clear hc3 He;go_wp2;go_roundg (gk-1)
  case measure=>omega
  case rel=>exact⟨i+1,wrap64 (S+x),F,Dn,rfl,rfl,rfl,rfl,by omega,HWr.o,B0,HC3,by omega,HBq.o⟩):P:=h
theorem z2ga {P:Prop} (h:P:=by
  have:=Yq (raw.take j) (fun x hx=>HRaw.o x (List.mem_of_mem_take hx));have h0:Lt.length=42:=by kernel_rfl
  have h1:(raw.take j).length<=20:=by simp;omega
  rw[List.length_append];omega):P:=h
theorem Apq{raw:List Int}(hraw:∀r∈raw,D4 r){bet aft:Int}(haf:D4 aft)(w:World)
  (hAw:Calls Tryz.prog 15 #[] w fun e w'=>e=.returned (.bool true)/\Below w.heap.size w w')
  (hDec:∀(n:Int) (W:World),D4 n->Calls Tryz.prog 16 #[.int .i64 n] W fun e w'=>e=.returned (.string ⟨(Fx n).toArray⟩)/\Below W.heap.size W w')
  (hTold:∀(n:Int) (W:World),D4 n->Calls Tryz.prog 18 #[.int .i64 n] W fun e w'=>e=.returned (.string ⟨(Lib.itoa n).toArray⟩)/\Below W.heap.size W w')
  (hCo:∀W:World,Below w.heap.size w W->Calls Tryz.prog 22 #[.string ⟨(Ni (raw.take 20)).toArray⟩] W fun e w'=>∃gb E,e=.returned (.tuple #[.pointer (some ⟨gb,0,none⟩),.agg #[.int .i64 0,.int .i64 0]])/\Rq E w' gb (Gm (raw.take 20))/\(∀g,E g->g<w'.heap.size)/\Below W.heap.size W w')
  (hRun:∀(k:Nat) (W:World) (gb:Nat) (E:Nat->Prop) (v:Value),Below w.heap.size w W->Rq E W gb (Gm (raw.take 20))->(∀g,E g->g<W.heap.size)->Ib Mc W v [bU k bet]->Calls Tryz.prog 23 #[.pointer (some ⟨gb,0,none⟩),v] W (Rr W [Lib.itoa (Jz 0 (raw.take 20))] [Km k bet Mf (raw.take 20)]))
  (hSame:∀(l:List (List UInt8)) (_:l.length<=100000) (W:World) (va:Option Addr) (vn vc:Nat) (ua:Option Addr) (un uc:Nat) (_:W.ownsRow 0 9 1 (.slice va vn vc) l.length (strs l)) (_:W.ownsRow 0 9 1 (.slice ua un uc) l.length (strs l)),Calls Tryz.prog 20 #[.slice va vn vc,.slice ua un uc] W fun e w'=>e=.returned (.bool true)/\Below W.heap.size W w')
  (ra:Option Addr) (rc:Nat) (hr:Lg Mc w (.slice ra raw.length rc) (ints raw)) :
  Calls Tryz.prog 10 #[.slice ra raw.length rc,.int .i64 bet,.int .i64 aft] w fun e w'=>e=.returned (.bool true)/\Below w.heap.size w w':=by
 have HAw:=A0 hAw;have HDec:=A0 hDec;have HTold:=A0 hTold;have HCo:=A0 hCo;have HRun:=A0 hRun;have HSame:=A0 hSame;have HR:=A0 hr;have HRaw:=A0 hraw;have HAf:=A0 haf;clear hAw hDec hTold hCo hRun hSame hr hraw haf;go_enter Tryz.func10,Tryz.ntmps10;go_wp2_with fail
 refine HAw.o.mono ?_;rintro e w1 ⟨rfl,A1⟩;have A4:=A0 A1;have E6:=A1.size;clear A1 HAw;go_wp2;go_loopg [8,9,10] (min raw.length 20) (fun k v6 v7 v8 wr=>SuR w raw k v6 v7 v8 wr)
 case atStart=>exact⟨0,0,rfl,rfl,rfl,by omega,A0 rfl,A4.o⟩
 case round=>
  obtain⟨j,N,rfl,rfl,rfl,hjk,HN,hbr⟩:=hrel;have hN1:N<=20:=by have:=HN.o;omega
  have HBr:=A0 hbr;have lsr:=hbr.size;clear hbr;by_cases hlt:j<min raw.length 20
  ·have t1:((j:Nat):Int)<((raw.length:Nat):Int):=by omega
   have t2:((j:Nat):Int)<20:=by omega
   have hrl:(ints raw).length=raw.length:=by simp[ints]
   obtain⟨_,_,eq0,hcell⟩:=HR.o;injection eq0 with eq1 eq2 eq3;obtain⟨g,o,e1,_,lg,hc⟩:=hcell z4va;rw[e1]at eq1;subst eq1;have hji:j<raw.length:=by omega
   have d0:=hc j (.int .i64 raw[j]) (by simp[ints,List.getElem?_eq_getElem hji]);have d1:=(World.cell?_of_block (HBr.o.block g lg)).trans d0;have lg2:g<wr.heap.size:=by omega
   have HI:=A0 (HRaw.o raw[j] (List.getElem_mem hji));have hX:(Lt++(raw.take j).flatMap Jq).length<=900:=by
    exact z2ga
   have lD:=U3 raw[j] HI.o.1 HI.o.2;have HD:=A0 (fun W:World=>HDec.o raw[j] W HI.o);have HX:Hid ((Lt++(raw.take j).flatMap Jq)++[32,112,117,115,104,40,108,44,32]++Fx raw[j]++[41,59]=Lt++(raw.take (j+1)).flatMap Jq):=by
    show _=_;rw[List.take_add_one,List.getElem?_eq_getElem hji,Option.toList_some,List.flatMap_append,List.flatMap_singleton];simp[Jq,V8]
   generalize Lt++(raw.take j).flatMap Jq=X at *;generalize raw[j]=r at *;generalize Fx r=dr at *;obtain⟨X1,h1⟩:∃x,x=X++[32,112,117,115,104,40,108,44,32]:=⟨_,rfl⟩;obtain⟨X2,h2⟩:∃x,x=X1++dr:=⟨_,rfl⟩;obtain⟨X3,h3⟩:∃x,x=X2++[41,59]:=⟨_,rfl⟩;have hx:=HX.o;rw[←h1,←h2,←h3]at hx;have HX3:=A0 hx;have sa1:=N9 X [32,112,117,115,104,40,108,44,32] z4va z50a;have sa2:=N9 X1 dr (by rw[h1];simp;omega) z4va;have sa3:=N9 X2 [41,59] (by rw[h2,h1];simp;omega) z50a;rw[←h1]at sa1;rw[←h2]at sa2;rw[←h3]at sa3;clear h1 h2 h3 hx HX;clear hcell hc d0 hrl eq2 eq3;go_wp2_with fail
   refine(HD.o _).mono ?_;rintro e w2 ⟨rfl,A8⟩;have Aa:Hid (Below w.heap.size w w2):=HBr.o.trans (A8.mono lsr);clear A8;go_wp2;go_roundg (gk-1)
   case measure=>omega
   case rel=>exact⟨j+1,N+1,by rw[←HX3.o],rfl,rfl,by omega,A0 (by have:=HN.o;omega),Aa.o⟩
  ·have hjn:j=min raw.length 20:=by omega
   have hrt:raw.take j=raw.take 20:=by
    rw[hjn];rcases Nat.le_total raw.length 20 with q|q
    ·rw[Nat.min_eq_left q,List.take_of_length_le (Nat.le_refl _),List.take_of_length_le q]
    ·rw[Nat.min_eq_right q]
   have hrl:(raw.take 20).length=j:=by rw[←hrt,List.length_take];omega
   have HPk:=A0 (fun W:World=>Ahh aft HAf.o 22 z4va z4va W);have hX:(Lt++(raw.take j).flatMap Jq).length<=900:=by
    exact z2ga
   have HTx:Hid ((Lt++(raw.take j).flatMap Jq)++[32,108,101,116,32,105,32,61,32,48,59,32,108,101,116,32,115,32,61,32,48,59,32,119,104,105,108,101,32,105,32,60,32,108,101,110,40,108,41,32,123,32,115,32,61,32,97,100,100,40,115,44,32,108,91,105,93,41,59,32,105,32,61,32,105,32,43,32,49,59,32,125,32,112,114,105,110,116,32,115,59]=Ni (raw.take 20)):=by
    show _=_;rw[hrt];simp[Ni,Q6]
   generalize Lt++(raw.take j).flatMap Jq=X at *;obtain⟨T1,h1⟩:∃x,x=X++[32,108,101,116,32,105,32,61,32,48,59,32,108,101,116,32,115,32,61,32,48,59,32,119,104,105,108,101,32,105,32,60,32,108,101,110,40,108,41,32,123,32,115,32,61,32,97,100,100,40,115,44,32,108,91,105,93,41,59,32,105,32,61,32,105,32,43,32,49,59,32,125,32,112,114,105,110,116,32,115,59]:=⟨_,rfl⟩;have hz:=HTx.o;rw[←h1]at hz;have HZ:=A0 hz;have lT:T1.length<=2000:=by rw[h1];simp;omega
   have sa1:=N9 X [32,108,101,116,32,105,32,61,32,48,59,32,108,101,116,32,115,32,61,32,48,59,32,119,104,105,108,101,32,105,32,60,32,108,101,110,40,108,41,32,123,32,115,32,61,32,97,100,100,40,115,44,32,108,91,105,93,41,59,32,105,32,61,32,105,32,43,32,49,59,32,125,32,112,114,105,110,116,32,115,59] z4va z50a;rw[←h1]at sa1;have tz:¬(2000:Int)<((T1.length:Nat):Int):=by omega
   have HRl:=A0 hrl;have hcase:¬((j:Nat):Int)<((raw.length:Nat):Int)\/(((j:Nat):Int)<((raw.length:Nat):Int)/\¬((j:Nat):Int)<20):=by omega
   have HCo2:=A0 (HCo.o wr HBr.o);rw[←HZ.o]at HCo2;clear hrt hjn hrl hlt hjk h1 hz HTx hX HCo;rcases hcase with tj|⟨tj,tk⟩;all_goals
    go_wp2_with fail
    refine HCo2.o.mono ?_;rintro e w3 ⟨gb,E,rfl,hpg,hE,Aj⟩;have Av:Hid (Below w.heap.size w w3):=HBr.o.trans (Aj.mono lsr);have HRn:Hid (∀(k:Nat) (W:World) (v:Value),Below w3.heap.size w3 W->Ib Mc W v [bU k bet]->Calls Tryz.prog 23 #[.pointer (some ⟨gb,0,none⟩),v] W (Rr W [Lib.itoa (Jz 0 (raw.take 20))] [Km k bet Mf (raw.take 20)])):=fun k W v hbW hbt=>HRun.o k W gb E v (Av.o.trans (hbW.mono Av.o.size)) z5ja (fun g hg=>Nat.lt_of_lt_of_le (hE g hg) hbW.size) hbt;have ls3:=Av.o.size;clear hpg hE Aj HRun HCo2 sa1 tz lT;go_wp2_with fail
    refine(HPk.o _).mono ?_;rintro e w4 ⟨k,hk,rfl,hw4⟩;subst hw4;have hbl:=A92 (w3.alloc (.cells #[.int .i64 0,.int .i64 0] 50)) k bet;simp only[World.size_alloc]at hbl;have HRk:=A0 (HRn.o k _ _ (by repeat (first|exact Below.refl _ _|refine Below.alloc ?_ (by first|omega|(simp;omega)|simp) _)) hbl);clear hbl HRn HPk;go_wp2_with fail
    refine HRk.o.mono ?_;rintro e w5 ⟨va,vn,vc,line,fa,fn,fc,da,dn,dc,rfl,ho,hof,hod,Ch⟩;have E4:Hid (Below w.heap.size w w5):=Below.trans (by repeat (first|exact Av.o|refine Below.alloc ?_ (by first|omega|(simp;omega)) _)) (Ch.mono z4ya);have HO:=A0 ho;have HF:=A0 hof;have HD:=A0 hod;have ls5:=E4.o.size;clear ho hof hod Ch HRk;obtain⟨W5,hW5⟩:∃x,x=w5.alloc (.cells #[.slice va vn vc,.int .i64 0,.int .i64 (line:Nat),.slice fa fn fc,.slice da dn dc] 54):=⟨_,rfl⟩;have hz5:W5.heap[w5.heap.size]?=some (.cells #[.slice va vn vc,.int .i64 0,.int .i64 (line:Nat),.slice fa fn fc,.slice da dn dc] 54 (0,0)):=by rw[hW5];exact heap_alloc_new _ _
    have Cm:W5.heap.size=w5.heap.size+1:=by rw[hW5];simp
    have hB5:Below w5.heap.size w5 W5:=by rw[hW5];exact Below.alloc (Below.refl _ _) (Nat.le_refl _) _
    have HL5:Hid (w.heap.size<=w5.heap.size/\W5.heap.size=w5.heap.size+1):=⟨E4.o.size,Cm⟩;have HW5:=A0 hW5;have HZ5:=A0 hz5;have HBW:=A0 hB5;have HSt:Hid (Z7 raw k bet N W5 N (.int .i64 0) (.int .i64 0) (.int .i64 0) (.int .i64 0) W5):=⟨0,0,0,0,rfl,rfl,rfl,rfl,by omega,O2,A0 rfl,A0 rfl,by omega,Below.refl _ _⟩;clear hW5 hz5 hB5 Cm ls5;go_wp2;rw[←HW5.o];go_loopg [15,16,17,18] N (fun q v15 v16 v17 v18 wr=>Z7 raw k bet N W5 q v15 v16 v17 v18 wr)
    case atStart=>exact HSt.o
    case round=>
     obtain⟨i,S,F,Dn,rfl,rfl,rfl,rfl,hik,hS,HSum,HCnt,hFD,hbr⟩:=hrel;have HBq:=A0 hbr;have lsq:=hbr.size;have HSi:=A0 hS;clear hbr hS;by_cases hlt:i<N
     ·have t1:((i:Nat):Int)<((N:Nat):Int):=by omega
      have hrl:(ints raw).length=raw.length:=by simp[ints]
      obtain⟨_,_,eq0,hcell⟩:=HR.o;injection eq0 with eq1 eq2 eq3;have hjr:i<raw.length/\i<20:=by have:=HN.o;have h2:=HRl.o;rw[List.length_take]at h2;omega
      obtain⟨g,o,e1,_,lg,hc⟩:=hcell z4va;rw[e1]at eq1;subst eq1;have d0:=hc i (.int .i64 raw[i]) (by simp[ints,List.getElem?_eq_getElem hjr.1]);have d1:=(World.cell?_of_block ((HBq.o.block g (by have:=HL5.o;omega)).trans ((HBW.o.block g (by have:=HL5.o;omega)).trans (E4.o.block g lg)))).trans d0;have lg2:g<wr.heap.size:=by have:=HL5.o;omega
      have hdr:(raw.take 20).drop i=raw[i]::(raw.take 20).drop (i+1):=by
       rw[List.drop_eq_getElem_cons (by rw[List.length_take];omega),List.getElem_take]
      have B0:Hid (Jz 0 (raw.take 20)=Jz (wrap64 (S+raw[i])) ((raw.take 20).drop (i+1))):=by show _=_;rw[HSum.o,hdr];rfl
      have He:Hid (Ke k bet 0 0 0 (raw.take 20)=if k<=i/\Dn=0 then(if raw[i]=bet then Ke k bet (i+1) (F+1) Dn ((raw.take 20).drop (i+1)) else Ke k bet (i+1) F (Dn+1) ((raw.take 20).drop (i+1))) else Ke k bet (i+1) F Dn ((raw.take 20).drop (i+1))):=by show _=_;rw[HCnt.o,hdr,Ke]
      generalize raw[i]=x at *;have HWr:=A0 (Yy (S+x));clear hcell hc d0 hrl eq2 eq3 hdr HSum HCnt;by_cases hki:k<=i
      ·have t2:((k:Nat):Int)<=((i:Nat):Int):=by omega
       by_cases hd:Dn=0
       ·have t3:(((Dn:Nat):Int)==0)=true:=by rw[hd];rfl
        by_cases hx:x=bet
        ·have t4:(x==bet)=true:=by simpa using hx
         have hc3:=He.out;rw[if_pos ⟨hki,hd⟩,if_pos hx]at hc3;have HC3:=A0 hc3;clear hc3 He hx hd;go_wp2;go_roundg (gk-1)
         case measure=>omega
         case rel=>exact⟨i+1,wrap64 (S+x),F+1,Dn,rfl,rfl,rfl,rfl,by omega,HWr.o,B0,HC3,by omega,HBq.o⟩
        ·have t4:(x==bet)=false:=by rw[beq_eq_false_iff_ne];exact hx
         have hc3:=He.out;rw[if_pos ⟨hki,hd⟩,if_neg hx]at hc3;have HC3:=A0 hc3;clear hc3 He hx hd;go_wp2;go_roundg (gk-1)
         case measure=>omega
         case rel=>exact⟨i+1,wrap64 (S+x),F,Dn+1,rfl,rfl,rfl,rfl,by omega,HWr.o,B0,HC3,by omega,HBq.o⟩
       ·have t3:(((Dn:Nat):Int)==0)=false:=by rw[beq_eq_false_iff_ne];omega
        have hc3:=He.out;rw[if_neg (fun q=>hd q.2)]at hc3;exact z2ka
      ·have t2:¬((k:Nat):Int)<=((i:Nat):Int):=by omega
       have hc3:=He.out;rw[if_neg (fun q=>hki q.1)]at hc3;exact z2ka
     ·have hiN:i=N:=by omega
      have hdn:(raw.take 20).drop i=[]:=List.drop_eq_nil_of_le (by have:=HN.o;have:=HRl.o;omega);have Ai:Hid (Jz 0 (raw.take 20)=S):=by show _=_;rw[HSum.o,hdn];rfl
      have Ev:Hid (Ke k bet 0 0 0 (raw.take 20)=(F,Dn)):=by show _=_;rw[HCnt.o,hdn];rfl
      have hlu:=Ag7 k bet (raw.take 20);rw[Ev.o]at hlu;have Ga:=HF.o;have hd1:=HD.o;simp only[List.map_cons,List.map_nil,List.length_singleton]at Ga hd1;rw[hlu.1]at Ga;rw[hlu.2]at hd1;have Bx:=HO.o;rw[Ai.o]at Bx;obtain⟨gf,ef,_,_,lf,kf⟩:=Fo Ga z4va;obtain⟨gd,ed,_,_,ld,kd⟩:=Fo hd1 z4va;have hfn:fn=1:=(C9 Ga).1;have hdn1:dn=1:=(C9 hd1).1;have c0:=kf 0 _ rfl;have c1:=kd 0 _ rfl;subst ef ed hfn hdn1;have B3:=A0 Bx;have HT:=A0 (fun W:World=>HTold.o S W HSi.o);have x1:=A2 HZ5.o 1 _ rfl;clear hdn hlu Ga hd1 Bx HF HD HO kf kd Ai Ev HSum HCnt hiN;have hL5:=HL5.o;have hzr:=(HBq.o.block w5.heap.size z4va).trans HZ5.o;have x0:=A2 hzr 0 _ rfl;have lx:=A5 hzr;have HZr:=A0 hzr;have e5:∀k,k<w5.heap.size->wr.heap[k]?=w5.heap[k]?:=fun k hk=>(HBq.o.block k z4va).trans (HBW.o.block k hk);have HE5:=A0 e5;have HC0:=A0 c0;have Hq:=A0 c1;have HBr2:Hid (Below w.heap.size w wr):=E4.o.trans ((HBW.o.trans (HBq.o.mono z4va)).mono hL5.1);have HSf:=A0 (fun(w6:World) (Ix:Below wr.heap.size wr w6)=>HSame.o [Lib.itoa S] z50a (w6.alloc (.cells (strs [Lib.itoa S]).toArray 9)) va vn vc (some ⟨w6.heap.size,0,none⟩) 1 1 (B4 B3.o (fun k _ hl=>(Below.heap_alloc _ _ _ (by have:=Ix.size;have:=HL5.o;have:=HBq.o.size;omega)).trans ((Ix.block k (by have:=HL5.o;have:=HBq.o.size;omega)).trans (HE5.o k hl)))) (A1m w6 [Lib.itoa S] z50a));clear hzr e5 c0 c1 x1 hL5;go_wp2_with fail
      go_region_law (first
       | (refine Eo rfl 20 _ _ rfl #[.slice va vn vc,.slice (some ⟨w6.heap.size,0,none⟩) 1 1] z4xa HSm.o ?_;rintro e w7 ⟨rfl,Ik⟩;refine⟨_,rfl,?_⟩;have hb7':Below wr.heap.size wr w7:=J7.o.trans (Below.trans (Below.alloc (Below.refl _ _) (Nat.le_refl _) _ |>.mono J7.o.size) (Ik.mono (by have:=J7.o.size;simp;omega)));have HB7:=A0 hb7';clear Ik hb7')
       | (refine Eo rfl 18 _ _ rfl #[.int .i64 S] z4xa (HT.o _) ?_;rintro e w6 ⟨rfl,hb6'⟩;refine⟨_,rfl,?_⟩;have Ix:Below wr.heap.size wr w6:=⟨hb6'.os,hb6'.tape,hb6'.output,hb6'.size,hb6'.block⟩;have J7:=A0 Ix;have y0:=(World.cell?_of_block (Ix.block w5.heap.size lx)).trans x0;have ly:=Nat.lt_of_lt_of_le lx Ix.size;have HSm:=A0 (HSf.o w6 Ix);clear Ix hb6'))
      all_goals
       have hz7:=(HB7.o.block _ lx).trans HZr.o;have z1:=A2 hz7 1 _ rfl;have z3:=A2 hz7 3 _ rfl;have z4:=A2 hz7 4 _ rfl;have lz:=A5 hz7;have lfr:gf<wr.heap.size:=by have:=HL5.o;have:=HBq.o.size;omega
       have ldr:gd<wr.heap.size:=by have:=HL5.o;have:=HBq.o.size;omega
       have c0:=(World.cell?_of_block ((HB7.o.block gf lfr).trans (HE5.o gf lf))).trans HC0.o;have c1:=(World.cell?_of_block ((HB7.o.block gd ldr).trans (HE5.o gd ld))).trans Hq.o;have l7:=HB7.o.size;have HB8:Hid (Below w.heap.size w w7):=HBr2.o.trans (HB7.o.mono HBr2.o.size);clear hz7 x0;go_wp2;go_ret;exact⟨rfl,HB8.o⟩
end
end Go.Proofs.YtjdlndhfaaolaaaGreatDoor
