import Derived.Test.YtjdlndhfaaolaaaGreatDoorT47
set_option maxHeartbeats 20000000
namespace Go.Proofs.YtjdlndhfaaolaaaGreatDoor
section
set_option maxRecDepth 100000
open Go.RowKit
open Go.Deep (BT)
theorem Ahb(c:Int)(hc:Cf c)(n:Nat)(h0:0<n)(hn:n<=1000)(w:World):Calls Tryz.prog 21 #[.int .i64 c,.int .i64 (n:Nat)] w fun e w'=>∃k:Nat,k<n/\e=.returned (.int .i64 (k:Nat))/\w'=w:=by
 have hz:((n:Nat):Int)≠0:=by omega
 unfold Cf at hc;by_cases h:c<0
 ·have hw:IntKind.i64.wrap (c+1)=c+1:=by rw[IntKind.wrap_i64];omega
  have Fo:IntKind.i64.wrap (-(c+1))=-(c+1):=by rw[IntKind.wrap_i64];omega
  have e0:(-(c+1)).tmod (n:Int)=-(c+1) % (n:Int):=Int.tmod_eq_emod_of_nonneg z51a;have Gc:=Int.emod_nonneg (-(c+1)) hz;have hlt:=Int.emod_lt_of_pos (-(c+1)) (show(0:Int)<(n:Nat) by omega);go_enter Tryz.func21,Tryz.ntmps21;go_wp2;go_ret;exact⟨(-(c+1) % (n:Int)).toNat,by omega,by rw[Int.toNat_of_nonneg Gc];rfl,rfl⟩
 ·have e0:c.tmod (n:Int)=c % (n:Int):=Int.tmod_eq_emod_of_nonneg z51a;have Gc:=Int.emod_nonneg c hz;have hlt:=Int.emod_lt_of_pos c (show(0:Int)<(n:Nat) by omega);go_enter Tryz.func21,Tryz.ntmps21;go_wp2;go_ret;exact⟨(c % (n:Int)).toNat,by omega,by rw[Int.toNat_of_nonneg Gc];rfl,rfl⟩
theorem A3e{W:World}{g:Nat}{cs:List Value}{t:TypeId}{fr:Nat×Nat}(h:W.heap[g]?=some (.cells cs.toArray t fr))(c:Nat):L9 Ni W (.slice (some ⟨g,0,none⟩) cs.length c) cs:=
 ⟨_,_,rfl,fun _=>⟨g,0,rfl,trivial,A5 h,fun j x hx=>by rw[Nat.zero_add];exact A2 h j x (by simpa using hx)⟩⟩
theorem A8u(W:World)(k:Int) :
  Iy Ni (((W.alloc (.cells #[.int .i64 5,.int .i64 6,.int .i64 1] 3)).alloc (.cells #[.int .i64 0,.int .i64 k] 2)).alloc (.cells #[.int .i64 0,.int .i64 0,.slice (some ⟨W.heap.size,0,none⟩) 3 3,.slice (some ⟨W.heap.size+1,0,none⟩) 2 2] 41)) (.slice (some ⟨W.heap.size+2,0,none⟩) 1 1) [bS k]:=by
 obtain⟨W1,e1⟩:∃x,x=W.alloc (.cells #[.int .i64 5,.int .i64 6,.int .i64 1] 3):=⟨_,rfl⟩;obtain⟨W2,e2⟩:∃x,x=W1.alloc (.cells #[.int .i64 0,.int .i64 k] 2):=⟨_,rfl⟩;have s1:W1.heap.size=W.heap.size+1:=by rw[e1];simp
 have s2:W2.heap.size=W.heap.size+2:=by rw[e2];simp[s1]
 have q1:W1.heap[W.heap.size]?=some (.cells #[.int .i64 5,.int .i64 6,.int .i64 1] 3 (0,0)):=by rw[e1];exact heap_alloc_new _ _
 have q2:W2.heap[W.heap.size+1]?=some (.cells #[.int .i64 0,.int .i64 k] 2 (0,0)):=by rw[e2,<-s1];exact heap_alloc_new _ _
 have q3:W2.heap[W.heap.size]?=some (.cells #[.int .i64 5,.int .i64 6,.int .i64 1] 3 (0,0)):=by rw[e2];exact alloc_old q1
 rw[<-e1,<-e2,<-s2];obtain⟨W3,e3⟩:∃x,x=W2.alloc (.cells #[.int .i64 0,.int .i64 0,.slice (some ⟨W.heap.size,0,none⟩) 3 3,.slice (some ⟨W.heap.size+1,0,none⟩) 2 2] 41):=⟨_,rfl⟩;have q:W3.heap[W2.heap.size]?=some (.cells #[.int .i64 0,.int .i64 0,.slice (some ⟨W.heap.size,0,none⟩) 3 3,.slice (some ⟨W.heap.size+1,0,none⟩) 2 2] 41 (0,0)):=by rw[e3];exact heap_alloc_new _ _
 have p1:W3.heap[W.heap.size]?=some (.cells #[.int .i64 5,.int .i64 6,.int .i64 1] 3 (0,0)):=by rw[e3];exact alloc_old q3
 have p2:W3.heap[W.heap.size+1]?=some (.cells #[.int .i64 0,.int .i64 k] 2 (0,0)):=by rw[e3];exact alloc_old q2
 rw[<-e3];refine⟨_,_,rfl,Nat.le_refl _,fun _=>⟨W2.heap.size,0,rfl,trivial,A5 q,fun i hi'=>?_⟩⟩;have Ax:i<1:=hi';rcases i with _|i
 ·exact⟨A2 q _ _ rfl,A2 q _ _ rfl,_,_,A2 q _ _ rfl,A2 q _ _ rfl,A3e (cs:=[.int .i64 5,.int .i64 6,.int .i64 1]) p1 3,A3e (cs:=[.int .i64 0,.int .i64 k]) p2 2⟩
 ·omega
def ShR(w:World)(raw:List Int)(k:Nat)(v6 v7 v8:Value)(wr:World):Prop:=∃j N:Nat,v6=.string ⟨(Li++(raw.take j).flatMap Jo).toArray⟩/\v7=.int .i64 (N:Nat)/\v8=.int .i64 (j:Nat)/\j+k=min raw.length 12/\Hid (N=1+j)/\Below w.heap.size w wr
theorem z2ha {P:Prop} (h:P:=by
  have:=Y0 (raw.take j) (fun x hx=>HRaw.o x (List.mem_of_mem_take hx));have h0:Li.length=69:=by kernel_rfl
  have h1:(raw.take j).length<=12:=by simp;omega
  rw[List.length_append];omega):P:=h
theorem z5ya {P:Prop} (h:P:=by first|omega|simp):P:=h
theorem z60a {P:Prop} (h:P:=by have:=I8.o.size;repeat (first|exact I8.o|refine Below.alloc ?_ (by first|omega|(simp;omega)) _)):P:=h
theorem Anz{raw:List Int}(hraw:∀r∈raw,Cf r){at' v:Int}(hat:Cf at')(hv:Cf v)(w:World)
  (hAw:Calls Tryz.prog 15 #[] w fun e w'=>e=.returned (.bool true)/\Below w.heap.size w w')
  (hDec:∀(n:Int) (W:World),Cf n->Calls Tryz.prog 16 #[.int .i64 n] W fun e w'=>e=.returned (.string ⟨(Dw n).toArray⟩)/\Below W.heap.size W w')
  (hTold:∀(n:Int) (W:World),Cf n->Calls Tryz.prog 18 #[.int .i64 n] W fun e w'=>e=.returned (.string ⟨(Lib.itoa n).toArray⟩)/\Below W.heap.size W w')
  (hRan:∀(W:World) (u:Value) (k:Nat),k<(raw.take 12).length+1->Below w.heap.size w W->Iy Ni W u [bS k]->Calls Tryz.prog 17 #[.string ⟨(Mk (raw.take 12) k v).toArray⟩,u] W fun e w'=>∃va vn vc,e=.returned (.tuple #[.slice va vn vc,.bool true])/\w'.ownsRow 0 9 1 (.slice va vn vc) (Pt ((raw.take 12).length+1) v).length (strs (Pt ((raw.take 12).length+1) v))/\Below W.heap.size W w')
  (hSame:∀(l:List (List UInt8)) (_:l.length<=100000) (W:World) (va:Option Addr) (vn vc:Nat) (ua:Option Addr) (un uc:Nat) (_:W.ownsRow 0 9 1 (.slice va vn vc) l.length (strs l)) (_:W.ownsRow 0 9 1 (.slice ua un uc) l.length (strs l)),Calls Tryz.prog 20 #[.slice va vn vc,.slice ua un uc] W fun e w'=>e=.returned (.bool true)/\Below W.heap.size W w')
  (ra:Option Addr) (rc:Nat) (hr:L9 Ni w (.slice ra raw.length rc) (ints raw)) :
  Calls Tryz.prog 6 #[.slice ra raw.length rc,.int .i64 at',.int .i64 v] w fun e w'=>e=.returned (.bool true)/\Below w.heap.size w w':=by
 have HAw:=A0 hAw;have HDec:=A0 hDec;have HTold:=A0 hTold;have HRan:=A0 hRan;have HSame:=A0 hSame;have HR:=A0 hr;have HRaw:=A0 hraw;have HV:=A0 hv;have HAt:=A0 hat;clear hAw hDec hTold hRan hSame hr hraw hv hat;go_enter Tryz.func6,Tryz.ntmps6;go_wp2_with fail
 refine HAw.o.mono ?_;rintro e w1 ⟨rfl,A1⟩;have A4:=A0 A1;have E5:=A1.size;clear A1 HAw;go_wp2;go_loopg [8,9,10] (min raw.length 12) (fun k v6 v7 v8 wr=>ShR w raw k v6 v7 v8 wr)
 case atStart=>exact⟨0,1,rfl,rfl,rfl,by omega,A0 rfl,A4.o⟩
 case round=>
  obtain⟨j,N,rfl,rfl,rfl,hjk,HN,hbr⟩:=hrel;have hN1:N<=13:=by have:=HN.o;omega
  have HBr:=A0 hbr;have lsr:=hbr.size;clear hbr;by_cases hlt:j<min raw.length 12
  ·have t1:((j:Nat):Int)<((raw.length:Nat):Int):=by omega
   have t2:((j:Nat):Int)<12:=by omega
   have hrl:(ints raw).length=raw.length:=by simp[ints]
   obtain⟨_,_,eq0,hcell⟩:=HR.o;injection eq0 with eq1 eq2 eq3;obtain⟨g,o,e1,_,lg,hc⟩:=hcell z51a;rw[e1]at eq1;subst eq1;have hji:j<raw.length:=by omega
   have d0:=hc j (.int .i64 raw[j]) (by simp[ints,List.getElem?_eq_getElem hji]);have d1:=(World.cell?_of_block (HBr.o.block g lg)).trans d0;have lg2:g<wr.heap.size:=by omega
   have HI:=A0 (HRaw.o raw[j] (List.getElem_mem hji));have hX:(Li++(raw.take j).flatMap Jo).length<=500:=by
    exact z2ha
   have lD:=Ob raw[j] HI.o.1 HI.o.2;have HD:=A0 (fun W:World=>HDec.o raw[j] W HI.o);have HX:Hid ((Li++(raw.take j).flatMap Jo)++[32,112,117,115,104,40,97,44,32]++Dw raw[j]++[41,59]=Li++(raw.take (j+1)).flatMap Jo):=by
    show _=_;rw[List.take_add_one,List.getElem?_eq_getElem hji,Option.toList_some,List.flatMap_append,List.flatMap_singleton];simp[Jo,Ul]
   generalize Li++(raw.take j).flatMap Jo=X at *;generalize raw[j]=r at *;generalize Dw r=dr at *;obtain⟨X1,h1⟩:∃x,x=X++[32,112,117,115,104,40,97,44,32]:=⟨_,rfl⟩;obtain⟨X2,h2⟩:∃x,x=X1++dr:=⟨_,rfl⟩;obtain⟨X3,h3⟩:∃x,x=X2++[41,59]:=⟨_,rfl⟩;have hx:=HX.o;rw[<-h1,<-h2,<-h3]at hx;have HX3:=A0 hx;have sa1:=K9 X [32,112,117,115,104,40,97,44,32] z51a z56a;have sa2:=K9 X1 dr (by rw[h1];simp;omega) z51a;have sa3:=K9 X2 [41,59] (by rw[h2,h1];simp;omega) z56a;rw[<-h1]at sa1;rw[<-h2]at sa2;rw[<-h3]at sa3;clear h1 h2 h3 hx HX;clear hcell hc d0 hrl eq2 eq3;go_wp2_with fail
   refine(HD.o _).mono ?_;rintro e w2 ⟨rfl,A8⟩;have Aa:Hid (Below w.heap.size w w2):=HBr.o.trans (A8.mono lsr);clear A8;go_wp2;go_roundg (gk-1)
   case measure=>omega
   case rel=>exact⟨j+1,N+1,by rw[<-HX3.o],rfl,rfl,by omega,A0 (by have:=HN.o;omega),Aa.o⟩
  ·have hjn:j=min raw.length 12:=by omega
   have hrt:raw.take j=raw.take 12:=by
    rw[hjn];rcases Nat.le_total raw.length 12 with q|q
    ·rw[Nat.min_eq_left q,List.take_of_length_le (Nat.le_refl _),List.take_of_length_le q]
    ·rw[Nat.min_eq_right q]
   have hrl:(raw.take 12).length=j:=by rw[<-hrt,List.length_take];omega
   have hj12:j<=12:=by omega
   have HPk:=A0 (fun W:World=>Ahb at' HAt.o N (by have:=HN.o;omega) z51a W);have HDv:=A0 (fun W:World=>HDec.o v W HV.o);have HDk:=A0 (fun(k:Nat) (hk:k<N) (W:World)=>HDec.o (k:Nat) W ⟨by omega,by omega⟩);have HTn:=A0 (fun W:World=>HTold.o ((N:Nat)+1:Int) W ⟨by omega,by omega⟩);have HTv:=A0 (fun W:World=>HTold.o v W HV.o);have hX:(Li++(raw.take j).flatMap Jo).length<=500:=by
    exact z2ha
   have HTx:Hid (∀k:Int,(Li++(raw.take j).flatMap Jo)++[32,108,101,116,32,98,32,61,32,97,59,32,108,101,116,32,99,32,61,32,91,97,93,59,32,108,101,116,32,100,32,61,32,91,48,93,59,32,112,114,105,110,116,32,115,101,116,40,98,44,32]++Dw k++[44,32]++Dw v++[41,59,32,112,114,105,110,116,32,108,101,110,40,97,41,59,32,112,114,105,110,116,32,97,91]++Dw k++[93,59,32,112,114,105,110,116,32,99,91,48,93,91,108,101,110,40,98,41,32,45,32,49,93,59,32,112,114,105,110,116,32,97,32,61,61,32,98,59,32,112,114,105,110,116,32,99,91,48,93,32,61,61,32,97,59,32,112,114,105,110,116,32,100,32,61,61,32,91,48,93,59,32,112,114,105,110,116,32,108,101,110,40,100,41,59]=Mk (raw.take 12) k v):=by
    intro k;rw[hrt];simp[Mk,Pm,Mc,Lj]
   have HWn:Hid (Pt ((raw.take 12).length+1) v=[[116,114,117,101],Lib.itoa ((N:Nat)+1:Int),Lib.itoa v,Lib.itoa v,[116,114,117,101],[116,114,117,101],[102,97,108,115,101],[49]]):=by
    show _=_;rw[hrl];unfold Pt;rw[show((j+1+1:Nat):Int)=(N:Nat)+1 by have:=HN.o;omega,show Lib.itoa 1=[49] by simp[Lib.itoa,Lib.decDigits]];rfl
   have lV:=Ob v HV.o.1 HV.o.2;have HLk:Hid (∀k:Nat,k<N->(Dw (k:Nat)).length<=24):=fun k hk=>Ob (k:Nat) z51a z51a;generalize Li++(raw.take j).flatMap Jo=X at *;generalize Dw v=dv at *;generalize Lib.itoa v=iv at *;generalize Lib.itoa ((N:Nat)+1:Int)=inn at *;have HRl:=A0 hrl;have hcase:¬((j:Nat):Int)<((raw.length:Nat):Int)\/(((j:Nat):Int)<((raw.length:Nat):Int)/\¬((j:Nat):Int)<12):=by omega
   clear hrt hjn hrl hlt hjk;rcases hcase with tj|⟨tj,tk⟩;all_goals
    go_wp2_with fail
    refine(HPk.o _).mono ?_;rintro e w3 ⟨k,hk,rfl,rfl⟩;have HDk1:=A0 (HDk.o k hk);have lK:=HLk.o k hk;have HTk:=A0 (HTx.o (k:Nat));have HKl:Hid (k<(raw.take 12).length+1):=by show _<_;have:=HN.o;have:=HRl.o;omega
    have HKI:Hid (Below w.heap.size w w3):=HBr.o;generalize Dw ((k:Nat):Int)=dk at *;clear HDk HLk HTx HPk hk HBr;obtain⟨T1,h1⟩:∃x,x=X++[32,108,101,116,32,98,32,61,32,97,59,32,108,101,116,32,99,32,61,32,91,97,93,59,32,108,101,116,32,100,32,61,32,91,48,93,59,32,112,114,105,110,116,32,115,101,116,40,98,44,32]:=⟨_,rfl⟩;obtain⟨T2,h2⟩:∃x,x=T1++dk:=⟨_,rfl⟩;obtain⟨T3,h3⟩:∃x,x=T2++[44,32]:=⟨_,rfl⟩;obtain⟨T4,h4⟩:∃x,x=T3++dv:=⟨_,rfl⟩;obtain⟨T5,h5⟩:∃x,x=T4++[41,59,32,112,114,105,110,116,32,108,101,110,40,97,41,59,32,112,114,105,110,116,32,97,91]:=⟨_,rfl⟩;obtain⟨T6,h6⟩:∃x,x=T5++dk:=⟨_,rfl⟩;obtain⟨T7,h7⟩:∃x,x=T6++[93,59,32,112,114,105,110,116,32,99,91,48,93,91,108,101,110,40,98,41,32,45,32,49,93,59,32,112,114,105,110,116,32,97,32,61,61,32,98,59,32,112,114,105,110,116,32,99,91,48,93,32,61,61,32,97,59,32,112,114,105,110,116,32,100,32,61,61,32,91,48,93,59,32,112,114,105,110,116,32,108,101,110,40,100,41,59]:=⟨_,rfl⟩;have hz:=HTk.o;rw[<-h1,<-h2,<-h3,<-h4,<-h5,<-h6,<-h7]at hz;have HZ:=A0 hz;have l1:T1.length=X.length+51:=by rw[h1];simp
    have l2:T2.length=T1.length+dk.length:=by rw[h2,List.length_append]
    have l3:T3.length=T2.length+2:=by rw[h3];simp
    have l4:T4.length=T3.length+dv.length:=by rw[h4,List.length_append]
    have l5:T5.length=T4.length+25:=by rw[h5];simp
    have l6:T6.length=T5.length+dk.length:=by rw[h6,List.length_append]
    have l7:T7.length=T6.length+87:=by rw[h7];simp
    have sa1:=K9 X [32,108,101,116,32,98,32,61,32,97,59,32,108,101,116,32,99,32,61,32,91,97,93,59,32,108,101,116,32,100,32,61,32,91,48,93,59,32,112,114,105,110,116,32,115,101,116,40,98,44,32] z51a z5ya;rw[<-h1]at sa1;have sa2:=K9 T1 dk z51a z5ya;rw[<-h2]at sa2;have sa3:=K9 T2 [44,32] z51a z5ya;rw[<-h3]at sa3;have sa4:=K9 T3 dv z51a z5ya;rw[<-h4]at sa4;have sa5:=K9 T4 [41,59,32,112,114,105,110,116,32,108,101,110,40,97,41,59,32,112,114,105,110,116,32,97,91] z51a z5ya;rw[<-h5]at sa5;have sa6:=K9 T5 dk z51a z5ya;rw[<-h6]at sa6;have sa7:=K9 T6 [93,59,32,112,114,105,110,116,32,99,91,48,93,91,108,101,110,40,98,41,32,45,32,49,93,59,32,112,114,105,110,116,32,97,32,61,61,32,98,59,32,112,114,105,110,116,32,99,91,48,93,32,61,61,32,97,59,32,112,114,105,110,116,32,100,32,61,61,32,91,48,93,59,32,112,114,105,110,116,32,108,101,110,40,100,41,59] z51a z5ya;rw[<-h7]at sa7;clear hz HTk l1 l2 l3 l4 l5 l6 l7 h1 h2 h3 h4 h5 h6 h7 lK lV hX;go_wp2_with fail
    refine(HDk1.o _).mono ?_;rintro e w4 ⟨rfl,Ba⟩;have Cn:Hid (Below w.heap.size w w4):=HKI.o.trans (Ba.mono HKI.o.size);clear Ba;go_wp2_with fail
    refine(HDv.o _).mono ?_;rintro e w5 ⟨rfl,Cl⟩;have E7:Hid (Below w.heap.size w w5):=Cn.o.trans (Cl.mono Cn.o.size);clear Cl;go_wp2_with fail
    refine(HDk1.o _).mono ?_;rintro e w6 ⟨rfl,hb6⟩;have I8:Hid (Below w.heap.size w w6):=E7.o.trans (hb6.mono E7.o.size);clear hb6;go_wp2_with fail
    have hR:=HRan.o _ _ k HKl.o z60a (A8u w6 (k:Nat));rw[<-HZ.o]at hR;refine hR.mono ?_;rintro e w7 ⟨va,vn,vc,rfl,ho,Ih⟩;have HB7:Hid (Below w.heap.size w w7):=Below.trans z60a (Ih.mono (by have:=I8.o.size;simp;omega));rw[HWn.o]at ho;have HO:=A0 ho;clear Ih ho hR HRan HZ Cn E7 I8 HDk1 HDv sa1 sa2 sa3 sa4 sa5 sa6 sa7;go_wp2_with fail
    refine(HTn.o _).mono ?_;rintro e w8 ⟨rfl,hb8⟩;have HC8:=A0 hb8;clear hb8;go_wp2_with fail
    refine(HTv.o _).mono ?_;rintro e w9 ⟨rfl,D1⟩;have HC9:Hid (Below w7.heap.size w7 w9):=HC8.o.trans (D1.mono HC8.o.size);clear D1;go_wp2_with fail
    refine(HTv.o _).mono ?_;rintro e w10 ⟨rfl,hb10⟩;have HC10:Hid (Below w7.heap.size w7 w10):=HC9.o.trans (hb10.mono HC9.o.size);have own2:=A1c w10 [[116,114,117,101],inn,iv,iv,[116,114,117,101],[116,114,117,101],[102,97,108,115,101],[49]] z56a;have own1:=B8 HO.o (w':=w10.alloc (.cells (strs [[116,114,117,101],inn,iv,iv,[116,114,117,101],[116,114,117,101],[102,97,108,115,101],[49]]).toArray 9)) (fun k _ hl=>(Below.heap_alloc _ _ _ (Nat.lt_of_lt_of_le hl HC10.o.size)).trans (HC10.o.block k hl));have HSm:=A0 (HSame.o _ z56a _ va vn vc (some ⟨w10.heap.size,0,none⟩) 8 8 own1 own2);have ls10:=HC10.o.size;clear hb10 own1 own2;go_wp2_with fail
    refine HSm.o.mono ?_;rintro e w11 ⟨rfl,hb11⟩;have HB11:Hid (Below w.heap.size w w11):=HB7.o.trans (Below.trans (Below.alloc (HC10.o.mono HB7.o.size) (by have:=HB7.o.size;omega) _) (hb11.mono (by have:=HB7.o.size;simp;omega)));clear hb11;go_wp2;go_ret;exact⟨rfl,HB11.o⟩
end
end Go.Proofs.YtjdlndhfaaolaaaGreatDoor
