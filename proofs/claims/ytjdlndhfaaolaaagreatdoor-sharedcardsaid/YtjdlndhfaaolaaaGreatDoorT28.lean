import Derived.Test.YtjdlndhfaaolaaaGreatDoorT15
import Derived.Test.YtjdlndhfaaolaaaGreatDoorT27
set_option maxHeartbeats 20000000
namespace Go.Proofs.YtjdlndhfaaolaaaGreatDoor
section
set_option maxRecDepth 100000
open Go.RowKit
def Gb(w:World):Prop:=Lib.TabIs Tryz.prog w "internal/strconv.uint64pow10" .u64 Lib.pow10Tab
def Mn(w:World)(l:List UInt8)(e:Ending)(w':World):Prop:=∃v',e=.returned v'/\w'.ownsRow w.heap.size 5 1 v' l.length (l.map J9)/\Below w.heap.size w w'
theorem Mn.low{w w1:World}{l:List UInt8}{e:Ending}{w':World}(h:Mn w1 l e w')(hb:Below w.heap.size w w1):Mn w l e w':=by
 obtain⟨v,h1,h2,h3⟩:=h;refine⟨v,h1,?_,hb.trans (h3.mono hb.size)⟩;obtain⟨q1,q2|⟨g,cap,cur,e1,e2,e3⟩⟩:=h2
 ·exact⟨q1,.inl q2⟩
 ·exact⟨q1,.inr ⟨g,cap,cur,e1,Nat.le_trans hb.size e2,e3⟩⟩
theorem z2ga {P:Prop} (h:P:=by
  intro v' w1 hown hgrow _;have HO:=A0 hown;have HG:=A0 hgrow;clear hown hgrow hnil;go_wp2;go_ret;exact⟨v',rfl,HO.o,(Below.refl _ _).grown HG.o (Nat.le_refl _) (fun k hk=>by cases hk)⟩):P:=h
theorem A7r(c:Bool)(w:World):Calls Tryz.prog 287 #[.slice none 0 0,.bool c] w (Mn w (Av c)):=by
 obtain⟨i0,hi,Hu,C1,C9⟩:=info_parts Rp;have hnil:w.ownsRow w.heap.size 5 1 (.slice none 0 0) 0 []:=⟨rfl,.inl ⟨rfl,rfl⟩⟩;cases c
 ·go_enter Tryz.func287,Tryz.ntmps287;go_wp2_with (at_builtin;refine Lib.wpList_append_own_string _ rfl _ _ 85 9 rfl w.heap.size 5 i0 Tryz.underlying85 Tryz.underlying9 hi Hu C1 C9 _ _ _ rfl hnil ⟨[102,97,108,115,101].toArray⟩ rfl (by simp[ByteArray.size,maxLen]) (by simp[ByteArray.size]) (Nat.le_refl _) ?_)
  exact z2ga
 ·go_enter Tryz.func287,Tryz.ntmps287;go_wp2_with (at_builtin;refine Lib.wpList_append_own_string _ rfl _ _ 85 9 rfl w.heap.size 5 i0 Tryz.underlying85 Tryz.underlying9 hi Hu C1 C9 _ _ _ rfl hnil ⟨[116,114,117,101].toArray⟩ rfl (by simp[ByteArray.size,maxLen]) (by simp[ByteArray.size]) (Nat.le_refl _) ?_)
  exact z2ga
theorem z4la {P:Prop} (h:P:=by
  have HO:=A0 h1;have HB:=A0 h2;clear h1 h2;go_wp2;go_ret;exact⟨v',rfl,HO.o,HB.o⟩):P:=h
theorem A7s(c:Bool)(w:World):Calls Tryz.prog 272 #[.slice none 0 0,.bool c] w (Mn w (Av c)):=by
 go_enter Tryz.func272,Tryz.ntmps272;go_wp2_with fail
 refine(A7r c w).mono ?_;rintro e w1 ⟨v',rfl,h1,h2⟩;exact z4la
theorem Aom(y:Bool)(s:ByteArray)(r:Option Addr)(n:Int)(hn:Cf n)(w:World)(ht:Gb w):Calls Tryz.prog 244 #[.slice none 0 0,.agg #[.int .i64 2,.bool y,.int .i64 n,.string s,.pointer r],.int .i64 0] w (Mn w (Lib.itoa n)):=by
 have Bj:Below w.heap.size w (w.alloc (.cells #[.int .i64 2,.bool y,.int .i64 n,.string s,.pointer r] 225)):=Below.alloc (Below.refl _ _) (Nat.le_refl _) _;have HA:=A0 (Tryz.strconv_AppendInt_10 w.heap.size 0 n hn.1 hn.2 (.slice none 0 0) [] (w.alloc (.cells #[.int .i64 2,.bool y,.int .i64 n,.string s,.pointer r] 225)) ⟨rfl,.inl ⟨rfl,rfl⟩⟩ Bj.size z51a ((Lib.tabBelow_of_tabIs ht).on Bj));have Ah:=A0 Bj;clear ht hn Bj;go_enter Tryz.func244,Tryz.ntmps244;go_wp2_with fail
 refine HA.o.mono ?_;rintro e w1 ⟨v',rfl,h1,h2,_⟩;have HO:=A0 h1;have HB:Hid (Below w.heap.size w w1):=Ah.o.trans h2;clear h1 h2;go_wp2;go_ret;refine⟨v',rfl,?_,HB.o⟩;have:=HO.o;rw[Nat.zero_add,List.nil_append]at this;exact this
theorem Aol(n:Int)(s:ByteArray)(r:Option Addr)(c:Bool)(w:World):Calls Tryz.prog 244 #[.slice none 0 0,.agg #[.int .i64 1,.bool c,.int .i64 n,.string s,.pointer r],.int .i64 0] w (Mn w (Av c)):=by
 have HA:=A0 (A7s c (w.alloc (.cells #[.int .i64 1,.bool c,.int .i64 n,.string s,.pointer r] 225)));go_enter Tryz.func244,Tryz.ntmps244;go_wp2_with fail
 refine HA.o.mono ?_;intro e w1 hp;obtain⟨v',rfl,h1,h2⟩:=hp.low (Below.alloc (Below.refl _ _) (Nat.le_refl _) _);exact z4la
theorem Aoo(y:Bool)(n:Int)(r:Option Addr)(t:List UInt8)(hl:t.length<=100000)(w:World):Calls Tryz.prog 244 #[.slice none 0 0,.agg #[.int .i64 3,.bool y,.int .i64 n,.string ⟨t.toArray⟩,.pointer r],.int .i64 0] w (Mn w t):=by
 obtain⟨i0,hi,Hu,C1,C9⟩:=info_parts Rp;have Bj:Below w.heap.size w (w.alloc (.cells #[.int .i64 3,.bool y,.int .i64 n,.string ⟨t.toArray⟩,.pointer r] 225)):=Below.alloc (Below.refl _ _) (Nat.le_refl _) _;have Gt:=Bj.size;have Ah:=A0 Bj;have hsz:(⟨t.toArray⟩:ByteArray).size=t.length:=by simp[ByteArray.size]
 have hnil:∀W:World,W.ownsRow w.heap.size 5 1 (.slice none 0 0) 0 []:=fun W=>⟨rfl,.inl ⟨rfl,rfl⟩⟩;clear Bj;go_enter Tryz.func244,Tryz.ntmps244;go_wp2_with (at_builtin;refine Lib.wpList_append_own_string _ rfl _ _ 85 9 rfl w.heap.size 5 i0 Tryz.underlying85 Tryz.underlying9 hi Hu C1 C9 _ _ _ rfl (hnil _) ⟨t.toArray⟩ rfl (by rw[hsz];simp[maxLen];omega) (by rw[hsz];omega) Gt ?_)
 intro v' w1 hown hgrow _;have HO:=A0 hown;have HG:=A0 hgrow;clear hown hgrow hnil;go_wp2;go_ret;refine⟨v',rfl,?_,Ah.o.trans ((Below.refl _ _).grown HG.o Gt (fun k hk=>by cases hk))⟩;exact HO.o
theorem Aon(k:Nat)(h1:k≠1)(h2:k≠2)(h3:k≠3)(h4:k≠4)(y:Bool)(n:Int)(s:ByteArray)(r:Option Addr)(w:World):Calls Tryz.prog 244 #[.slice none 0 0,.agg #[.int .i64 (k:Nat),.bool y,.int .i64 n,.string s,.pointer r],.int .i64 0] w (Mn w [110,117,108,108]):=by
 obtain⟨i0,hi,Hu,C1,C9⟩:=info_parts Rp;have Bj:Below w.heap.size w (w.alloc (.cells #[.int .i64 (k:Nat),.bool y,.int .i64 n,.string s,.pointer r] 225)):=Below.alloc (Below.refl _ _) (Nat.le_refl _) _;have Gt:=Bj.size;have t1:(((k:Nat):Int)==1)=false:=by rw[beq_eq_false_iff_ne];omega
 have t2:(((k:Nat):Int)==2)=false:=by rw[beq_eq_false_iff_ne];omega
 have t3:(((k:Nat):Int)==3)=false:=by rw[beq_eq_false_iff_ne];omega
 have t4:(((k:Nat):Int)==4)=false:=by rw[beq_eq_false_iff_ne];omega
 clear h1 h2 h3 h4;have Ah:=A0 Bj;have hnil:∀W:World,W.ownsRow w.heap.size 5 1 (.slice none 0 0) 0 []:=fun W=>⟨rfl,.inl ⟨rfl,rfl⟩⟩;clear Bj;go_enter Tryz.func244,Tryz.ntmps244;go_wp2_with (at_builtin;refine Lib.wpList_append_own_string _ rfl _ _ 85 9 rfl w.heap.size 5 i0 Tryz.underlying85 Tryz.underlying9 hi Hu C1 C9 _ _ _ rfl (hnil _) ⟨[110,117,108,108].toArray⟩ rfl (by simp[ByteArray.size,maxLen]) (by simp[ByteArray.size]) Gt ?_)
 intro v' w1 hown hgrow _;have HO:=A0 hown;have HG:=A0 hgrow;clear hown hgrow hnil;go_wp2;go_ret;exact⟨v',rfl,HO.o,Ah.o.trans ((Below.refl _ _).grown HG.o Gt (fun k hk=>by cases hk))⟩
def N1(l:List UInt8):Value:=if 500<l.length then .tuple #[.string ⟨#[]⟩,.bool false] else .tuple #[.string ⟨l.toArray⟩,.bool true]
theorem Agn{w:World}{base:Nat}{T:TypeId}{v:Value}{n:Nat}{xs:List Value}(h:w.ownsRow base T 1 v n xs):∃va vc,v=.slice va n vc:=by
 rcases h.2 with⟨rfl,h0⟩|⟨g,cap,cur,rfl,_⟩
 ·exact⟨none,0,by rw[h0]⟩
 ·exact⟨_,_,rfl⟩
theorem U2{k:Int}{y:Bool}{n:Int}{s:ByteArray}{r:Option Addr}{l:List UInt8}{w:World}(hl:l.length<=1000000)
  (ht:Calls Tryz.prog 244 #[.slice none 0 0,.agg #[.int .i64 k,.bool y,.int .i64 n,.string s,.pointer r],.int .i64 0] (w.alloc (.cells #[.int .i64 k,.bool y,.int .i64 n,.string s,.pointer r] 225)) (Mn (w.alloc (.cells #[.int .i64 k,.bool y,.int .i64 n,.string s,.pointer r] 225)) l)) :
  Calls Tryz.prog 201 #[.agg #[.int .i64 k,.bool y,.int .i64 n,.string s,.pointer r]] w fun e w'=>e=.returned (N1 l)/\Below w.heap.size w w':=by
 have HT:=A0 ht;clear ht;go_enter Tryz.func201,Tryz.ntmps201;go_wp2_with fail
 refine HT.o.mono ?_;intro e w1 hp;obtain⟨v',rfl,h1,h2⟩:=hp.low (Below.alloc (Below.refl _ _) (Nat.le_refl _) _);obtain⟨va,vc,rfl⟩:=Agn h1;have hcv:=Vz (w:=w1) h1;have HB:=A0 h2;clear h1 h2 hp HT;by_cases hz:500<l.length
 ·have HZ:Hid (N1 l=.tuple #[.string ⟨#[]⟩,.bool false]):=if_pos hz;have t0:(500:Int)<((l.length:Nat):Int):=by omega
  clear hz;go_wp2;refine bodyPost_ret (v:=.tuple #[.string ⟨#[]⟩,.bool false]) (by simp[results,Tryz.results201,go_sem]) rfl ⟨by rw[HZ.o],HB.o⟩
 ·have HZ:Hid (N1 l=.tuple #[.string ⟨l.toArray⟩,.bool true]):=if_neg hz;have t0:¬(500:Int)<((l.length:Nat):Int):=by omega
  clear hz;go_wp2;refine bodyPost_ret (v:=.tuple #[.string ⟨l.toArray⟩,.bool true]) (by simp[results,Tryz.results201,go_sem]) rfl ⟨by rw[HZ.o],HB.o⟩
theorem Xc(v:PV)(r:Option Addr)(h4:v.k≠4)(hn:Cf v.n)(ht:v.t.length<=100000)(arr:List (List PV))(w:World)(h10:Gb w) :
  Calls Tryz.prog 201 #[.agg #[.int .i64 (v.k:Nat),.bool v.y,.int .i64 v.n,.string ⟨v.t.toArray⟩,.pointer r]] w fun e w'=>e=.returned (N1 (Fs arr 4 [] v))/\Below w.heap.size w w':=by
 have Bj:∀o:Obj,Gb (w.alloc o):=fun o=>Lib.tabBelow_of_tabIs h10 _ (Below.alloc (Below.refl _ _) (Nat.le_refl _) _);obtain⟨k,y,n,t,rr⟩:=v;dsimp only at *;by_cases k1:k=1
 ·subst k1;have e:Fs arr 4 [] ⟨1,y,n,t,rr⟩=Av y:=by cases y <;> simp[Fs,Av]
  rw[e];exact U2 (by have:=Zg y;omega) (Aol n _ r y _)
 by_cases k2:k=2
 ·subst k2;have e:Fs arr 4 [] ⟨2,y,n,t,rr⟩=Lib.itoa n:=by simp[Fs]
  rw[e];exact U2 (by have:=i20 hn;omega) (Aom y _ r n hn _ (Bj _))
 by_cases k3:k=3
 ·subst k3;have e:Fs arr 4 [] ⟨3,y,n,t,rr⟩=t:=by simp[Fs]
  rw[e];exact U2 z51a (Aoo y n r t ht _)
 ·have e:Fs arr 4 [] ⟨k,y,n,t,rr⟩=[110,117,108,108]:=by simp[Fs,k1,k2,k3,h4]
  rw[e];exact U2 z56a (Aon k k1 k2 k3 h4 y n _ r _)
theorem K9(a b:List UInt8)(ha:a.length<=100000)(hb:b.length<=100000)(w:World):(Op.stringOp .add ⟨a.toArray⟩ ⟨b.toArray⟩).run Tryz.prog w=.ok (.string ⟨(a++b).toArray⟩) w:=run_string_add_lists w a b z51a z51a
def Lc(k:Nat):UInt8:=UInt8.ofNat (48+k)
theorem W6{k:Nat}(h:k<10):((Lc k).toNat:Int)=48+(k:Int):=by
 have:(Lc k).toNat=48+k:=by simp[Lc];omega
 omega
theorem Tj(W:World)(c:UInt8)(x:Int)(hx:x=(c.toNat:Int)):(convert 85 9 (.slice (some ⟨W.heap.size,0,none⟩) 1 1)).run Tryz.prog (W.alloc (.cells #[.int .u8 x] 5))=.ok (.string ⟨[c].toArray⟩) (W.alloc (.cells #[.int .u8 x] 5)):=by
 subst hx;exact Vz (base:=0) (bs:=[c]) ⟨rfl,.inr ⟨W.heap.size,1,#[J9 c],rfl,Nat.zero_le _,heap_alloc_new _ _,Nat.le_refl _,by decide,rfl,rfl⟩⟩
theorem To(k:Nat):Tn k=[Lc k]:=rfl
theorem Abd(n:Int)(h0:0<=n)(h1:n<10)(w:World):Calls Tryz.prog 16 #[.int .i64 n] w fun e w'=>e=.returned (.string ⟨(Dw n).toArray⟩)/\Below w.heap.size w w':=by
 rw[Ab9 h0 h1,To];have t0:¬n<0:=by omega
 have t1:¬(10:Int)<=n:=by omega
 have e0:n.tmod 10=n % 10:=Int.tmod_eq_emod_of_nonneg h0;rw[e0];have hcv:=Tj w (Lc (n % 10).toNat) (48+n % 10) (by rw[W6 z51a];omega);have sa:=K9 [] [Lc (n % 10).toNat] z56a z56a;rw[List.nil_append]at sa;go_enter Tryz.func16,Tryz.ntmps16;go_wp2;go_ret;refine⟨rfl,?_⟩;repeat (first|exact Below.refl _ _|refine Below.alloc ?_ z56a _|refine Below.setCell ?_ z56a _|refine Below.drew ?_)
theorem Abc(n:Int)(h0:10<=n)(h2:n<=9223372036854775807)(hlen:(Dw (n.tdiv 10)).length<=1000)(w:World)(ih:∀w:World,Calls Tryz.prog 16 #[.int .i64 (n / 10)] w fun e w'=>e=.returned (.string ⟨(Dw (n.tdiv 10)).toArray⟩)/\Below w.heap.size w w'):Calls Tryz.prog 16 #[.int .i64 n] w fun e w'=>e=.returned (.string ⟨(Dw n).toArray⟩)/\Below w.heap.size w w':=by
 rw[Ab8 h0,To];have t0:¬n<0:=by omega
 have e0:n.tmod 10=n % 10:=Int.tmod_eq_emod_of_nonneg z51a;rw[e0];generalize Dw (n.tdiv 10)=l at *;have HC:=A0 (fun(W:World)=>Tj W (Lc (n % 10).toNat) (48+n % 10) (by rw[W6 z51a];omega));have sa:=K9 l [Lc (n % 10).toNat] z51a z56a;have HI:=A0 ih;clear ih;go_enter Tryz.func16,Tryz.ntmps16;go_wp2_with fail
 refine(HI.o w).mono ?_;rintro e w1 ⟨rfl,hb⟩;have hcv:=HC.o w1;have HB:=A0 hb;have ls:=hb.size;clear hb;go_wp2;go_ret;refine⟨rfl,?_⟩;repeat (first|exact HB.o|refine Below.alloc ?_ z51a _|refine Below.setCell ?_ z56a _|refine Below.drew ?_)
theorem b7:∀(u:Nat),(u:Int)<=9223372036854775807->∀w:World,Calls Tryz.prog 16 #[.int .i64 (u:Int)] w fun e w'=>e=.returned (.string ⟨(Dw (u:Int)).toArray⟩)/\Below w.heap.size w w':=by
 intro u;induction u using Nat.strongRecOn with
 | _ u ih=>
  intro hu w;by_cases h:(u:Int)<10
  ·exact Abd u z51a h w
  ·have e1:(u:Int).tdiv 10=((u / 10:Nat):Int):=rfl;have e2:(u:Int) / 10=((u / 10:Nat):Int):=by omega
   refine Abc u z51a hu ?_ w (fun w'=>?_)
   ·rw[e1];have:=Ob ((u / 10:Nat):Int) z51a z51a;omega
   ·rw[e1,e2];exact ih (u / 10) z51a z51a w'
theorem z3ia {P:Prop} (h:P:=by
  go_wp2_with fail
  refine HI.o.mono ?_;rintro e w1 ⟨rfl,hb⟩;have HB:=A0 hb;clear hb;go_wp2;go_ret;exact⟨rfl,HB.o⟩):P:=h
theorem Abe(n:Int)(h0:n<0)(h1:-9223372036854775808<=n)(w:World):Calls Tryz.prog 16 #[.int .i64 n] w fun e w'=>e=.returned (.string ⟨(Dw n).toArray⟩)/\Below w.heap.size w w':=by
 rw[Aba h0];have hl:=Ob (-(n+1)) z51a z51a;have HI:=A0 (b7 (-(n+1)).toNat z51a w);rw[show(((-(n+1)).toNat:Nat):Int)=-(n+1) by omega]at HI;generalize Dw (-(n+1))=l at *;have s1:=K9 [40,45] l z56a z51a;have s2:=K9 ([40,45]++l) [45,49,41] z54a z56a;go_enter Tryz.func16,Tryz.ntmps16;exact z3ia
theorem b8(n:Int)(hn:Cf n)(w:World):Calls Tryz.prog 16 #[.int .i64 n] w fun e w'=>e=.returned (.string ⟨(Dw n).toArray⟩)/\Below w.heap.size w w':=by
 by_cases h:n<0
 ·exact Abe n h hn.1 w
 ·have:=b7 n.toNat (by have:=hn.2;omega) w;rw[show((n.toNat:Nat):Int)=n by omega]at this;exact this
end
end Go.Proofs.YtjdlndhfaaolaaaGreatDoor
