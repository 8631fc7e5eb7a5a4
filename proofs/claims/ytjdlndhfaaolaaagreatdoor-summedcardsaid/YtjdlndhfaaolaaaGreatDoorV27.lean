import Derived.Test.YtjdlndhfaaolaaaGreatDoorV14
import Derived.Test.YtjdlndhfaaolaaaGreatDoorV26
set_option maxHeartbeats 20000000
namespace Go.Proofs.YtjdlndhfaaolaaaGreatDoor
section
set_option maxRecDepth 100000
open Go.RowKit
def G3(w:World):Prop:=Lib.TabIs Tryz.prog w "internal/strconv.uint64pow10" .u64 Lib.pow10Tab
def Mr(w:World)(l:List UInt8)(e:Ending)(w':World):Prop:=∃v',e=.returned v'/\w'.ownsRow w.heap.size 5 1 v' l.length (l.map Ja)/\Below w.heap.size w w'
theorem Mr.low{w w1:World}{l:List UInt8}{e:Ending}{w':World}(h:Mr w1 l e w')(hb:Below w.heap.size w w1):Mr w l e w':=by
 obtain⟨v,h1,h2,h3⟩:=h;refine⟨v,h1,?_,hb.trans (h3.mono hb.size)⟩;obtain⟨q1,q2|⟨g,cap,cur,e1,e2,e3⟩⟩:=h2
 ·exact⟨q1,.inl q2⟩
 ·exact⟨q1,.inr ⟨g,cap,cur,e1,Nat.le_trans hb.size e2,e3⟩⟩
theorem z2fa {P:Prop} (h:P:=by
  intro v' w1 hown hgrow _;have HO:=A0 hown;have HG:=A0 hgrow;clear hown hgrow hnil;go_wp2;go_ret;exact⟨v',rfl,HO.o,(Below.refl _ _).grown HG.o (Nat.le_refl _) (fun k hk=>by cases hk)⟩):P:=h
theorem A7y(c:Bool)(w:World):Calls Tryz.prog 287 #[.slice none 0 0,.bool c] w (Mr w (Qh c)):=by
 obtain⟨i0,hi,Hw,By,C5⟩:=info_parts Sg;have hnil:w.ownsRow w.heap.size 5 1 (.slice none 0 0) 0 []:=⟨rfl,.inl ⟨rfl,rfl⟩⟩;cases c
 ·go_enter Tryz.func287,Tryz.ntmps287;go_wp2_with (at_builtin;refine Lib.wpList_append_own_string _ rfl _ _ 85 9 rfl w.heap.size 5 i0 Tryz.underlying85 Tryz.underlying9 hi Hw By C5 _ _ _ rfl hnil ⟨[102,97,108,115,101].toArray⟩ rfl (by simp[ByteArray.size,maxLen]) (by simp[ByteArray.size]) (Nat.le_refl _) ?_)
  exact z2fa
 ·go_enter Tryz.func287,Tryz.ntmps287;go_wp2_with (at_builtin;refine Lib.wpList_append_own_string _ rfl _ _ 85 9 rfl w.heap.size 5 i0 Tryz.underlying85 Tryz.underlying9 hi Hw By C5 _ _ _ rfl hnil ⟨[116,114,117,101].toArray⟩ rfl (by simp[ByteArray.size,maxLen]) (by simp[ByteArray.size]) (Nat.le_refl _) ?_)
  exact z2fa
theorem z4fa {P:Prop} (h:P:=by
  have HO:=A0 h1;have HB:=A0 h2;clear h1 h2;go_wp2;go_ret;exact⟨v',rfl,HO.o,HB.o⟩):P:=h
theorem A7z(c:Bool)(w:World):Calls Tryz.prog 272 #[.slice none 0 0,.bool c] w (Mr w (Qh c)):=by
 go_enter Tryz.func272,Tryz.ntmps272;go_wp2_with fail
 refine(A7y c w).mono ?_;rintro e w1 ⟨v',rfl,h1,h2⟩;exact z4fa
theorem Aoq(y:Bool)(s:ByteArray)(r:Option Addr)(n:Int)(hn:D4 n)(w:World)(ht:G3 w):Calls Tryz.prog 244 #[.slice none 0 0,.agg #[.int .i64 2,.bool y,.int .i64 n,.string s,.pointer r],.int .i64 0] w (Mr w (Lib.itoa n)):=by
 have Bf:Below w.heap.size w (w.alloc (.cells #[.int .i64 2,.bool y,.int .i64 n,.string s,.pointer r] 225)):=Below.alloc (Below.refl _ _) (Nat.le_refl _) _;have HA:=A0 (Tryz.strconv_AppendInt_10 w.heap.size 0 n hn.1 hn.2 (.slice none 0 0) [] (w.alloc (.cells #[.int .i64 2,.bool y,.int .i64 n,.string s,.pointer r] 225)) ⟨rfl,.inl ⟨rfl,rfl⟩⟩ Bf.size z4va ((Lib.tabBelow_of_tabIs ht).on Bf));have Af:=A0 Bf;clear ht hn Bf;go_enter Tryz.func244,Tryz.ntmps244;go_wp2_with fail
 refine HA.o.mono ?_;rintro e w1 ⟨v',rfl,h1,h2,_⟩;have HO:=A0 h1;have HB:Hid (Below w.heap.size w w1):=Af.o.trans h2;clear h1 h2;go_wp2;go_ret;refine⟨v',rfl,?_,HB.o⟩;have:=HO.o;rw[Nat.zero_add,List.nil_append]at this;exact this
theorem Aop(n:Int)(s:ByteArray)(r:Option Addr)(c:Bool)(w:World):Calls Tryz.prog 244 #[.slice none 0 0,.agg #[.int .i64 1,.bool c,.int .i64 n,.string s,.pointer r],.int .i64 0] w (Mr w (Qh c)):=by
 have HA:=A0 (A7z c (w.alloc (.cells #[.int .i64 1,.bool c,.int .i64 n,.string s,.pointer r] 225)));go_enter Tryz.func244,Tryz.ntmps244;go_wp2_with fail
 refine HA.o.mono ?_;intro e w1 hp;obtain⟨v',rfl,h1,h2⟩:=hp.low (Below.alloc (Below.refl _ _) (Nat.le_refl _) _);exact z4fa
theorem Aos(y:Bool)(n:Int)(r:Option Addr)(t:List UInt8)(hl:t.length<=100000)(w:World):Calls Tryz.prog 244 #[.slice none 0 0,.agg #[.int .i64 3,.bool y,.int .i64 n,.string ⟨t.toArray⟩,.pointer r],.int .i64 0] w (Mr w t):=by
 obtain⟨i0,hi,Hw,By,C5⟩:=info_parts Sg;have Bf:Below w.heap.size w (w.alloc (.cells #[.int .i64 3,.bool y,.int .i64 n,.string ⟨t.toArray⟩,.pointer r] 225)):=Below.alloc (Below.refl _ _) (Nat.le_refl _) _;have Gt:=Bf.size;have Af:=A0 Bf;have hsz:(⟨t.toArray⟩:ByteArray).size=t.length:=by simp[ByteArray.size]
 have hnil:∀W:World,W.ownsRow w.heap.size 5 1 (.slice none 0 0) 0 []:=fun W=>⟨rfl,.inl ⟨rfl,rfl⟩⟩;clear Bf;go_enter Tryz.func244,Tryz.ntmps244;go_wp2_with (at_builtin;refine Lib.wpList_append_own_string _ rfl _ _ 85 9 rfl w.heap.size 5 i0 Tryz.underlying85 Tryz.underlying9 hi Hw By C5 _ _ _ rfl (hnil _) ⟨t.toArray⟩ rfl (by rw[hsz];simp[maxLen];omega) (by rw[hsz];omega) Gt ?_)
 intro v' w1 hown hgrow _;have HO:=A0 hown;have HG:=A0 hgrow;clear hown hgrow hnil;go_wp2;go_ret;refine⟨v',rfl,?_,Af.o.trans ((Below.refl _ _).grown HG.o Gt (fun k hk=>by cases hk))⟩;exact HO.o
theorem Aor(k:Nat)(h1:k≠1)(h2:k≠2)(h3:k≠3)(h4:k≠4)(y:Bool)(n:Int)(s:ByteArray)(r:Option Addr)(w:World):Calls Tryz.prog 244 #[.slice none 0 0,.agg #[.int .i64 (k:Nat),.bool y,.int .i64 n,.string s,.pointer r],.int .i64 0] w (Mr w [110,117,108,108]):=by
 obtain⟨i0,hi,Hw,By,C5⟩:=info_parts Sg;have Bf:Below w.heap.size w (w.alloc (.cells #[.int .i64 (k:Nat),.bool y,.int .i64 n,.string s,.pointer r] 225)):=Below.alloc (Below.refl _ _) (Nat.le_refl _) _;have Gt:=Bf.size;have t1:(((k:Nat):Int)==1)=false:=by rw[beq_eq_false_iff_ne];omega
 have t2:(((k:Nat):Int)==2)=false:=by rw[beq_eq_false_iff_ne];omega
 have t3:(((k:Nat):Int)==3)=false:=by rw[beq_eq_false_iff_ne];omega
 have t4:(((k:Nat):Int)==4)=false:=by rw[beq_eq_false_iff_ne];omega
 clear h1 h2 h3 h4;have Af:=A0 Bf;have hnil:∀W:World,W.ownsRow w.heap.size 5 1 (.slice none 0 0) 0 []:=fun W=>⟨rfl,.inl ⟨rfl,rfl⟩⟩;clear Bf;go_enter Tryz.func244,Tryz.ntmps244;go_wp2_with (at_builtin;refine Lib.wpList_append_own_string _ rfl _ _ 85 9 rfl w.heap.size 5 i0 Tryz.underlying85 Tryz.underlying9 hi Hw By C5 _ _ _ rfl (hnil _) ⟨[110,117,108,108].toArray⟩ rfl (by simp[ByteArray.size,maxLen]) (by simp[ByteArray.size]) Gt ?_)
 intro v' w1 hown hgrow _;have HO:=A0 hown;have HG:=A0 hgrow;clear hown hgrow hnil;go_wp2;go_ret;exact⟨v',rfl,HO.o,Af.o.trans ((Below.refl _ _).grown HG.o Gt (fun k hk=>by cases hk))⟩
def N6(l:List UInt8):Value:=if 500<l.length then .tuple #[.string ⟨#[]⟩,.bool false] else .tuple #[.string ⟨l.toArray⟩,.bool true]
theorem Ah1{w:World}{base:Nat}{T:TypeId}{v:Value}{n:Nat}{xs:List Value}(h:w.ownsRow base T 1 v n xs):∃va vc,v=.slice va n vc:=by
 rcases h.2 with⟨rfl,h0⟩|⟨g,cap,cur,rfl,_⟩
 ·exact⟨none,0,by rw[h0]⟩
 ·exact⟨_,_,rfl⟩
theorem Ui{k:Int}{y:Bool}{n:Int}{s:ByteArray}{r:Option Addr}{l:List UInt8}{w:World}(hl:l.length<=1000000)
  (ht:Calls Tryz.prog 244 #[.slice none 0 0,.agg #[.int .i64 k,.bool y,.int .i64 n,.string s,.pointer r],.int .i64 0] (w.alloc (.cells #[.int .i64 k,.bool y,.int .i64 n,.string s,.pointer r] 225)) (Mr (w.alloc (.cells #[.int .i64 k,.bool y,.int .i64 n,.string s,.pointer r] 225)) l)) :
  Calls Tryz.prog 201 #[.agg #[.int .i64 k,.bool y,.int .i64 n,.string s,.pointer r]] w fun e w'=>e=.returned (N6 l)/\Below w.heap.size w w':=by
 have HT:=A0 ht;clear ht;go_enter Tryz.func201,Tryz.ntmps201;go_wp2_with fail
 refine HT.o.mono ?_;intro e w1 hp;obtain⟨v',rfl,h1,h2⟩:=hp.low (Below.alloc (Below.refl _ _) (Nat.le_refl _) _);obtain⟨va,vc,rfl⟩:=Ah1 h1;have hcv:=Wc (w:=w1) h1;have HB:=A0 h2;clear h1 h2 hp HT;by_cases hz:500<l.length
 ·have HZ:Hid (N6 l=.tuple #[.string ⟨#[]⟩,.bool false]):=if_pos hz;have t0:(500:Int)<((l.length:Nat):Int):=by omega
  clear hz;go_wp2;refine bodyPost_ret (v:=.tuple #[.string ⟨#[]⟩,.bool false]) (by simp[results,Tryz.results201,go_sem]) rfl ⟨by rw[HZ.o],HB.o⟩
 ·have HZ:Hid (N6 l=.tuple #[.string ⟨l.toArray⟩,.bool true]):=if_neg hz;have t0:¬(500:Int)<((l.length:Nat):Int):=by omega
  clear hz;go_wp2;refine bodyPost_ret (v:=.tuple #[.string ⟨l.toArray⟩,.bool true]) (by simp[results,Tryz.results201,go_sem]) rfl ⟨by rw[HZ.o],HB.o⟩
theorem Xn(v:PV)(r:Option Addr)(h4:v.k≠4)(hn:D4 v.n)(ht:v.t.length<=100000)(arr:List (List PV))(w:World)(h10:G3 w) :
  Calls Tryz.prog 201 #[.agg #[.int .i64 (v.k:Nat),.bool v.y,.int .i64 v.n,.string ⟨v.t.toArray⟩,.pointer r]] w fun e w'=>e=.returned (N6 (G1 arr 4 [] v))/\Below w.heap.size w w':=by
 have Bf:∀o:Obj,G3 (w.alloc o):=fun o=>Lib.tabBelow_of_tabIs h10 _ (Below.alloc (Below.refl _ _) (Nat.le_refl _) _);obtain⟨k,y,n,t,rr⟩:=v;dsimp only at *;by_cases k1:k=1
 ·subst k1;have e:G1 arr 4 [] ⟨1,y,n,t,rr⟩=Qh y:=by cases y <;> simp[G1,Qh]
  rw[e];exact Ui (by have:=A9k y;omega) (Aop n _ r y _)
 by_cases k2:k=2
 ·subst k2;have e:G1 arr 4 [] ⟨2,y,n,t,rr⟩=Lib.itoa n:=by simp[G1]
  rw[e];exact Ui (by have:=i20 hn;omega) (Aoq y _ r n hn _ (Bf _))
 by_cases k3:k=3
 ·subst k3;have e:G1 arr 4 [] ⟨3,y,n,t,rr⟩=t:=by simp[G1]
  rw[e];exact Ui z4va (Aos y n r t ht _)
 ·have e:G1 arr 4 [] ⟨k,y,n,t,rr⟩=[110,117,108,108]:=by simp[G1,k1,k2,k3,h4]
  rw[e];exact Ui z50a (Aor k k1 k2 k3 h4 y n _ r _)
theorem N9(a b:List UInt8)(ha:a.length<=100000)(hb:b.length<=100000)(w:World):(Op.stringOp .add ⟨a.toArray⟩ ⟨b.toArray⟩).run Tryz.prog w=.ok (.string ⟨(a++b).toArray⟩) w:=run_string_add_lists w a b z4va z4va
def Ll(k:Nat):UInt8:=UInt8.ofNat (48+k)
theorem Wh{k:Nat}(h:k<10):((Ll k).toNat:Int)=48+(k:Int):=by
 have:(Ll k).toNat=48+k:=by simp[Ll];omega
 omega
theorem U0(W:World)(c:UInt8)(x:Int)(hx:x=(c.toNat:Int)):(convert 85 9 (.slice (some ⟨W.heap.size,0,none⟩) 1 1)).run Tryz.prog (W.alloc (.cells #[.int .u8 x] 5))=.ok (.string ⟨[c].toArray⟩) (W.alloc (.cells #[.int .u8 x] 5)):=by
 subst hx;exact Wc (base:=0) (bs:=[c]) ⟨rfl,.inr ⟨W.heap.size,1,#[Ja c],rfl,Nat.zero_le _,heap_alloc_new _ _,Nat.le_refl _,by decide,rfl,rfl⟩⟩
theorem U5(k:Nat):U4 k=[Ll k]:=rfl
theorem Abm(n:Int)(h0:0<=n)(h1:n<10)(w:World):Calls Tryz.prog 16 #[.int .i64 n] w fun e w'=>e=.returned (.string ⟨(Fx n).toArray⟩)/\Below w.heap.size w w':=by
 rw[Abh h0 h1,U5];have t0:¬n<0:=by omega
 have t1:¬(10:Int)<=n:=by omega
 have e0:n.tmod 10=n % 10:=Int.tmod_eq_emod_of_nonneg h0;rw[e0];have hcv:=U0 w (Ll (n % 10).toNat) (48+n % 10) (by rw[Wh z4va];omega);have sa:=N9 [] [Ll (n % 10).toNat] z50a z50a;rw[List.nil_append]at sa;go_enter Tryz.func16,Tryz.ntmps16;go_wp2;go_ret;refine⟨rfl,?_⟩;repeat (first|exact Below.refl _ _|refine Below.alloc ?_ z50a _|refine Below.setCell ?_ z50a _|refine Below.drew ?_)
theorem Abl(n:Int)(h0:10<=n)(h2:n<=9223372036854775807)(hlen:(Fx (n.tdiv 10)).length<=1000)(w:World)(ih:∀w:World,Calls Tryz.prog 16 #[.int .i64 (n / 10)] w fun e w'=>e=.returned (.string ⟨(Fx (n.tdiv 10)).toArray⟩)/\Below w.heap.size w w'):Calls Tryz.prog 16 #[.int .i64 n] w fun e w'=>e=.returned (.string ⟨(Fx n).toArray⟩)/\Below w.heap.size w w':=by
 rw[Abg h0,U5];have t0:¬n<0:=by omega
 have e0:n.tmod 10=n % 10:=Int.tmod_eq_emod_of_nonneg z4va;rw[e0];generalize Fx (n.tdiv 10)=l at *;have HC:=A0 (fun(W:World)=>U0 W (Ll (n % 10).toNat) (48+n % 10) (by rw[Wh z4va];omega));have sa:=N9 l [Ll (n % 10).toNat] z4va z50a;have HI:=A0 ih;clear ih;go_enter Tryz.func16,Tryz.ntmps16;go_wp2_with fail
 refine(HI.o w).mono ?_;rintro e w1 ⟨rfl,hb⟩;have hcv:=HC.o w1;have HB:=A0 hb;have ls:=hb.size;clear hb;go_wp2;go_ret;refine⟨rfl,?_⟩;repeat (first|exact HB.o|refine Below.alloc ?_ z4va _|refine Below.setCell ?_ z50a _|refine Below.drew ?_)
theorem l9:∀(u:Nat),(u:Int)<=9223372036854775807->∀w:World,Calls Tryz.prog 16 #[.int .i64 (u:Int)] w fun e w'=>e=.returned (.string ⟨(Fx (u:Int)).toArray⟩)/\Below w.heap.size w w':=by
 intro u;induction u using Nat.strongRecOn with
 | _ u ih=>
  intro hu w;by_cases h:(u:Int)<10
  ·exact Abm u z4va h w
  ·have e1:(u:Int).tdiv 10=((u / 10:Nat):Int):=rfl;have e2:(u:Int) / 10=((u / 10:Nat):Int):=by omega
   refine Abl u z4va hu ?_ w (fun w'=>?_)
   ·rw[e1];have:=U3 ((u / 10:Nat):Int) z4va z4va;omega
   ·rw[e1,e2];exact ih (u / 10) z4va z4va w'
theorem z3fa {P:Prop} (h:P:=by
  go_wp2_with fail
  refine HI.o.mono ?_;rintro e w1 ⟨rfl,hb⟩;have HB:=A0 hb;clear hb;go_wp2;go_ret;exact⟨rfl,HB.o⟩):P:=h
theorem Abn(n:Int)(h0:n<0)(h1:-9223372036854775808<=n)(w:World):Calls Tryz.prog 16 #[.int .i64 n] w fun e w'=>e=.returned (.string ⟨(Fx n).toArray⟩)/\Below w.heap.size w w':=by
 rw[Abj h0];have hl:=U3 (-(n+1)) z4va z4va;have HI:=A0 (l9 (-(n+1)).toNat z4va w);rw[show(((-(n+1)).toNat:Nat):Int)=-(n+1) by omega]at HI;generalize Fx (-(n+1))=l at *;have s1:=N9 [40,45] l z50a z4va;have s2:=N9 ([40,45]++l) [45,49,41] z4ya z50a;go_enter Tryz.func16,Tryz.ntmps16;exact z3fa
theorem n8(n:Int)(hn:D4 n)(w:World):Calls Tryz.prog 16 #[.int .i64 n] w fun e w'=>e=.returned (.string ⟨(Fx n).toArray⟩)/\Below w.heap.size w w':=by
 by_cases h:n<0
 ·exact Abn n h hn.1 w
 ·have:=l9 n.toNat (by have:=hn.2;omega) w;rw[show((n.toNat:Nat):Int)=n by omega]at this;exact this
end
end Go.Proofs.YtjdlndhfaaolaaaGreatDoor
