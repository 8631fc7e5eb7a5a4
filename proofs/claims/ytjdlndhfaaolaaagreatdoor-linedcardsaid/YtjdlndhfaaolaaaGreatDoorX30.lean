import Derived.Test.YtjdlndhfaaolaaaGreatDoorX15
import Derived.Test.YtjdlndhfaaolaaaGreatDoorX29
set_option maxHeartbeats 20000000
namespace Go.Proofs.YtjdlndhfaaolaaaGreatDoor
section
set_option maxRecDepth 100000
open Go.RowKit
def G9(w:World):Prop:=Lib.TabIs Tryz.prog w "internal/strconv.uint64pow10" .u64 Lib.pow10Tab
def Ln(base:Nat)(w:World)(v:Value)(l:List UInt8):Prop:=w.ownsRow base 5 1 v l.length (l.map Hx)/\base<=w.heap.size
def Ld(base:Nat)(w:World)(l:List UInt8)(e:Ending)(w':World):Prop:=∃v',e=.returned v'/\Ln base w' v' l/\Below base w w'
theorem Ln.ge{base:Nat}{w:World}{v:Value}{l:List UInt8}(h:Ln base w v l):∀k,v.ownBlock=some k->base<=k:=by
 obtain⟨⟨_,⟨rfl,_⟩|⟨g,cap,cur,rfl,e2,_⟩⟩,_⟩:=h
 ·intro k hk;cases hk
 ·intro k hk;have:g=k:=by simpa [Value.ownBlock]using hk
  rw[←this];exact e2
theorem Ln.alloc{base:Nat}{w:World}{v:Value}{l:List UInt8}(h:Ln base w v l)(o:Obj):Ln base (w.alloc o) v l/\Below base w (w.alloc o):=⟨⟨h.1.alloc o,by simp;have:=h.2;omega⟩,Below.alloc (Below.refl _ _) h.2 _⟩
theorem Ln.app{base:Nat}{w w1:World}{v v':Value}{l:List UInt8}(h:Ln base w v l){t:List UInt8}(ho:w1.ownsRow base 5 1 v' (l.length+t.length) (l.map Hx++t.map Hx))(hg:w.grownBy w1 v.ownBlock):Ln base w1 v' (l++t)/\Below base w w1:=by
 refine⟨⟨?_,Nat.le_trans h.2 hg.size⟩,(Below.refl _ _).grown hg h.2 h.ge⟩;rw[List.length_append,List.map_append];exact ho
variable {base:Nat} {w:World} {v:Value} {l:List UInt8}
theorem z3ma {P:Prop} (h:P:=by
  clear ho hg hown;go_wp2;go_ret;exact⟨v',rfl,HK.o⟩):P:=h
theorem z5ja {P:Prop} (h:P:=by simp[ByteArray.size,maxLen];omega):P:=h
theorem z5ua {P:Prop} (h:P:=by simp[ByteArray.size];omega):P:=h
theorem A7r(c:Bool)(h:Ln base w v l)(hl:l.length<=100000):Calls Tryz.prog 287 #[v,.bool c] w (Ld base w (l++P3 c)):=by
 obtain⟨i0,hi,Gt,Bq,Bw⟩:=info_parts Nq;have hown:=h.1;have hb:=h.2;have HH:=A0 h;clear h;cases c
 ·go_enter Tryz.func287,Tryz.ntmps287;go_wp2_with (at_builtin;refine Lib.wpList_append_own_string _ rfl _ _ 85 9 rfl base 5 i0 Tryz.underlying85 Tryz.underlying9 hi Gt Bq Bw _ _ _ rfl hown ⟨[102,97,108,115,101].toArray⟩ rfl z5ja z5ua hb ?_)
  intro v' w1 ho hg _;have HK:=A0 (HH.o.app (t:=P3 false) ho hg);exact z3ma
 ·go_enter Tryz.func287,Tryz.ntmps287;go_wp2_with (at_builtin;refine Lib.wpList_append_own_string _ rfl _ _ 85 9 rfl base 5 i0 Tryz.underlying85 Tryz.underlying9 hi Gt Bq Bw _ _ _ rfl hown ⟨[116,114,117,101].toArray⟩ rfl z5ja z5ua hb ?_)
  intro v' w1 ho hg _;have HK:=A0 (HH.o.app (t:=P3 true) ho hg);exact z3ma
theorem A7s(c:Bool)(h:Ln base w v l)(hl:l.length<=100000):Calls Tryz.prog 272 #[v,.bool c] w (Ld base w (l++P3 c)):=by
 have HA:=A0 (A7r c h hl);clear h;go_enter Tryz.func272,Tryz.ntmps272;go_wp2_with fail
 refine HA.o.mono ?_;rintro e w1 ⟨v',rfl,h1⟩;have HO:=A0 h1;clear h1;go_wp2;go_ret;exact⟨v',rfl,HO.o⟩
theorem Amd(y:Bool)(s:ByteArray)(r:Option Addr)(j n:Int)(hn:Ht n)(h:Ln base w v l)(hl:l.length<=100000)(ht:Lib.TabBelow Tryz.prog base w "internal/strconv.uint64pow10" .u64 Lib.pow10Tab):Calls Tryz.prog 244 #[v,.agg #[.int .i64 2,.bool y,.int .i64 n,.string s,.pointer r],.int .i64 j] w (Ld base w (l++Lib.itoa n)):=by
 obtain⟨h0,Bv⟩:=h.alloc (.cells #[.int .i64 2,.bool y,.int .i64 n,.string s,.pointer r] 225);have HA:=A0 (Tryz.strconv_AppendInt_10 base l.length n hn.1 hn.2 v (l.map Hx) (w.alloc (.cells #[.int .i64 2,.bool y,.int .i64 n,.string s,.pointer r] 225)) h0.1 h0.2 z4sa (ht.on Bv));have Ae:=A0 Bv;have HS:=A0 h.2;clear ht hn Bv h0 h;go_enter Tryz.func244,Tryz.ntmps244;go_wp2_with fail
 refine HA.o.mono ?_;rintro e w1 ⟨v',rfl,h1,h2,_⟩;have HO:=A0 h1;have HB:Hid (Below base w w1):=Ae.o.trans h2;clear h1 h2;go_wp2;go_ret;refine⟨v',rfl,⟨?_,Nat.le_trans HS.o HB.o.size⟩,HB.o⟩;rw[List.length_append,List.map_append];exact HO.o
theorem Amb(n:Int)(s:ByteArray)(r:Option Addr)(j:Int)(c:Bool)(h:Ln base w v l)(hl:l.length<=100000):Calls Tryz.prog 244 #[v,.agg #[.int .i64 1,.bool c,.int .i64 n,.string s,.pointer r],.int .i64 j] w (Ld base w (l++P3 c)):=by
 obtain⟨h0,Bv⟩:=h.alloc (.cells #[.int .i64 1,.bool c,.int .i64 n,.string s,.pointer r] 225);have HA:=A0 (A7s c h0 hl);have Ae:=A0 Bv;clear h h0 Bv;go_enter Tryz.func244,Tryz.ntmps244;go_wp2_with fail
 refine HA.o.mono ?_;rintro e w1 ⟨v',rfl,h1,h2⟩;have HO:=A0 h1;have HB:Hid (Below base w w1):=Ae.o.trans h2;clear h1 h2;go_wp2;go_ret;exact⟨v',rfl,HO.o,HB.o⟩
theorem Amh(y:Bool)(n:Int)(r:Option Addr)(j:Int)(t:List UInt8)(ht:t.length<=100000)(h:Ln base w v l)(hl:l.length<=100000):Calls Tryz.prog 244 #[v,.agg #[.int .i64 3,.bool y,.int .i64 n,.string ⟨t.toArray⟩,.pointer r],.int .i64 j] w (Ld base w (l++t)):=by
 obtain⟨i0,hi,Gt,Bq,Bw⟩:=info_parts Nq;obtain⟨h0,Bv⟩:=h.alloc (.cells #[.int .i64 3,.bool y,.int .i64 n,.string ⟨t.toArray⟩,.pointer r] 225);have hown:=h0.1;have J4:=h0.2;have HH:=A0 h0;have Ae:=A0 Bv;have hsz:(⟨t.toArray⟩:ByteArray).size=t.length:=by simp[ByteArray.size]
 clear h h0 Bv;go_enter Tryz.func244,Tryz.ntmps244;go_wp2_with (at_builtin;refine Lib.wpList_append_own_string _ rfl _ _ 85 9 rfl base 5 i0 Tryz.underlying85 Tryz.underlying9 hi Gt Bq Bw _ _ _ rfl hown ⟨t.toArray⟩ rfl (by rw[hsz];simp[maxLen];omega) (by rw[hsz];omega) J4 ?_)
 intro v' w1 ho hg _;have HK:=A0 (HH.o.app (t:=t) (by rw[←hsz];exact ho) hg);clear ho hg hown;go_wp2;go_ret;exact⟨v',rfl,HK.o.1,Ae.o.trans HK.o.2⟩
theorem Amg(k:Nat)(h1:k≠1)(h2:k≠2)(h3:k≠3)(h4:k≠4)(y:Bool)(n:Int)(s:ByteArray)(r:Option Addr)(j:Int)(h:Ln base w v l)(hl:l.length<=100000):Calls Tryz.prog 244 #[v,.agg #[.int .i64 (k:Nat),.bool y,.int .i64 n,.string s,.pointer r],.int .i64 j] w (Ld base w (l++[110,117,108,108])):=by
 obtain⟨i0,hi,Gt,Bq,Bw⟩:=info_parts Nq;obtain⟨h0,Bv⟩:=h.alloc (.cells #[.int .i64 (k:Nat),.bool y,.int .i64 n,.string s,.pointer r] 225);have hown:=h0.1;have J4:=h0.2;have HH:=A0 h0;have t1:(((k:Nat):Int)==1)=false:=by rw[beq_eq_false_iff_ne];omega
 have t2:(((k:Nat):Int)==2)=false:=by rw[beq_eq_false_iff_ne];omega
 have t3:(((k:Nat):Int)==3)=false:=by rw[beq_eq_false_iff_ne];omega
 have t4:(((k:Nat):Int)==4)=false:=by rw[beq_eq_false_iff_ne];omega
 clear h1 h2 h3 h4 h h0;have Ae:=A0 Bv;clear Bv;go_enter Tryz.func244,Tryz.ntmps244;go_wp2_with (at_builtin;refine Lib.wpList_append_own_string _ rfl _ _ 85 9 rfl base 5 i0 Tryz.underlying85 Tryz.underlying9 hi Gt Bq Bw _ _ _ rfl hown ⟨[110,117,108,108].toArray⟩ rfl z5ja z5ua J4 ?_)
 intro v' w1 ho hg _;have HK:=A0 (HH.o.app (t:=[110,117,108,108]) ho hg);clear ho hg hown;go_wp2;go_ret;exact⟨v',rfl,HK.o.1,Ae.o.trans HK.o.2⟩
end
section
set_option maxRecDepth 100000
open Go.RowKit
def N3(l:List UInt8):Value:=if 500<l.length then .tuple #[.string ⟨#[]⟩,.bool false] else .tuple #[.string ⟨l.toArray⟩,.bool true]
theorem A29{w:World}{base:Nat}{T:TypeId}{v:Value}{n:Nat}{xs:List Value}(h:w.ownsRow base T 1 v n xs):∃va vc,v=.slice va n vc:=by
 rcases h.2 with⟨rfl,h0⟩|⟨g,cap,cur,rfl,_⟩
 ·exact⟨none,0,by rw[h0]⟩
 ·exact⟨_,_,rfl⟩
theorem Ael{k:Int}{y:Bool}{n:Int}{s:ByteArray}{r:Option Addr}{l:List UInt8}{w:World}(hl:l.length<=1000000)
  (ht:Calls Tryz.prog 244 #[.slice none 0 0,.agg #[.int .i64 k,.bool y,.int .i64 n,.string s,.pointer r],.int .i64 0] (w.alloc (.cells #[.int .i64 k,.bool y,.int .i64 n,.string s,.pointer r] 225)) (Ld (w.heap.size+1) (w.alloc (.cells #[.int .i64 k,.bool y,.int .i64 n,.string s,.pointer r] 225)) l)) :
  Calls Tryz.prog 201 #[.agg #[.int .i64 k,.bool y,.int .i64 n,.string s,.pointer r]] w fun e w'=>e=.returned (N3 l)/\Below w.heap.size w w':=by
 have HT:=A0 ht;clear ht;go_enter Tryz.func201,Tryz.ntmps201;go_wp2_with fail
 refine HT.o.mono ?_;rintro e w1 ⟨v',rfl,⟨h1,_⟩,h3⟩;have h2:Below w.heap.size w w1:=Below.trans (Below.alloc (Below.refl _ _) (Nat.le_refl _) _) (h3.mono z4sa);obtain⟨va,vc,rfl⟩:=A29 h1;have hcv:=r7 (w:=w1) h1;have HB:=A0 h2;clear h1 h2 h3 HT;by_cases hz:500<l.length
 ·have HZ:Hid (N3 l=.tuple #[.string ⟨#[]⟩,.bool false]):=if_pos hz;have t0:(500:Int)<((l.length:Nat):Int):=by omega
  clear hz;go_wp2;refine bodyPost_ret (v:=.tuple #[.string ⟨#[]⟩,.bool false]) (by simp[results,Tryz.results201,go_sem]) rfl ⟨by rw[HZ.o],HB.o⟩
 ·have HZ:Hid (N3 l=.tuple #[.string ⟨l.toArray⟩,.bool true]):=if_neg hz;have t0:¬(500:Int)<((l.length:Nat):Int):=by omega
  clear hz;go_wp2;refine bodyPost_ret (v:=.tuple #[.string ⟨l.toArray⟩,.bool true]) (by simp[results,Tryz.results201,go_sem]) rfl ⟨by rw[HZ.o],HB.o⟩
theorem Ln.nil(w:World):Ln w.heap.size w (.slice none 0 0) []:=⟨⟨rfl,.inl ⟨rfl,rfl⟩⟩,Nat.le_refl _⟩
theorem A4l{base:Nat}{w:World}{lv:Value}{l:List UInt8}(v:PV)(r:Option Addr)(j:Int)(h4:v.k≠4)(hn:Ht v.n)(ht:v.t.length<=100000)(arr:List (List PV))(d:Nat)(h:Ln base w lv l)(hl:l.length<=100000)(h10:Lib.TabBelow Tryz.prog base w "internal/strconv.uint64pow10" .u64 Lib.pow10Tab) :
  Calls Tryz.prog 244 #[lv,.agg #[.int .i64 (v.k:Nat),.bool v.y,.int .i64 v.n,.string ⟨v.t.toArray⟩,.pointer r],.int .i64 j] w (Ld base w (Dr arr d l v)):=by
 obtain⟨k,y,n,t,rr⟩:=v;dsimp only at *;by_cases k1:k=1
 ·subst k1;have e:Dr arr d l ⟨1,y,n,t,rr⟩=l++P3 y:=by unfold Dr;cases y <;> simp[P3]
  rw[e];exact Amb n _ r j y h hl
 by_cases k2:k=2
 ·subst k2;have e:Dr arr d l ⟨2,y,n,t,rr⟩=l++Lib.itoa n:=by unfold Dr;simp
  rw[e];exact Amd y _ r j n hn h hl h10
 by_cases k3:k=3
 ·subst k3;have e:Dr arr d l ⟨3,y,n,t,rr⟩=l++t:=by unfold Dr;simp
  rw[e];exact Amh y n r j t ht h hl
 ·have e:Dr arr d l ⟨k,y,n,t,rr⟩=l++[110,117,108,108]:=by unfold Dr;simp[k1,k2,k3,h4]
  rw[e];exact Amg k k1 k2 k3 h4 y n _ r j h hl
end
section
open Go.RowKit
theorem Sb(a b:List UInt8)(ha:a.length<=100000)(hb:b.length<=100000)(w:World):(Op.stringOp .add ⟨a.toArray⟩ ⟨b.toArray⟩).run Tryz.prog w=.ok (.string ⟨(a++b).toArray⟩) w:=run_string_add_lists w a b z4sa z4sa
end
end Go.Proofs.YtjdlndhfaaolaaaGreatDoor
