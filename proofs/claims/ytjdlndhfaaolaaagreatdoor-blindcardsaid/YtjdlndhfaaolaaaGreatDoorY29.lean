import Derived.Test.YtjdlndhfaaolaaaGreatDoorY15
import Derived.Test.YtjdlndhfaaolaaaGreatDoorY28
set_option maxHeartbeats 20000000
set_option linter.defProp false
namespace Go.Proofs.YtjdlndhfaaolaaaGreatDoor
section
set_option maxRecDepth 100000
open Go.RowKit
def Hr(w:World):Prop:=Lib.TabIs Tryz.prog w "internal/strconv.uint64pow10" .u64 Lib.pow10Tab
def Ln(base:Nat)(w:World)(v:Value)(l:List UInt8):Prop:=w.ownsRow base 5 1 v l.length (l.map J5)/\base<=w.heap.size
def Nt(base:Nat)(w:World)(l:List UInt8)(e:Ending)(w':World):Prop:=∃v',e=.returned v'/\Ln base w' v' l/\Below base w w'
def Ln.ge{base:Nat}{w:World}{v:Value}{l:List UInt8}(h:Ln base w v l):∀k,v.ownBlock=some k->base<=k:=by
 obtain⟨⟨_,⟨rfl,_⟩|⟨g,cap,cur,rfl,e2,_⟩⟩,_⟩:=h
 ·intro k hk;cases hk
 ·intro k hk;have:g=k:=by simpa [Value.ownBlock]using hk
  rw[←this];exact e2
def Ln.alloc{base:Nat}{w:World}{v:Value}{l:List UInt8}(h:Ln base w v l)(o:Obj):Ln base (w.alloc o) v l/\Below base w (w.alloc o):=⟨⟨h.1.alloc o,by simp;have:=h.2;omega⟩,Ah (Al _ _) h.2 _⟩
def Ln.app{base:Nat}{w w1:World}{v v':Value}{l:List UInt8}(h:Ln base w v l){t:List UInt8}(ho:w1.ownsRow base 5 1 v' (l.length+t.length) (l.map J5++t.map J5))(hg:w.grownBy w1 v.ownBlock):Ln base w1 v' (l++t)/\Below base w w1:=by
 refine⟨⟨?_,Fu h.2 hg.size⟩,(Al _ _).grown hg h.2 h.ge⟩;rw[Ds,V0];exact ho
variable {base:Nat} {w:World} {v:Value} {l:List UInt8}
def z5fa {P:Prop} (h:P:=by simp[ByteArray.size,maxLen];omega):P:=h
def z5ra {P:Prop} (h:P:=by simp[ByteArray.size];omega):P:=h
def Adr(c:Bool)(h:Ln base w v l)(hl:l.length<=100000):Calls Tryz.prog 287 #[v,.bool c] w (Nt base w (l++Sl c)):=by
 obtain⟨i0,hi,I6,Cu,Dg⟩:=Qr Qj;have hown:=h.1;have hb:=h.2;cases c
 ·go_in;go_wp2_with (at_builtin;refine X8 _ rfl _ _ 85 9 rfl base 5 i0 Tryz.underlying85 Tryz.underlying9 hi I6 Cu Dg _ _ _ rfl hown ⟨[102,97,108,115,101].toArray⟩ rfl z5fa z5ra hb ?_)
  intro v' w1 ho hg _;have HK:=A0 (h.app (t:=Sl false) ho hg);go_wp2;go_ret;exact⟨v',rfl,HK.o⟩
 ·go_in;go_wp2_with (at_builtin;refine X8 _ rfl _ _ 85 9 rfl base 5 i0 Tryz.underlying85 Tryz.underlying9 hi I6 Cu Dg _ _ _ rfl hown ⟨[116,114,117,101].toArray⟩ rfl z5fa z5ra hb ?_)
  intro v' w1 ho hg _;have HK:=A0 (h.app (t:=Sl true) ho hg);go_wp2;go_ret;exact⟨v',rfl,HK.o⟩
def Ads(c:Bool)(h:Ln base w v l)(hl:l.length<=100000):Calls Tryz.prog 272 #[v,.bool c] w (Nt base w (l++Sl c)):=by
 have HA:=Adr c h hl;go_in;go_wp2_with fail
 refine HA.mono ?_;rintro e w1 ⟨v',rfl,h1⟩;go_wp2;go_ret;exact⟨v',rfl,h1⟩
def Av5(y:Bool)(s:ByteArray)(r:Option Addr)(j n:Int)(hn:Fk n)(h:Ln base w v l)(hl:l.length<=100000)(ht:Lib.TabBelow Tryz.prog base w "internal/strconv.uint64pow10" .u64 Lib.pow10Tab):Calls Tryz.prog 244 #[v,.agg #[.i 2,.bool y,.i n,.string s,.pointer r],.i j] w (Nt base w (l++Lib.itoa n)):=by
 obtain⟨h0,Bq⟩:=h.alloc (.cells #[.i 2,.bool y,.i n,.string s,.pointer r] 225);have HA:=Tryz.strconv_AppendInt_10 base l.length n hn.1 hn.2 v (l.map J5) (w.alloc (.cells #[.i 2,.bool y,.i n,.string s,.pointer r] 225)) h0.1 h0.2 z4ma (ht.on Bq);have HS:=A0 h.2;go_in;go_wp2_with fail
 refine HA.mono ?_;rintro e w1 ⟨v',rfl,h1,h2,_⟩;have HB:Below base w w1:=Bq.trans h2;go_wp2;go_ret;refine⟨v',rfl,⟨?_,Fu HS.o HB.size⟩,HB⟩;rw[Ds,V0];exact h1
def Av3(n:Int)(s:ByteArray)(r:Option Addr)(j:Int)(c:Bool)(h:Ln base w v l)(hl:l.length<=100000):Calls Tryz.prog 244 #[v,.agg #[.i 1,.bool c,.i n,.string s,.pointer r],.i j] w (Nt base w (l++Sl c)):=by
 obtain⟨h0,Bq⟩:=h.alloc (.cells #[.i 1,.bool c,.i n,.string s,.pointer r] 225);have HA:=Ads c h0 hl;go_in;go_wp2_with fail
 refine HA.mono ?_;rintro e w1 ⟨v',rfl,h1,h2⟩;have HB:Below base w w1:=Bq.trans h2;go_wp2;go_ret;exact⟨v',rfl,h1,HB⟩
def Av9(y:Bool)(n:Int)(r:Option Addr)(j:Int)(t:List UInt8)(ht:t.length<=100000)(h:Ln base w v l)(hl:l.length<=100000):Calls Tryz.prog 244 #[v,.agg #[.i 3,.bool y,.i n,.s t,.pointer r],.i j] w (Nt base w (l++t)):=by
 obtain⟨i0,hi,I6,Cu,Dg⟩:=Qr Qj;obtain⟨h0,Bq⟩:=h.alloc (.cells #[.i 3,.bool y,.i n,.s t,.pointer r] 225);have hown:=h0.1;have It:=h0.2;have hsz:(⟨t.toArray⟩:ByteArray).size=t.length:=by simp[ByteArray.size]
 go_in;go_wp2_with (at_builtin;refine X8 _ rfl _ _ 85 9 rfl base 5 i0 Tryz.underlying85 Tryz.underlying9 hi I6 Cu Dg _ _ _ rfl hown ⟨t.toArray⟩ rfl (by rw[hsz];simp[maxLen];omega) (by rw[hsz];omega) It ?_)
 intro v' w1 ho hg _;have HK:=h0.app (t:=t) (by rw[←hsz];exact ho) hg;go_wp2;go_ret;exact⟨v',rfl,HK.1,Bq.trans HK.2⟩
def Av8(k:Nat)(h1:k≠1)(h2:k≠2)(h3:k≠3)(h4:k≠4)(y:Bool)(n:Int)(s:ByteArray)(r:Option Addr)(j:Int)(h:Ln base w v l)(hl:l.length<=100000):Calls Tryz.prog 244 #[v,.agg #[.n k,.bool y,.i n,.string s,.pointer r],.i j] w (Nt base w (l++[110,117,108,108])):=by
 obtain⟨i0,hi,I6,Cu,Dg⟩:=Qr Qj;obtain⟨h0,Bq⟩:=h.alloc (.cells #[.n k,.bool y,.i n,.string s,.pointer r] 225);have hown:=h0.1;have It:=h0.2;have t1:(((k:Nat):Int)==1)=false:=by rw[Am];omega
 have t2:(((k:Nat):Int)==2)=false:=by rw[Am];omega
 have t3:(((k:Nat):Int)==3)=false:=by rw[Am];omega
 have t4:(((k:Nat):Int)==4)=false:=by rw[Am];omega
 go_in;go_wp2_with (at_builtin;refine X8 _ rfl _ _ 85 9 rfl base 5 i0 Tryz.underlying85 Tryz.underlying9 hi I6 Cu Dg _ _ _ rfl hown ⟨[110,117,108,108].toArray⟩ rfl z5fa z5ra It ?_)
 intro v' w1 ho hg _;have HK:=h0.app (t:=[110,117,108,108]) ho hg;go_wp2;go_ret;exact⟨v',rfl,HK.1,Bq.trans HK.2⟩
end
section
set_option maxRecDepth 100000
open Go.RowKit
def Pn(l:List UInt8):Value:=if 500<l.length then .tuple #[.string ⟨#[]⟩,.bool false] else .tuple #[.s l,.bool true]
def A80{w:World}{base:Nat}{T:TypeId}{v:Value}{n:Nat}{xs:List Value}(h:w.ownsRow base T 1 v n xs):∃va vc,v=.slice va n vc:=by
 rcases h.2 with⟨rfl,h0⟩|⟨g,cap,cur,rfl,_⟩
 ·exact⟨none,0,by rw[h0]⟩
 ·exact⟨_,_,rfl⟩
def Am4{k:Int}{y:Bool}{n:Int}{s:ByteArray}{r:Option Addr}{l:List UInt8}{w:World}(hl:l.length<=1000000)
  (ht:Calls Tryz.prog 244 #[.slice none 0 0,.agg #[.i k,.bool y,.i n,.string s,.pointer r],.i 0] (w.alloc (.cells #[.i k,.bool y,.i n,.string s,.pointer r] 225)) (Nt (w.heap.size+1) (w.alloc (.cells #[.i k,.bool y,.i n,.string s,.pointer r] 225)) l)) :
  Calls Tryz.prog 201 #[.agg #[.i k,.bool y,.i n,.string s,.pointer r]] w fun e w'=>e=.returned (Pn l)/\Bw w w':=by
 go_in;go_wp2_with fail
 refine ht.mono ?_;rintro e w1 ⟨v',rfl,⟨h1,_⟩,h3⟩;have h2:Bw w w1:=Ib (Ah (Al _ _) (Af _) _) (h3.mono z4ma);obtain⟨va,vc,rfl⟩:=A80 h1;have hcv:=A57 (w:=w1) h1;by_cases hz:500<l.length
 ·have HZ:Hid (Pn l=.tuple #[.string ⟨#[]⟩,.bool false]):=A7 hz;have t0:(500:Int)<((l.length:Nat):Int):=by omega
  go_wp2;refine B9 (v:=.tuple #[.string ⟨#[]⟩,.bool false]) (by simp[results,Tryz.results201,go_sem]) rfl ⟨by rw[HZ.o],h2⟩
 ·have HZ:Hid (Pn l=.tuple #[.s l,.bool true]):=A1 hz;have t0:¬(500:Int)<((l.length:Nat):Int):=by omega
  go_wp2;refine B9 (v:=.tuple #[.s l,.bool true]) (by simp[results,Tryz.results201,go_sem]) rfl ⟨by rw[HZ.o],h2⟩
def Ln.nil(w:World):Ln w.heap.size w (.slice none 0 0) []:=⟨⟨rfl,.inl ⟨rfl,rfl⟩⟩,Af _⟩
def A9v{base:Nat}{w:World}{lv:Value}{l:List UInt8}(v:PV)(r:Option Addr)(j:Int)(h4:v.k≠4)(hn:Fk v.n)(ht:v.t.length<=100000)(arr:List (List PV))(d:Nat)(h:Ln base w lv l)(hl:l.length<=100000)(h10:Lib.TabBelow Tryz.prog base w "internal/strconv.uint64pow10" .u64 Lib.pow10Tab) :
  Calls Tryz.prog 244 #[lv,.agg #[.n v.k,.bool v.y,.i v.n,.s v.t,.pointer r],.i j] w (Nt base w (Eg arr d l v)):=by
 obtain⟨k,y,n,t,rr⟩:=v;dsimp only at *;by_cases k1:k=1
 ·subst k1;have e:Eg arr d l ⟨1,y,n,t,rr⟩=l++Sl y:=by unfold Eg;cases y <;> simp[Sl]
  rw[e];exact Av3 n _ r j y h hl
 by_cases k2:k=2
 ·subst k2;have e:Eg arr d l ⟨2,y,n,t,rr⟩=l++Lib.itoa n:=by unfold Eg;simp
  rw[e];exact Av5 y _ r j n hn h hl h10
 by_cases k3:k=3
 ·subst k3;have e:Eg arr d l ⟨3,y,n,t,rr⟩=l++t:=by unfold Eg;simp
  rw[e];exact Av9 y n r j t ht h hl
 ·have e:Eg arr d l ⟨k,y,n,t,rr⟩=l++[110,117,108,108]:=by unfold Eg;simp[k1,k2,k3,h4]
  rw[e];exact Av8 k k1 k2 k3 h4 y n _ r j h hl
