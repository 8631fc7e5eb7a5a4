import Derived.Test.YtjdlndhfaaolaaaGreatDoorY29
import Derived.Test.YtjdlndhfaaolaaaGreatDoorY33
set_option maxHeartbeats 20000000
set_option linter.all false
namespace Go.Proofs.YtjdlndhfaaolaaaGreatDoor
section
set_option maxRecDepth 100000
open Go.RowKit
def Qw(base:Nat)(β:Nat->Nat)(w:World)(arr:List (List PV)):Prop:=∀i (h:i<arr.length),∃(a:Option Addr) (c:Nat),w.heap[β i]?=some (.cells #[.slice a arr[i].length c] 356 (0,0))/\β i<base/\(arr[i].length≠0->∃g,a=some ⟨g,0,none⟩/\g<base/\∀j x,(C0 (Cj β) arr[i])[j]?=some x->w.cell? ⟨g,j,none⟩=some x)
def Qw.on{base:Nat}{β:Nat->Nat}{w w':World}{arr:List (List PV)}(h:Qw base β w arr)(hb:Below base w w'):Qw base β w' arr:=by
 intro i hi;obtain⟨a,c,h1,h2,h3⟩:=h i hi;refine⟨a,c,(hb.block _ h2).trans h1,h2,fun q=>?_⟩;obtain⟨g,e,hg,hc⟩:=h3 q;exact⟨g,e,hg,fun j x hx=>(D9 (hb.block g hg)).trans (hc j x hx)⟩
def pvG(β:Nat->Nat)(v:PV):Value:=.agg #[.n v.k,.bool v.y,.i v.n,.s v.t,.pointer (Bf β v)]
def R2(n:Nat)(v:PV):Prop:=v.k=4->∃i,v.r=some i/\i<n
def A43(base:Nat)(β:Nat->Nat)(arr:List (List PV))(d:Nat):Prop:=∀(v:PV) (w:World) (lv:Value) (l:List UInt8),F4 v->R2 arr.length v->Ln base w lv l->l.length<=600->Qw base β w arr->Lib.TabBelow Tryz.prog base w "internal/strconv.uint64pow10" .u64 Lib.pow10Tab->
 Calls Tryz.prog 244 #[lv,pvG β v,.i (4-(d:Int))] w (Nt base w (Eg arr d l v))
def Av7{base:Nat}{β:Nat->Nat}{arr:List (List PV)}{d:Nat}(hd:d<4)(IH:A43 base β arr d)(hfit:∀l∈arr,∀v∈l,F4 v/\R2 arr.length v)(hsz:∀l∈arr,l.length<=1000)(i:Nat)(hi:i<arr.length){w:World}{lv:Value}{l:List UInt8}(h:Ln base w lv l)(hl:l.length<=600)(ha:Qw base β w arr)(ht:Lib.TabBelow Tryz.prog base w "internal/strconv.uint64pow10" .u64 Lib.pow10Tab) :
  Calls Tryz.prog 274 #[lv,.p (β i),.i (3-(d:Int))] w (Nt base w (Lu (fun l' v'=>Eg arr d l' v') false (l++[91]) arr[i])):=by
 have HF:=fun v (hv:v∈arr[i])=>hfit _ (Ho hi) v hv;have hn:=hsz _ (Ho hi);have hown:=h.1;have hbs:=h.2;have hge:=h.ge;obtain⟨a,c,Bq,A2,hrow⟩:=ha i hi;generalize hvs:arr[i]=vs at *;have t0:((3-(d:Int))==4)=false:=by rw[Am];omega
 go_in;go_wp2_with (at_builtin;refine Lh w #[J5 91] 5 rfl (.tmp 13) (.tmp 14) 85 rfl base 1 1 (.int .u8 0) Tryz.underlying85 Qj rfl z4ma _ _ _ rfl rfl hown rfl z56a z4ma z4ma hbs ?_;intro g cap w1 Ev hgrow hat hg;have hbw:Below base w w1:=(Al _ _).grown hgrow hbs hge;have hq:=(hbw.block _ A2).trans Bq;have c0:=A4 hq 0 _ rfl;have lc:=A6 hq;have HL0:Hid (Ln base w1 (.slice (some ⟨g,0,none⟩) (l.length+1) cap) (l++[91])):=⟨by simpa using Ev,Fu hbs hbw.size⟩;have HBw:=A0 hbw;clear Ev hgrow hat hg hbw hq)
 go_loopg [0,21] vs.length (fun k v0 v21 wr=>∃(q:Nat) (l':List UInt8),v21=.i q/\q+k=vs.length/\Ln base wr v0 l'/\l'.length<=3000/\Hid (Lu (fun l' v'=>Eg arr d l' v') false (l++[91]) vs=Lu (fun l' v'=>Eg arr d l' v') (decide (0<q)) l' (vs.drop q))/\Below base w wr)
 case atStart=>exact⟨0,l++[91],rfl,by omega,by simpa using HL0.o,by simp;omega,A0 rfl,HBw.o⟩
 case round=>
  obtain⟨q,l',rfl,hqk,hln,hl',HE,hbr⟩:=hrel;obtain⟨va,vc,rfl⟩:=A80 hln.1;have hbs2:=hln.2;have hown2:=hln.1;have hge2:=hln.ge;by_cases hlt:q<vs.length
  ·have t1:((q:Nat):Int)<((vs.length:Nat):Int):=by omega
   obtain⟨g1,rfl,Kj,hcell⟩:=hrow z4ma;have lg:=Cb Kj hbs2;have d0:=(D9 (hbr.block g1 Kj)).trans (hcell (q*5+0) _ ((D8 (sz:=5) (fun _=>rfl) vs q 0 hlt z4ma).trans rfl));have d1:=(D9 (hbr.block g1 Kj)).trans (hcell (q*5+1) _ ((D8 (sz:=5) (fun _=>rfl) vs q 1 hlt z4ma).trans rfl));have d2:=(D9 (hbr.block g1 Kj)).trans (hcell (q*5+2) _ ((D8 (sz:=5) (fun _=>rfl) vs q 2 hlt z4ma).trans rfl));have d3:=(D9 (hbr.block g1 Kj)).trans (hcell (q*5+3) _ ((D8 (sz:=5) (fun _=>rfl) vs q 3 hlt z4ma).trans rfl));have d4:=(D9 (hbr.block g1 Kj)).trans (hcell (q*5+4) _ ((D8 (sz:=5) (fun _=>rfl) vs q 4 hlt z4ma).trans rfl));rw[Ma]at d0;have hdr:vs.drop q=vs[q]::vs.drop (q+1):=Gk hlt;have HFx:=HF _ (Ho hlt);rw[hdr]at HE;generalize vs[q]=x at *;by_cases h5:500<l'.length
   ·have t2:(500:Int)<((l'.length:Nat):Int):=by omega
    have HE1:Hid (Lu (fun l' v'=>Eg arr d l' v') false (l++[91]) vs=l'):=by show _=_;rw[HE.o];unfold Lu;rw[A7 h5]
    go_wp2;go_ret;exact⟨_,rfl,by rw[HE1.o];exact(hln.alloc _).1,hbr.trans (hln.alloc _).2⟩
   ·have t2:¬(500:Int)<((l'.length:Nat):Int):=by omega
    have e4:(3-(d:Int))+1=4-(d:Int):=by omega
    by_cases h0:q=0
    ·subst h0;have HE1:Hid (Lu (fun l' v'=>Eg arr d l' v') false (l++[91]) vs=Lu (fun l' v'=>Eg arr d l' v') true (Eg arr d l' x) (vs.drop 1)):=by show _=_;rw[HE.o];exact A1 h5
     have HC:=A0 (IH x (wr.alloc (.cells #[.n x.k,.bool x.y,.i x.n,.s x.t,.pointer (Bf β x)] 225)) _ _ HFx.1 HFx.2 (hln.alloc _).1 z4ma (ha.on (hbr.trans (hln.alloc _).2)) (ht.on (hbr.trans (hln.alloc _).2)));go_wp2_with fail
     refine HC.o.mono ?_;rintro e w2 ⟨v2,rfl,Gx,Ad⟩;have Fb:=A0 Gx;have Ab:=hbr.trans ((hln.alloc _).2.trans Ad);have HN:=A0 (A2m (fun l hl v hv=>(hfit l hl v hv).1) d x HFx.1 l' z4ma);go_wp2;go_roundg (gk-1)
     case measure=>omega
     case rel=>exact⟨1,_,by go_num,by omega,Fb.o,by have:=HN.o;omega,HE1,Ab⟩
    ·have t3:(0:Int)<((q:Nat):Int):=by omega
     have HE1:Hid (Lu (fun l' v'=>Eg arr d l' v') false (l++[91]) vs=Lu (fun l' v'=>Eg arr d l' v') true (Eg arr d (l'++[44]) x) (vs.drop (q+1))):=by show _=_;rw[HE.o,show decide (0<q)=true from Sa z4ma];exact A1 h5
     have hA2:=(hln.alloc (.cells #[.n x.k,.bool x.y,.i x.n,.s x.t,.pointer (Bf β x)] 225));have hz9:(wr.alloc (.cells #[.n x.k,.bool x.y,.i x.n,.s x.t,.pointer (Bf β x)] 225)).heap.size=wr.heap.size+1:=by simp
     have hown4:=hA2.1.1;have hbs4:=hA2.1.2;have hge4:=hA2.1.ge;have D6:=hbr.trans hA2.2;go_wp2_with (at_builtin;refine Lh (wr.alloc (.cells #[.n x.k,.bool x.y,.i x.n,.s x.t,.pointer (Bf β x)] 225)) #[J5 44] 5 rfl (.tmp 32) (.tmp 33) 85 rfl base 1 1 (.int .u8 0) Tryz.underlying85 Qj rfl z4ma _ _ _ rfl (by rw[hz9];rfl) hown4 rfl z56a z4ma z4ma hbs4 ?_;intro g2 cap2 w2 hown3 hgrow2 _ _;have Ad:=(Al base (wr.alloc (.cells #[.n x.k,.bool x.y,.i x.n,.s x.t,.pointer (Bf β x)] 225))).grown hgrow2 hbs4 hge4;have hit:=(hgrow2.block wr.heap.size z4ra (fun e=>absurd (Bs hown2 _ e.symm) (Nat.lt_irrefl _))).trans (Bp wr (.cells #[.n x.k,.bool x.y,.i x.n,.s x.t,.pointer (Bf β x)] 225));have i0:=A4 hit 0 _ rfl;have i1:=A4 hit 1 _ rfl;have i2:=A4 hit 2 _ rfl;have i3:=A4 hit 3 _ rfl;have i4:=A4 hit 4 _ rfl;have li:=A6 hit;have Fb:Hid (Ln base w2 (.slice (some ⟨g2,0,none⟩) (l'.length+1) cap2) (l'++[44])):=⟨by simpa using hown3,Fu hbs4 Ad.size⟩;have Ab:=A0 (D6.trans Ad);clear hown3 hgrow2 Ad hit)
     have HC:=A0 (IH x _ _ _ HFx.1 HFx.2 Fb.o z4qa (ha.on Ab) (ht.on Ab));refine HC.o.mono ?_;rintro e w3 ⟨v3,rfl,hl3,Ay⟩;have Ba:=Ab.trans Ay;have HN:=A0 (A2m (fun l hl v hv=>(hfit l hl v hv).1) d x HFx.1 (l'++[44]) z4qa);go_wp2;go_roundg (gk-1)
     case measure=>omega
     case rel=>exact⟨q+1,_,by go_num,by omega,hl3,by have:=HN.o;omega,by rw[show decide (0<q+1)=true from Sa z4ma];exact HE1,Ba⟩
  ·have HE1:Hid (Lu (fun l' v'=>Eg arr d l' v') false (l++[91]) vs=l'++[93]):=by show _=_;rw[HE.o,Pz z4ma];unfold Lu;rfl
   have t1:¬((q:Nat):Int)<((vs.length:Nat):Int):=by omega
   go_wp2_with (at_builtin;refine Lh wr #[J5 93] 5 rfl (.tmp 41) (.tmp 42) 85 rfl base 1 1 (.int .u8 0) Tryz.underlying85 Qj rfl z4ma _ _ _ rfl rfl hown2 rfl z56a z4ma z4ma hbs2 ?_;intro g2 cap2 w2 hown3 hgrow2 _ _;have Ad:Below base wr w2:=(Al _ _).grown hgrow2 hbs2 hge2;have Fb:Hid (Ln base w2 (.slice (some ⟨g2,0,none⟩) (l'.length+1) cap2) (l'++[93])):=⟨by simpa using hown3,Fu hbs2 Ad.size⟩;have Ab:=A0 (hbr.trans Ad);clear hown3 hgrow2 Ad)
   go_ret;exact⟨_,rfl,by rw[HE1.o];exact Fb.o,Ab⟩
def A9u{base:Nat}{β:Nat->Nat}{j:Int}{y:Bool}{n:Int}{t:ByteArray}{i:Nat}{w:World}{lv:Value}{l r:List UInt8}(h:Ln base w lv l)
  (hc:∀W:World,Below base w W->Ln base W lv l->Calls Tryz.prog 274 #[lv,.p (β i),.i j] W (Nt base W r)) :
  Calls Tryz.prog 244 #[lv,.agg #[.i 4,.bool y,.i n,.string t,.p (β i)],.i j] w (Nt base w r):=by
 obtain⟨h0,Bq⟩:=h.alloc (.cells #[.i 4,.bool y,.i n,.string t,.p (β i)] 225);have HC:=hc _ Bq h0;go_in;go_wp2_with fail
 refine HC.mono ?_;rintro e w1 ⟨v',rfl,h1,h2⟩;have HB:=Bq.trans h2;go_wp2;go_ret;exact⟨v',rfl,h1,HB⟩
def Av4{base:Nat}{p:Value}{w:World}{lv:Value}{l:List UInt8}(h:Ln base w lv l)(hl:l.length<=100000):Calls Tryz.prog 274 #[lv,p,.i 4] w (Nt base w (l++[91,46,46,93])):=by
 obtain⟨i0,hi,I6,Cu,Dg⟩:=Qr Qj;have hown:=h.1;have hb:=h.2;go_in;go_wp2_with (at_builtin;refine X8 _ rfl _ _ 85 9 rfl base 5 i0 Tryz.underlying85 Tryz.underlying9 hi I6 Cu Dg _ _ _ rfl hown ⟨[91,46,46,93].toArray⟩ rfl z5fa z5ra hb ?_)
 intro v' w1 ho hg _;have HK:=h.app (t:=[91,46,46,93]) ho hg;go_wp2;go_ret;exact⟨v',rfl,HK⟩
def Avb{base:Nat}{β:Nat->Nat}{arr:List (List PV)}(hfit:∀l∈arr,∀v∈l,F4 v/\R2 arr.length v)(hsz:∀l∈arr,l.length<=1000):∀d,d<=4->A43 base β arr d:=by
 intro d;induction d with
 | zero=>
  intro _ v w lv l hv hr h hl ha ht;by_cases h4:v.k=4
  ·obtain⟨i,hi,hia⟩:=hr h4;obtain⟨k,y,n,t,r⟩:=v;dsimp only at h4 hi;subst h4 hi;exact A9u h fun W _ hW=>Av4 hW z4ma
  ·exact A9v v (Bf β v) _ h4 hv.2.1 (by have:=hv.1;omega) arr 0 h z4ma ht
 | succ d ih=>
  intro hd v w lv l hv hr h hl ha ht;by_cases h4:v.k=4
  ·obtain⟨i,hi,hia⟩:=hr h4;obtain⟨k,y,n,t,r⟩:=v;dsimp only at h4 hi;subst h4 hi;have e:Eg arr (d+1) l ⟨4,y,n,t,some i⟩=Lu (fun l' v'=>Eg arr d l' v') false (l++[91]) arr[i]:=by
    show Lu _ false (l++[91]) ((arr[i]?).getD [])=_;rw[Eh hia];rfl
   rw[e,show(4:Int)-((d+1:Nat):Int)=3-(d:Int) by omega];exact A9u h fun W hb hW=>Av7 z4ma (ih z4ma) hfit hsz i hia hW hl (ha.on hb) (ht.on hb)
  ·exact A9v v (Bf β v) _ h4 hv.2.1 (by have:=hv.1;omega) arr (d+1) h z4ma ht
def A1m{β:Nat->Nat}{arr:List (List PV)}(v:PV)(hv:F4 v)(hr:R2 arr.length v)(hfit:∀l∈arr,∀v∈l,F4 v/\R2 arr.length v)(hsz:∀l∈arr,l.length<=1000)(w:World)(ha:Qw w.heap.size β w arr)(h10:Hr w) :
  Calls Tryz.prog 201 #[.agg #[.n v.k,.bool v.y,.i v.n,.s v.t,.pointer (Bf β v)]] w fun e w'=>e=.returned (Pn (Eg arr 4 [] v))/\Bw w w':=by
 have hb:Bw w (w.alloc (.cells #[.n v.k,.bool v.y,.i v.n,.s v.t,.pointer (Bf β v)] 225)):=Ah (Al _ _) (Af _) _;have hz:(w.alloc (.cells #[.n v.k,.bool v.y,.i v.n,.s v.t,.pointer (Bf β v)] 225)).heap.size=w.heap.size+1:=by simp
 have hA:Qw (w.heap.size+1) β (w.alloc (.cells #[.n v.k,.bool v.y,.i v.n,.s v.t,.pointer (Bf β v)] 225)) arr:=by
  intro i hi;obtain⟨a,c,h1,h2,h3⟩:=ha.on hb i hi;refine⟨a,c,h1,by omega,fun q=>?_⟩;obtain⟨g,e,hg,hc⟩:=h3 q;exact⟨g,e,by omega,hc⟩
 refine Am4 (by have:=A2m (fun l hl v hv=>(hfit l hl v hv).1) 4 v hv [] z4ra;omega) ?_;have hn:=Ln.nil (w.alloc (.cells #[.n v.k,.bool v.y,.i v.n,.s v.t,.pointer (Bf β v)] 225));have ht:Lib.TabBelow Tryz.prog (w.heap.size+1) (w.alloc (.cells #[.n v.k,.bool v.y,.i v.n,.s v.t,.pointer (Bf β v)] 225)) "internal/strconv.uint64pow10" .u64 Lib.pow10Tab:=fun W hW=>Lib.tabBelow_of_tabIs h10 W (hb.trans (hW.mono z4ma));rw[hz]at hn;exact Avb hfit hsz 4 (Af _) v _ _ _ hv hr hn z4ra hA ht
