import Derived.Test.YtjdlndhfaaolaaaGreatDoorX30
import Derived.Test.YtjdlndhfaaolaaaGreatDoorX36
set_option maxHeartbeats 20000000
namespace Go.Proofs.YtjdlndhfaaolaaaGreatDoor
section
set_option maxRecDepth 100000
open Go.RowKit
def Nz(base:Nat)(β:Nat->Nat)(w:World)(arr:List (List PV)):Prop:=∀i (h:i<arr.length),∃(a:Option Addr) (c:Nat),w.heap[β i]?=some (.cells #[.slice a arr[i].length c] 356 (0,0))/\β i<base/\(arr[i].length≠0->∃g,a=some ⟨g,0,none⟩/\g<base/\∀j x,(C5 (By β) arr[i])[j]?=some x->w.cell? ⟨g,j,none⟩=some x)
theorem Nz.on{base:Nat}{β:Nat->Nat}{w w':World}{arr:List (List PV)}(h:Nz base β w arr)(hb:Below base w w'):Nz base β w' arr:=by
 intro i hi;obtain⟨a,c,h1,h2,h3⟩:=h i hi;refine⟨a,c,(hb.block _ h2).trans h1,h2,fun q=>?_⟩;obtain⟨g,e,hg,hc⟩:=h3 q;exact⟨g,e,hg,fun j x hx=>(World.cell?_of_block (hb.block g hg)).trans (hc j x hx)⟩
def pvG(β:Nat->Nat)(v:PV):Value:=.agg #[.int .i64 (v.k:Nat),.bool v.y,.int .i64 v.n,.string ⟨v.t.toArray⟩,.pointer (B5 β v)]
def O3(n:Nat)(v:PV):Prop:=v.k=4->∃i,v.r=some i/\i<n
def b5(base:Nat)(β:Nat->Nat)(arr:List (List PV))(d:Nat):Prop:=∀(v:PV) (w:World) (lv:Value) (l:List UInt8),Ef v->O3 arr.length v->Ln base w lv l->l.length<=600->Nz base β w arr->Lib.TabBelow Tryz.prog base w "internal/strconv.uint64pow10" .u64 Lib.pow10Tab->
 Calls Tryz.prog 244 #[lv,pvG β v,.int .i64 (4-(d:Int))] w (Ld base w (Dr arr d l v))
theorem Amf{base:Nat}{β:Nat->Nat}{arr:List (List PV)}{d:Nat}(hd:d<4)(IH:b5 base β arr d)(hfit:∀l∈arr,∀v∈l,Ef v/\O3 arr.length v)(hsz:∀l∈arr,l.length<=1000)(i:Nat)(hi:i<arr.length){w:World}{lv:Value}{l:List UInt8}(h:Ln base w lv l)(hl:l.length<=600)(ha:Nz base β w arr)(ht:Lib.TabBelow Tryz.prog base w "internal/strconv.uint64pow10" .u64 Lib.pow10Tab) :
  Calls Tryz.prog 274 #[lv,.pointer (some ⟨β i,0,none⟩),.int .i64 (3-(d:Int))] w (Ld base w (Jz (fun l' v'=>Dr arr d l' v') false (l++[91]) arr[i])):=by
 have HIH:=A0 IH;have HA:=A0 ha;have HT:=A0 ht;have HFa:=A0 hfit;have HF:=A0 (fun v (hv:v∈arr[i])=>hfit _ (List.getElem_mem hi) v hv);have hn:=hsz _ (List.getElem_mem hi);have hown:=h.1;have hbs:=h.2;have hge:=h.ge;obtain⟨a,c,Bv,A1,hrow⟩:=ha i hi;have HRow:=A0 hrow;generalize hvs:arr[i]=vs at *;have t0:((3-(d:Int))==4)=false:=by rw[beq_eq_false_iff_ne];omega
 clear ha ht IH hfit hsz h hrow;go_enter Tryz.func274,Tryz.ntmps274;go_wp2_with (at_builtin;refine Ju w #[Hx 91] 5 rfl (.tmp 13) (.tmp 14) 85 rfl base 1 1 (.int .u8 0) Tryz.underlying85 Nq rfl z4sa _ _ _ rfl rfl hown rfl (by intro u hu;simp at hu;subst hu;rfl) z4sa z4sa hbs ?_;intro g cap w1 Es hgrow hat hg;have hbw:Below base w w1:=(Below.refl _ _).grown hgrow hbs hge;have hq:=(hbw.block _ A1).trans Bv;have c0:=A7 hq 0 _ rfl;have lc:=A6 hq;have HL0:Hid (Ln base w1 (.slice (some ⟨g,0,none⟩) (l.length+1) cap) (l++[91])):=⟨by simpa using Es,Nat.le_trans hbs hbw.size⟩;have HBw:=A0 hbw;clear Es hgrow hat hg hbw hq)
 go_loopg [0,21] vs.length (fun k v0 v21 wr=>∃(q:Nat) (l':List UInt8),v21=.int .i64 q/\q+k=vs.length/\Ln base wr v0 l'/\l'.length<=3000/\Hid (Jz (fun l' v'=>Dr arr d l' v') false (l++[91]) vs=Jz (fun l' v'=>Dr arr d l' v') (decide (0<q)) l' (vs.drop q))/\Below base w wr)
 case atStart=>exact⟨0,l++[91],rfl,by omega,by simpa using HL0.o,by simp;omega,A0 rfl,HBw.o⟩
 case round=>
  obtain⟨q,l',rfl,hqk,hln,hl',HE,hbr⟩:=hrel;obtain⟨va,vc,rfl⟩:=A29 hln.1;have HL:=A0 hln;have HB:=A0 hbr;have hbs2:=hln.2;have hown2:=hln.1;have hge2:=hln.ge;clear hbr hln HL0 HBw hown hge;by_cases hlt:q<vs.length
  ·have t1:((q:Nat):Int)<((vs.length:Nat):Int):=by omega
   obtain⟨g1,rfl,Ig,hcell⟩:=HRow.o z4sa;have lg:=Nat.lt_of_lt_of_le Ig hbs2;have d0:=(World.cell?_of_block (HB.o.block g1 Ig)).trans (hcell (q*5+0) _ ((G5 (sz:=5) (fun _=>rfl) vs q 0 hlt z4sa).trans rfl));have d1:=(World.cell?_of_block (HB.o.block g1 Ig)).trans (hcell (q*5+1) _ ((G5 (sz:=5) (fun _=>rfl) vs q 1 hlt z4sa).trans rfl));have d2:=(World.cell?_of_block (HB.o.block g1 Ig)).trans (hcell (q*5+2) _ ((G5 (sz:=5) (fun _=>rfl) vs q 2 hlt z4sa).trans rfl));have d3:=(World.cell?_of_block (HB.o.block g1 Ig)).trans (hcell (q*5+3) _ ((G5 (sz:=5) (fun _=>rfl) vs q 3 hlt z4sa).trans rfl));have d4:=(World.cell?_of_block (HB.o.block g1 Ig)).trans (hcell (q*5+4) _ ((G5 (sz:=5) (fun _=>rfl) vs q 4 hlt z4sa).trans rfl));rw[Nat.add_zero]at d0;have hdr:vs.drop q=vs[q]::vs.drop (q+1):=List.drop_eq_getElem_cons hlt;have HFx:=A0 (HF.o _ (List.getElem_mem hlt));rw[hdr]at HE;clear hcell hdr;generalize vs[q]=x at *;by_cases h5:500<l'.length
   ·have t2:(500:Int)<((l'.length:Nat):Int):=by omega
    have HE1:Hid (Jz (fun l' v'=>Dr arr d l' v') false (l++[91]) vs=l'):=by show _=_;rw[HE.o];unfold Jz;rw[if_pos h5]
    clear h5 HE;go_wp2;go_ret;exact⟨_,rfl,by rw[HE1.o];exact(HL.o.alloc _).1,HB.o.trans (HL.o.alloc _).2⟩
   ·have t2:¬(500:Int)<((l'.length:Nat):Int):=by omega
    have e4:(3-(d:Int))+1=4-(d:Int):=by omega
    by_cases h0:q=0
    ·subst h0;have HE1:Hid (Jz (fun l' v'=>Dr arr d l' v') false (l++[91]) vs=Jz (fun l' v'=>Dr arr d l' v') true (Dr arr d l' x) (vs.drop 1)):=by show _=_;rw[HE.o];exact if_neg h5
     have HC:=A0 (HIH.o x (wr.alloc (.cells #[.int .i64 (x.k:Nat),.bool x.y,.int .i64 x.n,.string ⟨x.t.toArray⟩,.pointer (B5 β x)] 225)) _ _ HFx.o.1 HFx.o.2 (HL.o.alloc _).1 z4sa (HA.o.on (HB.o.trans (HL.o.alloc _).2)) (HT.o.on (HB.o.trans (HL.o.alloc _).2)));clear h5 HE;go_wp2_with fail
     refine HC.o.mono ?_;rintro e w2 ⟨v2,rfl,Ip,A9⟩;have HL2:=A0 Ip;have Aa:=A0 (HB.o.trans ((HL.o.alloc _).2.trans A9));have HN:=A0 (Zg (fun l hl v hv=>(HFa.o l hl v hv).1) d x HFx.o.1 l' z4sa);clear Ip A9 HC;go_wp2;go_roundg (gk-1)
     case measure=>omega
     case rel=>exact⟨1,_,by go_num,by omega,HL2.o,by have:=HN.o;omega,HE1,Aa.o⟩
    ·have t3:(0:Int)<((q:Nat):Int):=by omega
     have HE1:Hid (Jz (fun l' v'=>Dr arr d l' v') false (l++[91]) vs=Jz (fun l' v'=>Dr arr d l' v') true (Dr arr d (l'++[44]) x) (vs.drop (q+1))):=by show _=_;rw[HE.o,show decide (0<q)=true from decide_eq_true z4sa];exact if_neg h5
     clear HE;have hA2:=(HL.o.alloc (.cells #[.int .i64 (x.k:Nat),.bool x.y,.int .i64 x.n,.string ⟨x.t.toArray⟩,.pointer (B5 β x)] 225));have hz9:(wr.alloc (.cells #[.int .i64 (x.k:Nat),.bool x.y,.int .i64 x.n,.string ⟨x.t.toArray⟩,.pointer (B5 β x)] 225)).heap.size=wr.heap.size+1:=by simp
     have hown4:=hA2.1.1;have hbs4:=hA2.1.2;have hge4:=hA2.1.ge;have Cs:=A0 (HB.o.trans hA2.2);clear hA2;go_wp2_with (at_builtin;refine Ju (wr.alloc (.cells #[.int .i64 (x.k:Nat),.bool x.y,.int .i64 x.n,.string ⟨x.t.toArray⟩,.pointer (B5 β x)] 225)) #[Hx 44] 5 rfl (.tmp 32) (.tmp 33) 85 rfl base 1 1 (.int .u8 0) Tryz.underlying85 Nq rfl z4sa _ _ _ rfl (by rw[hz9];rfl) hown4 rfl (by intro u hu;simp at hu;subst hu;rfl) z4sa z4sa hbs4 ?_;intro g2 cap2 w2 J3 hgrow2 _ _;have A9:=(Below.refl base (wr.alloc (.cells #[.int .i64 (x.k:Nat),.bool x.y,.int .i64 x.n,.string ⟨x.t.toArray⟩,.pointer (B5 β x)] 225))).grown hgrow2 hbs4 hge4;have hit:=(hgrow2.block wr.heap.size z4wa (fun e=>absurd (Bg hown2 _ e.symm) (Nat.lt_irrefl _))).trans (heap_alloc_new wr (.cells #[.int .i64 (x.k:Nat),.bool x.y,.int .i64 x.n,.string ⟨x.t.toArray⟩,.pointer (B5 β x)] 225));have i0:=A7 hit 0 _ rfl;have i1:=A7 hit 1 _ rfl;have i2:=A7 hit 2 _ rfl;have i3:=A7 hit 3 _ rfl;have i4:=A7 hit 4 _ rfl;have li:=A6 hit;have HL2:Hid (Ln base w2 (.slice (some ⟨g2,0,none⟩) (l'.length+1) cap2) (l'++[44])):=⟨by simpa using J3,Nat.le_trans hbs4 A9.size⟩;have Aa:=A0 (Cs.o.trans A9);clear J3 hgrow2 A9 hit)
     have HC:=A0 (HIH.o x _ _ _ HFx.o.1 HFx.o.2 HL2.o z4za (HA.o.on Aa.o) (HT.o.on Aa.o));refine HC.o.mono ?_;rintro e w3 ⟨v3,rfl,hl3,Ar⟩;have HL3:=A0 hl3;have Ay:=A0 (Aa.o.trans Ar);have HN:=A0 (Zg (fun l hl v hv=>(HFa.o l hl v hv).1) d x HFx.o.1 (l'++[44]) z4za);clear hl3 Ar HC;go_wp2;go_roundg (gk-1)
     case measure=>omega
     case rel=>exact⟨q+1,_,by go_num,by omega,HL3.o,by have:=HN.o;omega,by rw[show decide (0<q+1)=true from decide_eq_true z4sa];exact HE1,Ay.o⟩
  ·have HE1:Hid (Jz (fun l' v'=>Dr arr d l' v') false (l++[91]) vs=l'++[93]):=by show _=_;rw[HE.o,List.drop_eq_nil_of_le z4sa];unfold Jz;rfl
   have t1:¬((q:Nat):Int)<((vs.length:Nat):Int):=by omega
   clear HE;go_wp2_with (at_builtin;refine Ju wr #[Hx 93] 5 rfl (.tmp 41) (.tmp 42) 85 rfl base 1 1 (.int .u8 0) Tryz.underlying85 Nq rfl z4sa _ _ _ rfl rfl hown2 rfl (by intro u hu;simp at hu;subst hu;rfl) z4sa z4sa hbs2 ?_;intro g2 cap2 w2 J3 hgrow2 _ _;have A9:Below base wr w2:=(Below.refl _ _).grown hgrow2 hbs2 hge2;have HL2:Hid (Ln base w2 (.slice (some ⟨g2,0,none⟩) (l'.length+1) cap2) (l'++[93])):=⟨by simpa using J3,Nat.le_trans hbs2 A9.size⟩;have Aa:=A0 (HB.o.trans A9);clear J3 hgrow2 A9)
   go_ret;exact⟨_,rfl,by rw[HE1.o];exact HL2.o,Aa.o⟩
theorem A4k{base:Nat}{β:Nat->Nat}{j:Int}{y:Bool}{n:Int}{t:ByteArray}{i:Nat}{w:World}{lv:Value}{l r:List UInt8}(h:Ln base w lv l)
  (hc:∀W:World,Below base w W->Ln base W lv l->Calls Tryz.prog 274 #[lv,.pointer (some ⟨β i,0,none⟩),.int .i64 j] W (Ld base W r)) :
  Calls Tryz.prog 244 #[lv,.agg #[.int .i64 4,.bool y,.int .i64 n,.string t,.pointer (some ⟨β i,0,none⟩)],.int .i64 j] w (Ld base w r):=by
 obtain⟨h0,Bv⟩:=h.alloc (.cells #[.int .i64 4,.bool y,.int .i64 n,.string t,.pointer (some ⟨β i,0,none⟩)] 225);have HC:=A0 (hc _ Bv h0);have Ae:=A0 Bv;clear hc h0 Bv h;go_enter Tryz.func244,Tryz.ntmps244;go_wp2_with fail
 refine HC.o.mono ?_;rintro e w1 ⟨v',rfl,h1,h2⟩;have HO:=A0 h1;have HB:=A0 (Ae.o.trans h2);clear h1 h2 HC;go_wp2;go_ret;exact⟨v',rfl,HO.o,HB.o⟩
theorem Amc{base:Nat}{p:Value}{w:World}{lv:Value}{l:List UInt8}(h:Ln base w lv l)(hl:l.length<=100000):Calls Tryz.prog 274 #[lv,p,.int .i64 4] w (Ld base w (l++[91,46,46,93])):=by
 obtain⟨i0,hi,Gt,Bq,Bw⟩:=info_parts Nq;have hown:=h.1;have hb:=h.2;have HH:=A0 h;clear h;go_enter Tryz.func274,Tryz.ntmps274;go_wp2_with (at_builtin;refine Lib.wpList_append_own_string _ rfl _ _ 85 9 rfl base 5 i0 Tryz.underlying85 Tryz.underlying9 hi Gt Bq Bw _ _ _ rfl hown ⟨[91,46,46,93].toArray⟩ rfl z5ja z5ua hb ?_)
 intro v' w1 ho hg _;have HK:=A0 (HH.o.app (t:=[91,46,46,93]) ho hg);exact z3ma
theorem Amj{base:Nat}{β:Nat->Nat}{arr:List (List PV)}(hfit:∀l∈arr,∀v∈l,Ef v/\O3 arr.length v)(hsz:∀l∈arr,l.length<=1000):∀d,d<=4->b5 base β arr d:=by
 intro d;induction d with
 | zero=>
  intro _ v w lv l hv hr h hl ha ht;by_cases h4:v.k=4
  ·obtain⟨i,hi,hia⟩:=hr h4;obtain⟨k,y,n,t,r⟩:=v;dsimp only at h4 hi;subst h4 hi;exact A4k h fun W _ hW=>Amc hW z4sa
  ·exact A4l v (B5 β v) _ h4 hv.2 (by have:=hv.1;omega) arr 0 h z4sa ht
 | succ d ih=>
  intro hd v w lv l hv hr h hl ha ht;by_cases h4:v.k=4
  ·obtain⟨i,hi,hia⟩:=hr h4;obtain⟨k,y,n,t,r⟩:=v;dsimp only at h4 hi;subst h4 hi;have e:Dr arr (d+1) l ⟨4,y,n,t,some i⟩=Jz (fun l' v'=>Dr arr d l' v') false (l++[91]) arr[i]:=by
    show Jz _ false (l++[91]) ((arr[i]?).getD [])=_;rw[List.getElem?_eq_getElem hia];rfl
   rw[e,show(4:Int)-((d+1:Nat):Int)=3-(d:Int) by omega];exact A4k h fun W hb hW=>Amf z4sa (ih z4sa) hfit hsz i hia hW hl (ha.on hb) (ht.on hb)
  ·exact A4l v (B5 β v) _ h4 hv.2 (by have:=hv.1;omega) arr (d+1) h z4sa ht
theorem Xv{β:Nat->Nat}{arr:List (List PV)}(v:PV)(hv:Ef v)(hr:O3 arr.length v)(hfit:∀l∈arr,∀v∈l,Ef v/\O3 arr.length v)(hsz:∀l∈arr,l.length<=1000)(w:World)(ha:Nz w.heap.size β w arr)(h10:G9 w) :
  Calls Tryz.prog 201 #[.agg #[.int .i64 (v.k:Nat),.bool v.y,.int .i64 v.n,.string ⟨v.t.toArray⟩,.pointer (B5 β v)]] w fun e w'=>e=.returned (N3 (Dr arr 4 [] v))/\Below w.heap.size w w':=by
 have hb:Below w.heap.size w (w.alloc (.cells #[.int .i64 (v.k:Nat),.bool v.y,.int .i64 v.n,.string ⟨v.t.toArray⟩,.pointer (B5 β v)] 225)):=Below.alloc (Below.refl _ _) (Nat.le_refl _) _;have hz:(w.alloc (.cells #[.int .i64 (v.k:Nat),.bool v.y,.int .i64 v.n,.string ⟨v.t.toArray⟩,.pointer (B5 β v)] 225)).heap.size=w.heap.size+1:=by simp
 have hA:Nz (w.heap.size+1) β (w.alloc (.cells #[.int .i64 (v.k:Nat),.bool v.y,.int .i64 v.n,.string ⟨v.t.toArray⟩,.pointer (B5 β v)] 225)) arr:=by
  intro i hi;obtain⟨a,c,h1,h2,h3⟩:=ha.on hb i hi;refine⟨a,c,h1,by omega,fun q=>?_⟩;obtain⟨g,e,hg,hc⟩:=h3 q;exact⟨g,e,by omega,hc⟩
 refine Ael (by have:=Zg (fun l hl v hv=>(hfit l hl v hv).1) 4 v hv [] z4wa;omega) ?_;have hn:=Ln.nil (w.alloc (.cells #[.int .i64 (v.k:Nat),.bool v.y,.int .i64 v.n,.string ⟨v.t.toArray⟩,.pointer (B5 β v)] 225));have ht:Lib.TabBelow Tryz.prog (w.heap.size+1) (w.alloc (.cells #[.int .i64 (v.k:Nat),.bool v.y,.int .i64 v.n,.string ⟨v.t.toArray⟩,.pointer (B5 β v)] 225)) "internal/strconv.uint64pow10" .u64 Lib.pow10Tab:=fun W hW=>Lib.tabBelow_of_tabIs h10 W (hb.trans (hW.mono z4sa));rw[hz]at hn;exact Amj hfit hsz 4 (Nat.le_refl _) v _ _ _ hv hr hn z4wa hA ht
end
end Go.Proofs.YtjdlndhfaaolaaaGreatDoor
