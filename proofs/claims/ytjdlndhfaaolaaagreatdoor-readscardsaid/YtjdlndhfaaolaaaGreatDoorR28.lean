import Derived.Test.YtjdlndhfaaolaaaGreatDoorR07
import Derived.Test.YtjdlndhfaaolaaaGreatDoorR27
set_option maxHeartbeats 20000000
namespace Go.Proofs.YtjdlndhfaaolaaaGreatDoor
section
set_option maxRecDepth 100000
open Go.RowKit
open Go.Deep (BT)
theorem A31{x:BT A2}(h:Lh x=true):(Dd x).kd=6\/(Dd x).kd=12:=by
 unfold Lh at h;simpa using h
theorem Abk{b tb cap te:Nat}{xs:List (Tk×List UInt8)}{n:Nat}(ih:G5 b tb cap te xs n)(w:World)(s:PS)(r:BT A2×PS)(hk:¬(5<=kT s/\kT s<=12/\kT s≠7))(hs:RS b tb cap te xs w s)(hp:A7 (n+1) 9 0 .nil s=some r) :
  Calls Tryz.prog 111 #[.pointer (some ⟨b,0,none⟩)] w (Dn b tb cap te xs w r):=by
 obtain⟨x,h1,⟨h2,h3,v,h4,e⟩|⟨h2,h3,v,h4,e⟩|⟨h2,e⟩⟩:=S0 hk hp
 ·rcases A31 h2 with h6|h6
  ·exact Abm ih w s r x v hs h1 h3 h4 h6 e
  ·exact Abo ih w s r x v hs h1 h3 h4 h6 e
 ·exact Abn ih w s r x v hs h1 h3 h4 h2 e
 ·exact Abl ih w s r x hs h1 h2 e
theorem Acl:∀k,k<=17->4<=k->¬(5<=k/\k<=12/\k≠7)->Ic (spell k) Ku=false/\(spell k).length<=100000:=by decide +kernel
theorem A9x(k:Nat)(h:k<=40):(Bz k !=119)=!(decide (4<=k/\k<=17)):=by
 revert h;revert k;decide +kernel
theorem Acj{b tb cap te:Nat}{xs:List (Tk×List UInt8)}{n:Nat}(ih:G5 b tb cap te xs n)(w:World)(s:PS)(r:BT A2×PS)(hk:¬(5<=kT s/\kT s<=12/\kT s≠7))(hs:RS b tb cap te xs w s)(hp:A7 (n+1) 9 0 .nil s=some r) :
  Calls Tryz.prog 63 #[.pointer (some ⟨b,0,none⟩)] w (Dn b tb cap te xs w r):=by
 have hu:=A0 (fun(w':World) h=>Abk ih w' s r hk h hp);obtain⟨lb,lt,lne⟩:=hs.lt;have Fb:kT s<=40:=by obtain⟨pl,h⟩:=hs;exact h.N7
 have hr119:=A9x _ Fb;have hsw:=Acl (kT s);have HS:=A0 hs;clear hp hs ih;by_cases hw:4<=kT s/\kT s<=17
 ·have t1:(Bz (kT s) !=119)=false:=by rw[hr119];simp[hw]
  obtain⟨ha,hl⟩:=hsw hw.2 hw.1 hk;have Im:Hid (kT s≠2/\kT s≠1/\kT s≠3):=⟨by omega,by omega,by omega⟩;clear hsw hr119 hw hk;go_enter Tryz.func63,Tryz.ntmps63;go_wp2_with fail
  refine(Fl (HS.o.alloc _)).mono ?_;rintro e w1 ⟨S1,rfl,C6,Bo,A3⟩;have Du:S1=spell (kT s):=(C6 Im.o.1).trans (by unfold Eu;rw[if_neg (by show ¬(kT s=1\/kT s=3);have:=Im.o;omega)];rfl);subst Du;have Bj:=A0 (Bg A3 (heap_alloc_new w _));have Ae:Hid (A1 b w w1):=((A1.refl b w).alloc _).trans (Below.only A3);have Ey:=A0 Bo;have lz1:=A5 Bj.o;clear C6 A3 Bo;go_wp2_with fail
  refine(La (spell (kT s)) Ku _ hl (by decide)).mono ?_;rintro e w' ⟨rfl,rfl⟩;rw[ha];go_wp2_with fail
  refine(hu.out _ ((Ey.o.alloc _).alloc _)).mono ?_;rintro e w3 ⟨I,S,ln,nn,va,vn,vc,pa,pn,pc,rfl,Bq,Af,Fc⟩;obtain⟨k0,k1,k2,k3,k4,k5,f1,l1⟩:=As (Af.blk (alloc_old (alloc_old Bj.o)) (by omega));have Cl:=A0 Bq;have Ay:Hid (A1 b w w3):=((Ae.o.alloc _).alloc _).trans Af;have Gt:=A0 Fc;clear Bq Af Fc;go_wp2;refine bodyPost_ret (v:=.agg #[.string ⟨I.toArray⟩,.int .i64 ln,.string ⟨S.toArray⟩,.int .i64 nn,.slice va vn vc,.slice pa pn pc]) ?_ rfl ?_
  ·simp[results,Tryz.results63,go_sem,k0,k1,k2,k3,k4,k5]
  refine Gc lb lt Cl.o Ay.o (fun hb=>⟨(Gt.o hb).1,Ak.keep (fun k hk hl=>⟨rfl,by simp at hk;omega⟩) _ _ (Gt.o hb).2⟩)
 ·have t1:(Bz (kT s) !=119)=true:=by rw[hr119];simp[hw]
  clear hsw hr119 hw hk;go_enter Tryz.func63,Tryz.ntmps63;go_wp2_with fail
  refine(Fl (HS.o.alloc _)).mono ?_;rintro e w1 ⟨S1,rfl,C6,Bo,A3⟩;have Bj:=A0 (Bg A3 (heap_alloc_new w _));have Ae:Hid (A1 b w w1):=((A1.refl b w).alloc _).trans (Below.only A3);have Ey:=A0 Bo;have lz1:=A5 Bj.o;clear C6 A3 Bo;go_wp2_with fail
  refine(hu.out _ ((Ey.o.alloc _).alloc _)).mono ?_;rintro e w3 ⟨I,S,ln,nn,va,vn,vc,pa,pn,pc,rfl,Bq,Af,Fc⟩;obtain⟨k0,k1,k2,k3,k4,k5,f1,l1⟩:=As (Af.blk (alloc_old (alloc_old Bj.o)) (by omega));have Cl:=A0 Bq;have Ay:Hid (A1 b w w3):=((Ae.o.alloc _).alloc _).trans Af;have Gt:=A0 Fc;clear Bq Af Fc;go_wp2;refine bodyPost_ret (v:=.agg #[.string ⟨I.toArray⟩,.int .i64 ln,.string ⟨S.toArray⟩,.int .i64 nn,.slice va vn vc,.slice pa pn pc]) ?_ rfl ?_
  ·simp[results,Tryz.results63,go_sem,k0,k1,k2,k3,k4,k5]
  refine Gc lb lt Cl.o Ay.o (fun hb=>⟨(Gt.o hb).1,Ak.keep (fun k hk hl=>⟨rfl,by simp at hk;omega⟩) _ _ (Gt.o hb).2⟩)
end
section
open Go.RowKit
open Go.Deep (BT)
theorem Ac9{b tb cap te:Nat}{xs:List (Tk×List UInt8)}{n:Nat}(ih:G5 b tb cap te xs n)(w:World)(s:PS)(r:BT A2×PS)(hs:RS b tb cap te xs w s)(hp:A7 (n+1) 9 0 .nil s=some r) :
  Calls Tryz.prog 63 #[.pointer (some ⟨b,0,none⟩)] w (Dn b tb cap te xs w r):=by
 by_cases c1:kT s=5
 ·exact Acf ih w s r c1 hs hp
 by_cases c2:kT s=6
 ·obtain⟨x,bl,h1,h2,⟨h3,c,h4,e⟩|⟨h3,e⟩⟩:=Tj c2 hp
  ·exact Ace ih w s r c2 x bl h1 h2 h3 c h4 e hs
  ·exact Acd ih w s r c2 x bl h1 h2 h3 e hs
 by_cases c3:kT s=8
 ·exact Ack ih w s r c3 hs hp
 by_cases c4:kT s=9
 ·by_cases c5:kT (Aa s)=25
  ·exact Aci w s r c4 c5 hs hp
  ·exact Ach ih w s r c4 c5 hs hp
 by_cases c5:kT s=10
 ·exact Aca w s r c5 hs hp
 by_cases c6:kT s=11
 ·exact Acb w s r c6 hs hp
 by_cases c7:kT s=12
 ·exact Acg ih w s r c7 hs hp
 exact Acj ih w s r (by omega) hs hp
theorem n3{b tb cap te:Nat}{xs:List (Tk×List UInt8)}:∀N n,n<=N->n<=500000->G5 b tb cap te xs n:=by
 intro N;induction N with
 | zero=>
  intro n hn _;obtain rfl:n=0:=by omega
  exact⟨fun _ _ _ _ _ _ _ _ h=>absurd h (Cc _ _ _ _ _),fun _ _ _ _ h=>absurd h (Cc _ _ _ _ _),fun _ _ _ _ h=>absurd h (Cc _ _ _ _ _),fun _ _ _ _ _ _ _ _ h=>absurd h (Cc _ _ _ _ _),fun _ _ _ _ h=>absurd h (Cc _ _ _ _ _),fun _ _ _ _ h=>absurd h (Cc _ _ _ _ _)⟩
 | succ N ih=>
  intro n hn h5;cases n with
  | zero=>exact ih 0 (by omega) (by omega)
  | succ n=>
   have ihn:∀m,m<=n->G5 b tb cap te xs m:=fun m hm=>ih m (by omega) (by omega);exact⟨fun w s a q r ha hq hs hp=>A5i ihn w s a q r ha hq hs hp,fun w s r hs hp=>Ad7 ihn w s r hs hp,fun w s r hs hp=>A1q (ihn n (Nat.le_refl _)) w s r hs hp,
    fun w s k q r hk hq hs hp=>A6y ihn (by omega) w s k q r hk hq hs hp,fun w s r hs hp=>A2s ihn (by omega) w s r hs hp,fun w s r hs hp=>Ac9 (ihn n (Nat.le_refl _)) w s r hs hp⟩
end
section
set_option maxRecDepth 100000
open Go.RowKit
open Go.Deep (BT)
def A13(b tb cap te:Nat)(xs:List (Tk×List UInt8))(n X:Nat)(ln:Int)(S:List UInt8)(p:List (Nat×List UInt8)×PS)(w:World)(k:Nat)(d:Value)(wr:World):Prop:=
 ∃(acc:List (Nat×List UInt8)) (st:PS) (pa:Option Addr) (pn pc:Nat) (ys:List (Tk×List UInt8)) (dn:Bool),d=.bool dn/\k<=n/\
  (dn=true->p=(acc,st))/\(dn=false->Ja k acc st=some p)/\
  RS b tb cap te xs wr st/\A1 b w wr/\ys.length+k<=n+1/\
  wr.heap[w.heap.size]?=some (.cells #[.string ⟨#[]⟩,.int .i64 0,.string ⟨#[]⟩,.int .i64 0,.slice none 0 0,.slice none 0 0] 77)/\
  wr.heap[X]?=some (.cells #[.string ⟨#[102,110]⟩,.int .i64 ln,.string ⟨S.toArray⟩,.int .i64 0,.slice none 0 0,.slice pa pn pc] 77)/\
  wr.ownsRow 0 174 4 (.slice pa pn pc) ys.length (Jc ys)/\(∀g,(Value.slice pa pn pc).ownBlock=some g->X<g)/\
  (st.bad=0->ys.map (fun x=>(x.1.line,x.2))=acc)
theorem Zx{n:Nat}{acc:List (Nat×List UInt8)}{s:PS}{r:List (Nat×List UInt8)×PS}(hk:kT (Ah 1 s)=24)(h:Ja (n+1) acc s=some r):Ja n (acc++[((A6 s).line,(A6 s).s)]) (Aa (Ah 1 s))=some r:=by
 rw[Ja,if_pos hk]at h;exact h
theorem Zw{n:Nat}{acc:List (Nat×List UInt8)}{s:PS}{r:List (Nat×List UInt8)×PS}(hk:kT (Ah 1 s)≠24)(h:Ja (n+1) acc s=some r):r=(acc++[((A6 s).line,(A6 s).s)],Ah 19 (Ah 1 s)):=by
 rw[Ja,if_neg hk]at h;exact(Option.some.inj h).symm
theorem Acu(ys:List (Tk×List UInt8))(y:Tk×List UInt8):Jc (ys++[y])=Jc ys++H9 y:=by simp[Jc]
theorem A5u{b tb cap te:Nat}{xs:List (Tk×List UInt8)}{n:Nat}(ih:G5 b tb cap te xs n)(hn:n<=500000)(w:World)(s:PS)(r:BT A2×PS)(hk:kT s=4)(hs:RS b tb cap te xs w s)(hp:A7 (n+1) 11 0 .nil s=some r) :
  Calls Tryz.prog 62 #[.pointer (some ⟨b,0,none⟩)] w (Dn b tb cap te xs w r):=by
 obtain⟨p,bl,By,Dw,hrr⟩:=Rz hp;have HRR:=A0 hrr;have Bh:=A0 By;have hu:=A0 (fun(w':World) h=>ih.block w' p.2 bl h Dw);have HST:=A0 (fun h1 h2=>Lm (s:=p.2) h1 h2 _ _ _ _ _ Dw);have HST2:=A0 (fun h1 h2=>Vl (s:=Ah 18 (Ah 1 (Aa s))) h1 h2 _ _ By);have HW4:Hid (Ah 4 s=Aa s):=by
  show _=_;unfold Ah;rw[if_pos hk]
 obtain⟨lb,lt,lne⟩:=hs.lt;have HS:=A0 hs;clear hp By Dw hrr ih hs hk;go_enter Tryz.func62,Tryz.ntmps62;go_wp2_with fail
 refine(Gq (HS.o.alloc _) 4 (by omega) (by omega) [102,110] rfl).mono ?_;rintro e w1 ⟨rfl,Bo,B5⟩;rw[HW4.o]at Bo;have Bj:=A0 (B5.blk (heap_alloc_new w _) (by omega));have Ae:Hid (A1 b w w1):=((A1.refl b w).alloc _).trans B5;have Ey:=A0 Bo;have lz1:=A5 Bj.o;clear Bo B5;go_wp2_with fail
 refine(Vh Ey.o).mono ?_;rintro e w2 ⟨⟨S2,rfl,Du⟩,Ec,Ap⟩;have Cb:=A0 (Ap.blk Bj.o (by omega));have Al:Hid (A1 b w w2):=Ae.o.trans Ap;have Fa:=A0 Ec;have Bi:=A0 Du;have lz2:=A5 Cb.o;clear Ec Ap Du;go_wp2_with fail
 refine(Gq ((Fa.o.alloc _).alloc _) 18 (by omega) (by omega) [40] rfl).mono ?_;rintro e w3 ⟨rfl,Bq,Af⟩;have E4:=A0 (Af.blk (alloc_old (alloc_old Cb.o)) (by omega));have Ej:=A0 (Af.blk (heap_alloc_new (w2.alloc _) _) (by simp;have:=Fa.o.lt.1;omega));have Ay:Hid (A1 b w w3):=((Al.o.alloc _).alloc _).trans Af;have J7:w2.heap.size+2<=w3.heap.size:=by have:=Af.size;simpa using this
 have Cl:=A0 Bq;clear Bq Af;go_wp2_with fail
 refine(L0 Cl.o 19 (by omega) (by omega) [41] rfl).mono ?_;rintro e w4 ⟨rfl,Dr,An⟩;have Ib:=A0 (An.blk E4.o (by omega));have Gu:=A0 (An.blk Ej.o (by simp;have:=Fa.o.lt.1;omega));have B2:Hid (A1 b w w4):=Ay.o.trans An;have hsz4:=An.size;have G3:=A0 Dr;clear Dr An;have hbt:=Fa.o.lt;have It:=Gu.o;simp only[World.size_alloc]at It;replace Gu:=A0 It;clear It Ej E4;go_wp2;go_loopg [5] n (fun k d wr=>A13 b tb cap te xs n (w2.heap.size+1) ((A6 (Aa s)).line:Nat) S2 p w k d wr)
 case atStart=>
  have hp:=Bh.o;unfold params at hp;by_cases hk:kT (Ah 18 (Ah 1 (Aa s)))=19
  ·rw[if_pos hk]at hp;refine⟨[],Aa (Ah 18 (Ah 1 (Aa s))),none,0,0,[],true,by rw[hk];simp,Nat.le_refl _,(fun _=>(Option.some.inj hp).symm),(fun h=>by cases h),by rw[←Nq hk];exact G3.o,B2.o,by simp,Ib.o,Gu.o,World.ownsRow_nil _ _ _ _,(fun g hg=>by simp[Value.ownBlock]at hg),(fun _=>rfl)⟩
  ·rw[if_neg hk]at hp;refine⟨[],Ah 18 (Ah 1 (Aa s)),none,0,0,[],false,by simpa using hk,Nat.le_refl _,(fun h=>by cases h),(fun _=>hp),by rw[←N9 hk];exact G3.o,B2.o,by simp,Ib.o,Gu.o,World.ownsRow_nil _ _ _ _,(fun g hg=>by simp[Value.ownBlock]at hg),(fun _=>rfl)⟩
 case round=>
  clear G3 B2 Ib Gu;obtain⟨acc,st,pa,pn,pc,ys,dn,rfl,hkn,hd1,hd0,hrs,hO,hcn,hZ,hX,hown,hlo,hacc⟩:=hrel;have lX:=A5 hX;have HRS:=A0 hrs;have HO:=A0 hO;have HZ:=A0 hZ;have HX:=A0 hX;have HOwn:=A0 hown;have HLo:=A0 hlo;have HAcc:=A0 hacc;have hsz:=hO.size;clear hO hZ hown hlo hacc;cases dn
  ·by_cases hbad:st.bad=0
   ·cases gk with
    | zero=>exact absurd (hd0 rfl) (by rw[Ja];simp)
    | succ m=>
    have HY:=A0 (hd0 rfl);obtain⟨cb,lbad⟩:=hrs.Nj;rw[hbad]at cb;have HB:=A0 hbad;clear hd0 hd1 hrs hbad hX;go_wp2_with fail
    refine(Vh HRS.o).mono ?_;rintro e w5 ⟨⟨S5,rfl,hS5⟩,Fq,Bd⟩;have Fx:=A0 (Bd.blk HZ.o (by omega));have hX5:=Bd.blk HX.o (by omega);obtain⟨x0,x1,x2,x3,x4,x5,fX,lX5⟩:=As hX5;have Fp:=A0 hX5;have hne:(Value.slice pa pn pc).ownBlock≠some b:=fun e=>by have:=HLo.o b e;omega
    have Fj:=(Mg HOwn.o Bd hne).alloc (.cells (H9 (A6 st,S5)).toArray 174);have B9:=A0 Bd;have Gj:=A0 Fq;have HS5:=A0 hS5;have hsz5:=Bd.size;clear hS5 Fq Bd hX5 hne cb;go_wp2_with (at_builtin;refine F1 (w5.alloc (.cells (H9 (A6 st,S5)).toArray 174)) (H9 (A6 st,S5)).toArray 174 rfl (.tmp 33) (.tmp 35) 75 rfl 0 4 40 (.agg #[.int .u8 0,.string ⟨#[]⟩,.int .i64 0,.int .i64 0]) Tryz.underlying75 Rr rfl (by omega) _ _ _ rfl (by simp;rfl) Fj rfl Sg (by omega) (by omega) (Nat.zero_le _) ?_;intro g Bw w6 hown6 hgrow hat hg;replace hgrow:(w5.alloc (.cells (H9 (A6 st,S5)).toArray 174)).grownBy w6 (Value.slice pa pn pc).ownBlock:=hgrow;replace hat:(Value.slice pa pn pc).ownBlock=some g\/g=(w5.alloc (.cells (H9 (A6 st,S5)).toArray 174)).heap.size+1:=hat;have hX6:=(hgrow.block _ (A5 (alloc_old Fp.o)) (fun e=>by have:=HLo.o _ e.symm;omega)).trans (alloc_old Fp.o);obtain⟨p0,p1,p2,p3,p4,p5,f5,l5⟩:=As hX6;have K6:=A0 hX6;clear hX6)
    have hrow:∀k,(Value.slice pa pn pc).ownBlock=some k->k≠b/\k≠tb/\w2.heap.size+1<k:=fun k e=>by have:=HLo.o k e;omega
    have HG:Hid (w2.heap.size+1<g):=by
     rcases hat with h|h
     ·exact(hrow g h).2.2
     ·show _<_;rw[h];simp;omega
    have Jx:Hid (RS b tb cap te xs (w6.setCell ⟨w2.heap.size+1,5,none⟩ (.slice (some ⟨g,0,none⟩) (ys.length+1) Bw)) (Ah 1 st)):=((Gj.o.alloc _).grown hgrow (fun e=>(hrow b e).1 rfl) (fun e=>(hrow tb e).2.1 rfl)).other (p:=⟨w2.heap.size+1,5,none⟩) (by show b≠w2.heap.size+1;omega) (by show tb≠w2.heap.size+1;omega) _;have Es:Hid (A1 b w (w6.setCell ⟨w2.heap.size+1,5,none⟩ (.slice (some ⟨g,0,none⟩) (ys.length+1) Bw))):=A1.set (p:=⟨w2.heap.size+1,5,none⟩) (((HO.o.trans B9.o).alloc _).grown hgrow (fun k e=>.inr (by have:=(hrow k e).2.2;omega))) (.inr (by show w.heap.size<=w2.heap.size+1;omega)) _;have Jy:=A0 (Cn (p:=⟨w2.heap.size+1,5,none⟩) (u:=.slice (some ⟨g,0,none⟩) (ys.length+1) Bw) ((hgrow.block _ (A5 (alloc_old Fx.o)) (fun e=>by have:=(hrow _ e.symm).2.2;omega)).trans (alloc_old Fx.o)) (by show w.heap.size≠w2.heap.size+1;omega));have Eb:=heap_set (j:=5) K6.o (.slice (some ⟨g,0,none⟩) (ys.length+1) Bw);simp only[List.setIfInBounds_toArray,List.set_cons_zero,List.set_cons_succ]at Eb;have J0:=A0 Eb;have HOwn7:Hid ((w6.setCell ⟨w2.heap.size+1,5,none⟩ (.slice (some ⟨g,0,none⟩) (ys.length+1) Bw)).ownsRow 0 174 4 (.slice (some ⟨g,0,none⟩) (ys.length+1) Bw) (ys++[(A6 st,S5)]).length (Jc (ys++[(A6 st,S5)]))):=by
     refine Bb ?_ (fun k hk _=>Below.heap_setCell _ _ _ _ (by simp only[Value.ownBlock,Option.some.injEq]at hk;have:=HG.o;show k≠w2.heap.size+1;omega));rw[Acu];simpa using hown6
    have HAcc7:Hid ((Ah 1 st).bad=0->(ys++[(A6 st,S5)]).map (fun x=>(x.1.line,x.2))=acc++[((A6 st).line,(A6 st).s)]):=by
     intro hb;have B1:=HRS.o.Wp hb;rw[List.map_append,HAcc.o HB.o];have:S5=(A6 st).s:=(HS5.o (by show kT st≠2;omega)).trans (by unfold Eu;rw[if_pos (.inl B1)]);rw[this];rfl
    clear hown6 hgrow hat hg Eb p0 p1 p2 p3 p4 p5 f5 x0 x1 x2 x3 x4 x5 fX Fj hrow;generalize w6.setCell ⟨w2.heap.size+1,5,none⟩ (.slice (some ⟨g,0,none⟩) (ys.length+1) Bw)=W7 at *;by_cases h24:kT (Ah 1 st)=24
    ·have HM:=A0 (Nq h24);have hk:(kT (Ah 1 st)==24)=true:=by rw[h24];rfl
     have HY2:=A0 (Zx h24 HY.o);clear h24;refine(L0 Jx.o 24 (by omega) (by omega) [44] rfl).mono ?_;rintro e w9 ⟨rfl,hrs9,Gx⟩;rw[hk];rw[HM.o]at hrs9;have HRS9:=A0 hrs9;have HO9:=A0 Gx;clear hrs9 Gx;go_wp2;go_roundg m
     case measure=>omega
     case rel=>
      exact⟨acc++[((A6 st).line,(A6 st).s)],Aa (Ah 1 st),some ⟨g,0,none⟩,ys.length+1,Bw,ys++[(A6 st,S5)],false,rfl,by omega,(fun h=>by cases h),(fun _=>HY2.o),HRS9.o,Es.o.trans HO9.o,by simp;omega,HO9.o.blk Jy.o (by omega),HO9.o.blk J0.o (by omega),Mg HOwn7.o HO9.o (by have:=HG.o;simp only[Value.ownBlock,ne_eq,Option.some.injEq];omega),(fun k hk=>by simp only[Value.ownBlock,Option.some.injEq]at hk;rw[←hk];exact HG.o),fun hb=>HAcc7.o (by rw[Wg]at hb;exact hb)⟩
    ·have HM:=A0 (N9 h24);have hk:(kT (Ah 1 st)==24)=false:=by simpa using h24
     have HY2:=A0 (Zw h24 HY.o);clear h24;refine(L0 Jx.o 24 (by omega) (by omega) [44] rfl).mono ?_;rintro e w9 ⟨rfl,hrs9,Gx⟩;rw[hk];rw[HM.o]at hrs9;have HRS9:=A0 hrs9;have HO9:=A0 Gx;clear hrs9 Gx;go_wp2_with fail
     refine(Gq HRS9.o 19 (by omega) (by omega) [41] rfl).mono ?_;rintro e w10 ⟨rfl,hrs10,ho10⟩;have HRS10:=A0 hrs10;have HO10:Hid (A1 b W7 w10):=HO9.o.trans ho10;clear hrs10 ho10;go_wp2;go_roundg m
     case measure=>omega
     case rel=>
      exact⟨acc++[((A6 st).line,(A6 st).s)],Ah 19 (Ah 1 st),some ⟨g,0,none⟩,ys.length+1,Bw,ys++[(A6 st,S5)],true,rfl,by omega,(fun _=>HY2.o),(fun h=>by cases h),HRS10.o,Es.o.trans HO10.o,by simp;omega,HO10.o.blk Jy.o (by omega),HO10.o.blk J0.o (by omega),Mg HOwn7.o HO10.o (by have:=HG.o;simp only[Value.ownBlock,ne_eq,Option.some.injEq];omega),(fun k hk=>by simp only[Value.ownBlock,Option.some.injEq]at hk;rw[←hk];exact HG.o),fun hb=>HAcc7.o (L7 hb)⟩
   ·have e2:=Zy (hrs.Jb hbad) hbad _ _ _ (hd0 rfl);obtain⟨cb,lbad⟩:=hrs.Nj;have Cf:((st.bad:Int)==0)=false:=by rw[beq_eq_false_iff_ne];omega
    have HE:=A0 (And.intro e2 trivial);have HB:=A0 hbad;clear e2 hd0 hd1 hrs hbad hX;go_wp2_with fail
    refine(hu.out _ (by rw[HE.o.1];exact HRS.o)).mono ?_;rintro e w8 ⟨va,vn,vc,cn,cs,rfl,hown8,hcn8,F6,Cg,hrep8⟩;have G7:=Cg.blk HZ.o (by omega);have El:=Cg.blk HX.o (by omega);obtain⟨k0,k1,k2,k3,k4,k5,f1,l1⟩:=As G7;obtain⟨x0,x1,x2,x3,x4,x5,fX,lX8⟩:=As El;have hne:(Value.slice pa pn pc).ownBlock≠some b:=fun e=>by have:=HLo.o b e;omega
    have HOwnP:Hid (C1 (fun g=>w.heap.size<g) (w8.setCell ⟨w2.heap.size+1,4,none⟩ (.slice va vn vc)) 174 4 (.slice pa pn pc) ys.length (Jc ys)):=
     ⟨Bb (Mg HOwn.o Cg hne) (fun g hg _=>Below.heap_setCell _ _ _ _ (by have:=HLo.o g hg;show g≠w2.heap.size+1;omega)),fun g hg=>by have:=HLo.o g hg;omega⟩
    have Jf:=A0 F6;have F4:Hid (A1 b w w8):=HO.o.trans Cg;have HOwn8:=A0 hown8;have HRep8:=A0 hrep8;clear F6 Cg hown8 hrep8 G7 El hne;go_wp2;refine bodyPost_ret (v:=.agg #[.string ⟨#[102,110]⟩,.int .i64 ((A6 (Aa s)).line:Nat),.string ⟨S2.toArray⟩,.int .i64 0,.slice va vn vc,.slice pa pn pc]) ?_ rfl ?_
    ·simp[results,Tryz.results62,go_sem,k0,k1,k2,k3,k4,k5]
    rw[HRR.o];refine Gc (I:=[102,110]) (S:=S2) lb lt (Jf.o.other (p:=⟨w2.heap.size+1,4,none⟩) (by show b≠w2.heap.size+1;omega) (by show tb≠w2.heap.size+1;omega) _) (A1.set (p:=⟨w2.heap.size+1,4,none⟩) F4.o (.inr (by show w.heap.size<=w2.heap.size+1;omega)) _) (fun hb=>⟨rfl,?_⟩);have hpb:p.2.bad=0:=by
     rcases Nat.eq_zero_or_pos p.2.bad with h|h
     ·exact h
     ·exfalso;have hne:p.2.bad≠0:=by omega
      have hb':bl.2.bad=0:=hb;rw[HST.o (by rw[HE.o.1]at hne ⊢;exact HRS.o.Jb hne) hne]at hb';omega
    rw[HE.o.1]at hpb;exact absurd hpb HB.o
  ·have HE:=A0 (And.intro (show p.2=st by rw[hd1 rfl]) (show p.1=acc by rw[hd1 rfl]));clear hd0 hd1 hrs hX;go_wp2_with fail
   refine(hu.out _ (by rw[HE.o.1];exact HRS.o)).mono ?_;rintro e w8 ⟨va,vn,vc,cn,cs,rfl,hown8,hcn8,F6,Cg,hrep8⟩;have G7:=Cg.blk HZ.o (by omega);have El:=Cg.blk HX.o (by omega);obtain⟨k0,k1,k2,k3,k4,k5,f1,l1⟩:=As G7;obtain⟨x0,x1,x2,x3,x4,x5,fX,lX8⟩:=As El;have hne:(Value.slice pa pn pc).ownBlock≠some b:=fun e=>by have:=HLo.o b e;omega
   have HOwnP:Hid (C1 (fun g=>w.heap.size<g) (w8.setCell ⟨w2.heap.size+1,4,none⟩ (.slice va vn vc)) 174 4 (.slice pa pn pc) ys.length (Jc ys)):=
    ⟨Bb (Mg HOwn.o Cg hne) (fun g hg _=>Below.heap_setCell _ _ _ _ (by have:=HLo.o g hg;show g≠w2.heap.size+1;omega)),fun g hg=>by have:=HLo.o g hg;omega⟩
   have Jf:=A0 F6;have F4:Hid (A1 b w w8):=HO.o.trans Cg;have HOwn8:=A0 hown8;have HRep8:=A0 hrep8;clear F6 Cg hown8 hrep8 G7 El hne;go_wp2;refine bodyPost_ret (v:=.agg #[.string ⟨#[102,110]⟩,.int .i64 ((A6 (Aa s)).line:Nat),.string ⟨S2.toArray⟩,.int .i64 0,.slice va vn vc,.slice pa pn pc]) ?_ rfl ?_
   ·simp[results,Tryz.results62,go_sem,k0,k1,k2,k3,k4,k5]
   rw[HRR.o];refine Gc (I:=[102,110]) (S:=S2) lb lt (Jf.o.other (p:=⟨w2.heap.size+1,4,none⟩) (by show b≠w2.heap.size+1;omega) (by show tb≠w2.heap.size+1;omega) _) (A1.set (p:=⟨w2.heap.size+1,4,none⟩) F4.o (.inr (by show w.heap.size<=w2.heap.size+1;omega)) _) (fun hb=>⟨rfl,?_⟩);have hpb:p.2.bad=0:=by
    rcases Nat.eq_zero_or_pos p.2.bad with h|h
    ·exact h
    ·exfalso;have hne:p.2.bad≠0:=by omega
     have hb':bl.2.bad=0:=hb;rw[HST.o (by rw[HE.o.1]at hne ⊢;exact HRS.o.Jb hne) hne]at hb';omega
   have hp0:(Ah 18 (Ah 1 (Aa s))).bad=0:=by
    rcases Nat.eq_zero_or_pos (Ah 18 (Ah 1 (Aa s))).bad with h|h
    ·exact h
    ·exfalso;have hne:(Ah 18 (Ah 1 (Aa s))).bad≠0:=by omega
     rw[HST2.o (Cl.o.Jb hne) hne]at hpb;omega
   have hname:=Ey.o.Wp (L7 hp0);have hS:S2=(A6 (Aa s)).s:=(Bi.o (by show kT (Aa s)≠2;omega)).trans (by unfold Eu;rw[if_pos (.inl hname)]);have hr8:=HRep8.o hb;have hkeep:∀k,wr.heap.size<=k->k<w8.heap.size->(w8.setCell ⟨w2.heap.size+1,4,none⟩ (.slice va vn vc)).heap[k]?=w8.heap[k]?/\w.heap.size<k:=fun k hk hl=>
    ⟨Below.heap_setCell _ _ _ _ (by show k≠w2.heap.size+1;omega),by omega⟩
   unfold nd;rw[Ak,if_neg (by show(20:Nat)≠8;decide)];refine⟨_,_,_,_,_,cs,[],⟨_,_,_,_,_,_,rfl,rfl⟩,rfl,(fun _=>rfl),(fun _=>hS),(fun h=>absurd h (by show ¬((20:Nat)=1);decide)),(fun h=>absurd h (by show ¬((20:Nat)=12);decide)),?_,Ak.keep hkeep _ _ hr8.2,(fun _=>⟨ys,HOwnP.o,?_⟩),rfl⟩
   ·rw[←hr8.1];exact HOwn8.o.keep hkeep
   ·rw[HE.o.1]at hpb;show _=p.1;rw[HE.o.2];exact HAcc.o hpb
theorem Zs{n:Nat}{acc:BT A2}{s:PS}{r:BT A2×PS}(hk:kT s=0)(h:A7 (n+1) 10 0 acc s=some r):r=(acc,s):=by
 rw[A7,if_neg (by decide),if_neg (by decide),if_neg (by decide),if_neg (by decide),if_neg (by decide),if_neg (by decide),if_neg (by decide),if_neg (by decide),if_neg (by decide),if_neg (by decide),if_pos rfl,if_pos hk]at h;exact(Option.some.inj h).symm
theorem Zt{n:Nat}{acc:BT A2}{s:PS}{r:BT A2×PS}(hk:kT s=4)(h:A7 (n+1) 10 0 acc s=some r):∃x,A7 n 11 0 .nil s=some x/\A7 n 10 0 (B6 acc x.1) x.2=some r:=by
 rw[A7,if_neg (by decide),if_neg (by decide),if_neg (by decide),if_neg (by decide),if_neg (by decide),if_neg (by decide),if_neg (by decide),if_neg (by decide),if_neg (by decide),if_neg (by decide),if_pos rfl,if_neg (by omega),if_pos hk]at h;exact bind_some h
theorem Zu{n:Nat}{acc:BT A2}{s:PS}{r:BT A2×PS}(Kr:kT s≠0)(hk:kT s≠4)(h:A7 (n+1) 10 0 acc s=some r):∃x,A7 n 9 0 .nil s=some x/\A7 n 10 0 (B6 acc x.1) x.2=some r:=by
 rw[A7,if_neg (by decide),if_neg (by decide),if_neg (by decide),if_neg (by decide),if_neg (by decide),if_neg (by decide),if_neg (by decide),if_neg (by decide),if_neg (by decide),if_neg (by decide),if_pos rfl,if_neg Kr,if_neg hk]at h;exact bind_some h
def A0y(b tb cap te:Nat)(xs:List (Tk×List UInt8))(n:Nat)(r:BT A2×PS)(w:World)(k:Nat)(v:Value)(wr:World):Prop:=
 ∃(acc:BT A2) (st:PS) (va:Option Addr) (vn vc cn:Nat) (cs:List Value),v=.slice va vn vc/\k<=n/\A7 k 10 0 acc st=some r/\
  RS b tb cap te xs wr st/\A1 b w wr/\cn+k<=n+1/\wr.ownsRow 0 77 6 (.slice va vn vc) cn cs/\(∀g,(Value.slice va vn vc).ownBlock=some g->w.heap.size<=g)/\
  (st.bad=0->cn=A8 acc/\Ak (fun g=>w.heap.size<=g/\(Value.slice va vn vc).ownBlock≠some g) wr acc cs)
theorem A9z(k:Nat)(h:k<=40):(Bz k !=101)=(k !=0):=by
 revert h;revert k;decide +kernel
theorem Acv(k n l:Int)(S:List UInt8)(w:World):(Instr.field 174 (.agg #[.int .u8 k,.string ⟨S.toArray⟩,.int .i64 n,.int .i64 l]) 0).run Tryz.prog w=.ok (.int .u8 k) w:=by kernel_rfl
theorem Vt{b tb cap te:Nat}{xs:List (Tk×List UInt8)}{n:Nat}(hn:n<=500000)(w:World)(s:PS)(r:BT A2×PS)(hs:RS b tb cap te xs w s)(hp:A7 n 10 0 .nil s=some r) :
  Calls Tryz.prog 44 #[.pointer (some ⟨b,0,none⟩)] w (Rh b tb cap te xs w r):=by
 obtain⟨lb,lt,lne⟩:=hs.lt;have HS:=A0 hs;have HP:=A0 hp;clear hp hs;go_enter Tryz.func44,Tryz.ntmps44;go_wp2;go_loopg [3] n (fun k v wr=>A0y b tb cap te xs n r w k v wr)
 case atStart=>
  exact⟨.nil,s,none,0,0,0,[],rfl,Nat.le_refl _,HP.o,HS.o,A1.refl _ _,by omega,World.ownsRow_nil _ _ _ _,(fun g hg=>by simp[Value.ownBlock]at hg),(fun _=>⟨rfl,rfl⟩)⟩
 case round=>
  clear HP HS;obtain⟨acc,st,va,vn,vc,cn,cs,rfl,hkn,hp,hrs,hO,hcn,hown,hlo,hrep⟩:=hrel;cases gk with
  | zero=>exact absurd hp (Cc _ _ _ _ _)
  | succ m=>
  obtain⟨cb,lbad⟩:=hrs.Nj;have lbr:b<wr.heap.size:=hrs.lt.1;have Fb:kT st<=40:=by obtain⟨pl,h⟩:=hrs;exact h.N7
  have hend:=A9z _ Fb;have hsz:=hO.size;have hfd:=Acv;have HRS:=A0 hrs;have HO:=A0 hO;have HOwn:=A0 hown;have HLo:=A0 hlo;have HRep:=A0 hrep;by_cases hbad:st.bad=0
  ·rw[hbad]at cb;have HB:=A0 hbad;by_cases h0:kT st=0
   ·have HE:=A0 (Zs h0 hp);have t1:(Bz (kT st) !=101)=false:=by rw[hend,h0];rfl
    clear hp hrs hO hown hlo hrep h0 hbad hend Fb;go_wp2_with fail
    refine(Fl HRS.o).mono ?_;rintro e w2 ⟨S2,rfl,Du,Ec,A9⟩;have Fa:=A0 Ec;have Ai:=A0 A9;clear Du Ec A9 cb;go_wp2;go_ret;rw[HE.o];refine⟨va,vn,vc,cn,cs,rfl,⟨Bb HOwn.o (fun g _ hl=>Ai.o.block g hl),HLo.o⟩,by omega,Fa.o,HO.o.trans (Below.only Ai.o),fun h=>⟨(HRep.o HB.o).1,?_⟩⟩;exact Ak.keep (fun g hg hl=>⟨Ai.o.block g hl,hg.1⟩) _ _ (HRep.o HB.o).2
   ·have t1:(Bz (kT st) !=101)=true:=by rw[hend];simpa using h0
    by_cases h4:kT st=4
    ·obtain⟨y,J8,Hu⟩:=Zt h4 hp;have hm0:m≠0:=by intro e;subst e;exact absurd J8 (Cc _ _ _ _ _)
     obtain⟨m',rfl⟩:∃m',m=m'+1:=⟨m-1,by omega⟩;have hu:=A0 (fun(w':World) (h:RS b tb cap te xs w' st)=>A5u (n3 m' m' (Nat.le_refl _) (by omega)) (by omega) w' st y h4 h J8);have hk:(kT st==4)=true:=by rw[h4];rfl
     have HY:=A0 Hu;clear hp hrs hO hown hlo hrep h0 h4 hbad hend Fb J8 Hu;go_wp2_with fail
     refine(Fl HRS.o).mono ?_;rintro e w1 ⟨S1,rfl,C6,Bo,A3⟩;have Ey:=A0 Bo;have Ab:=A0 A3;clear C6 Bo A3 cb;go_wp2_with fail
     refine(Ov Ey.o 4 (by omega) (by omega) [102,110] rfl).mono ?_;rintro e w2 ⟨rfl,Ec,A9⟩;rw[hk];have Al:Hid (A1 b wr w2):=(Below.only Ab.o).trans (Below.only A9);have Fa:=A0 Ec;have hsz2:=Al.o.size;clear Ec A9;go_wp2_with fail
     refine(hu.out _ Fa.o).mono ?_;rintro e w4 ⟨I,S,ln,nn,D5,D7,D6,pa,pn,pc,rfl,Ch,An,Gy⟩;have hne:(Value.slice va vn vc).ownBlock≠some b:=fun e=>by have:=HLo.o b e;omega
     have HO24:Hid (A1 b wr w4):=Al.o.trans An;have K0:=(Mg HOwn.o HO24.o hne).alloc (.cells (Ax I S ln nn D5 D7 D6 pa pn pc) 77);have I8:=A0 Ch;have Io:=A0 Gy;clear Ch An Gy hne;go_wp2_with (at_builtin;refine F1 (w4.alloc (.cells (Ax I S ln nn D5 D7 D6 pa pn pc) 77)) (Ax I S ln nn D5 D7 D6 pa pn pc) 77 rfl (.tmp 23) (.tmp 25) 72 rfl 0 6 96 (.agg #[.string ⟨#[]⟩,.int .i64 0,.string ⟨#[]⟩,.int .i64 0,.slice none 0 0,.slice none 0 0]) Tryz.underlying72 Kz rfl (by omega) _ _ _ rfl (by simp;rfl) K0 rfl Ll (by omega) (by omega) (Nat.zero_le _) ?_;intro g Bw w5 Fj hgrow hat hg)
     replace hgrow:(w4.alloc (.cells (Ax I S ln nn D5 D7 D6 pa pn pc) 77)).grownBy w5 (Value.slice va vn vc).ownBlock:=hgrow;replace hat:(Value.slice va vn vc).ownBlock=some g\/g=(w4.alloc (.cells (Ax I S ln nn D5 D7 D6 pa pn pc) 77)).heap.size+1:=hat;have hrow:∀k,(Value.slice va vn vc).ownBlock=some k->k≠b/\k≠tb/\w.heap.size<=k:=fun k e=>by have:=HLo.o k e;omega
     go_roundg (m'+1)
     case measure=>omega
     case rel=>
      have Dx:=HO24.o.size;refine⟨B6 acc y.1,y.2,some ⟨g,0,none⟩,cn+1,Bw,cn+1,cs++(Ax I S ln nn D5 D7 D6 pa pn pc).toList,rfl,by omega,HY.o,(I8.o.alloc _).grown hgrow (fun e=>(hrow b e).1 rfl) (fun e=>(hrow tb e).2.1 rfl),((HO.o.trans HO24.o).alloc _).grown hgrow (fun k e=>.inr (hrow k e).2.2),by omega,Fj,?_,fun hb=>⟨?_,?_⟩⟩
      ·intro k hk;simp only[Value.ownBlock,Option.some.injEq]at hk;rw[←hk];rcases hat with h|h
       ·exact(hrow g h).2.2
       ·rw[h];simp;omega
      ·have hr:=HRep.o HB.o;rw[Mr,(Io.o hb).1,hr.1]
      ·refine Rl lb hsz HO24.o (fun k hk=>Below.heap_alloc _ _ _ hk) (by simp) HOwn.o hgrow hat (HRep.o HB.o).2 ?_;exact Ak.keep (fun k hk hl=>⟨rfl,by have h:w2.heap.size<=k:=hk;omega⟩) _ _ (Io.o hb).2
    ·obtain⟨y,J8,Hu⟩:=Zu h0 h4 hp;have hu:=A0 (fun(w':World) (h:RS b tb cap te xs w' st)=>(n3 m m (Nat.le_refl _) (by omega)).stmt w' st y h J8);have hk:(kT st==4)=false:=by simpa using h4
     have HY:=A0 Hu;clear hp hrs hO hown hlo hrep h0 h4 hbad hend Fb J8 Hu;go_wp2_with fail
     refine(Fl HRS.o).mono ?_;rintro e w1 ⟨S1,rfl,C6,Bo,A3⟩;have Ey:=A0 Bo;have Ab:=A0 A3;clear C6 Bo A3 cb;go_wp2_with fail
     refine(Ov Ey.o 4 (by omega) (by omega) [102,110] rfl).mono ?_;rintro e w2 ⟨rfl,Ec,A9⟩;rw[hk];have Al:Hid (A1 b wr w2):=(Below.only Ab.o).trans (Below.only A9);have Fa:=A0 Ec;have hsz2:=Al.o.size;clear Ec A9;go_wp2_with fail
     refine(hu.out _ Fa.o).mono ?_;rintro e w4 ⟨I,S,ln,nn,D5,D7,D6,pa,pn,pc,rfl,Ch,An,Gy⟩;have hne:(Value.slice va vn vc).ownBlock≠some b:=fun e=>by have:=HLo.o b e;omega
     have HO24:Hid (A1 b wr w4):=Al.o.trans An;have K0:=(Mg HOwn.o HO24.o hne).alloc (.cells (Ax I S ln nn D5 D7 D6 pa pn pc) 77);have I8:=A0 Ch;have Io:=A0 Gy;clear Ch An Gy hne;go_wp2_with (at_builtin;refine F1 (w4.alloc (.cells (Ax I S ln nn D5 D7 D6 pa pn pc) 77)) (Ax I S ln nn D5 D7 D6 pa pn pc) 77 rfl (.tmp 29) (.tmp 31) 72 rfl 0 6 96 (.agg #[.string ⟨#[]⟩,.int .i64 0,.string ⟨#[]⟩,.int .i64 0,.slice none 0 0,.slice none 0 0]) Tryz.underlying72 Kz rfl (by omega) _ _ _ rfl (by simp;rfl) K0 rfl Ll (by omega) (by omega) (Nat.zero_le _) ?_;intro g Bw w5 Fj hgrow hat hg)
     replace hgrow:(w4.alloc (.cells (Ax I S ln nn D5 D7 D6 pa pn pc) 77)).grownBy w5 (Value.slice va vn vc).ownBlock:=hgrow;replace hat:(Value.slice va vn vc).ownBlock=some g\/g=(w4.alloc (.cells (Ax I S ln nn D5 D7 D6 pa pn pc) 77)).heap.size+1:=hat;have hrow:∀k,(Value.slice va vn vc).ownBlock=some k->k≠b/\k≠tb/\w.heap.size<=k:=fun k e=>by have:=HLo.o k e;omega
     go_roundg m
     case measure=>omega
     case rel=>
      have Dx:=HO24.o.size;refine⟨B6 acc y.1,y.2,some ⟨g,0,none⟩,cn+1,Bw,cn+1,cs++(Ax I S ln nn D5 D7 D6 pa pn pc).toList,rfl,by omega,HY.o,(I8.o.alloc _).grown hgrow (fun e=>(hrow b e).1 rfl) (fun e=>(hrow tb e).2.1 rfl),((HO.o.trans HO24.o).alloc _).grown hgrow (fun k e=>.inr (hrow k e).2.2),by omega,Fj,?_,fun hb=>⟨?_,?_⟩⟩
      ·intro k hk;simp only[Value.ownBlock,Option.some.injEq]at hk;rw[←hk];rcases hat with h|h
       ·exact(hrow g h).2.2
       ·rw[h];simp;omega
      ·have hr:=HRep.o HB.o;rw[Mr,(Io.o hb).1,hr.1]
      ·refine Rl lb hsz HO24.o (fun k hk=>Below.heap_alloc _ _ _ hk) (by simp) HOwn.o hgrow hat (HRep.o HB.o).2 ?_;exact Ak.keep (fun k hk hl=>⟨rfl,by have h:w2.heap.size<=k:=hk;omega⟩) _ _ (Io.o hb).2
  ·have e2:=Lm (hrs.Jb hbad) hbad _ _ _ _ _ hp;have Cf:((st.bad:Int)==0)=false:=by rw[beq_eq_false_iff_ne];omega
   have HE:=A0 e2;have HB:=A0 hbad;clear e2 hp hrs hO hbad hrep hown hlo;go_wp2;go_ret;refine⟨va,vn,vc,cn,cs,rfl,⟨HOwn.o,HLo.o⟩,by omega,by rw[HE.o];exact HRS.o,HO.o,fun h=>absurd (by rw[←HE.o];exact h) HB.o⟩
structure Oi (tb cap : Nat) (xs : List (Tk × List UInt8)) (w : World) : Prop where
 toks:Sp xs
 tok:∃cur,w.heap[tb]?=some (.cells cur 174 (0,0))/\cur.toList.take (xs.length*4)=Jc xs
 cap:xs.length<=cap
theorem Oi.cell{tb cap:Nat}{xs:List (Tk×List UInt8)}{w:World}(h:Oi tb cap xs w)(i j:Nat)(hi:i<xs.length)(hj:j<4):w.cell? ⟨tb,i*4+j,none⟩=(H9 xs[i])[j]?:=by
 obtain⟨cur,h1,h2⟩:=h.tok;rw[cell_of_row w tb (i*4+j) cur _ _ h1,←U5 xs i j hi hj,←h2,List.getElem?_take,if_pos (by omega),Array.getElem?_toList]
theorem Oi.lt{tb cap:Nat}{xs:List (Tk×List UInt8)}{w:World}(h:Oi tb cap xs w):tb<w.heap.size:=by
 obtain⟨cur,h1,_⟩:=h.tok;exact A5 h1
def opens(k:Nat):Bool:=k==18||k==20||k==22
def M1(k:Nat):Bool:=k==19||k==21||k==23
theorem Zi(ts:List Tk)(i:Nat)(h:i<ts.length)(o:Int):nest (ts.drop i) o=if opens ts[i].k then(if 30<=o then ts[i].line else nest (ts.drop (i+1)) (o+1)) else if M1 ts[i].k then nest (ts.drop (i+1)) (o-1) else nest (ts.drop (i+1)) o:=by
 rw[List.drop_eq_getElem_cons h,nest];have e1:(ts[i].k=18\/ts[i].k=20\/ts[i].k=22)↔opens ts[i].k=true:=by simp[opens,or_assoc]
 have e2:(ts[i].k=19\/ts[i].k=21\/ts[i].k=23)↔M1 ts[i].k=true:=by simp[M1,or_assoc]
 simp only[e1,e2]
theorem Zh(ts:List Tk)(i:Nat)(h:ts.length<=i)(o:Int):nest (ts.drop i) o=0:=by
 rw[List.drop_eq_nil_of_le h,nest]
theorem Abx:∀k,k<=40->18<=k->((spell k==[40])=(k==18)/\(spell k==[91])=(k==22)/\(spell k==[123])=(k==20)/\(spell k==[41])=(k==19)/\(spell k==[93])=(k==23)/\(spell k==[125])=(k==21)):=by decide +kernel
theorem Zj{tb cap:Nat}{xs:List (Tk×List UInt8)}(w:World)(h:Oi tb cap xs w) :
  Calls Tryz.prog 45 #[.slice (some ⟨tb,0,none⟩) xs.length cap] w fun e w'=>e=.returned (.int .i64 (nest (xs.map (·.1)) 0:Nat))/\Below w.heap.size w w':=by
 have hfew:=h.toks.few;have HH:=A0 h;clear h;go_enter Tryz.func45,Tryz.ntmps45;go_wp2;go_loopg [3,4] xs.length (fun k o v wr=>∃(oi:Int) (n:Nat),o=.int .i64 oi/\v=.int .i64 n/\n+k=xs.length/\nest (xs.map (·.1)) 0=nest ((xs.map (·.1)).drop n) oi/\-(n:Int)<=oi/\oi<=n/\Oi tb cap xs wr/\Below w.heap.size w wr)
 case atStart=>
  exact⟨0,0,rfl,rfl,by omega,rfl,by omega,by omega,HH.o,Below.refl _ _⟩
 case round=>
  clear HH;obtain⟨oi,n,rfl,rfl,hnk,hnest,B5,Ap,ht,hb⟩:=hrel;have HT:=A0 ht;have HB:=A0 hb;have HN:=A0 hnest;clear ht hb hnest;by_cases hlt:n<xs.length
  ·have hlt':n<(xs.map (·.1)).length:=by simpa using hlt
   have HS:=A0 (Zi _ n hlt' oi);have d0:=HT.o.cell n 0 hlt (by omega);have d1:=HT.o.cell n 1 hlt (by omega);have d3:=HT.o.cell n 3 hlt (by omega);have hlo:=HT.o.lt;have hline:=HT.o.toks.line xs[n] (List.getElem_mem hlt);have hok:=HT.o.toks.ok xs[n] (List.getElem_mem hlt);have hx:(xs.map (·.1))[n]=xs[n].1:=by simp
   rw[H9]at d0 d1 d3;simp only[Nat.add_zero,List.getElem?_cons_zero,List.getElem?_cons_succ]at d0 d1 d3;have Bi:Hid (nest ((xs.map (·.1)).drop n) oi=if opens xs[n].1.k then(if 30<=oi then xs[n].1.line else nest ((xs.map (·.1)).drop (n+1)) (oi+1)) else if M1 xs[n].1.k then nest ((xs.map (·.1)).drop (n+1)) (oi-1) else nest ((xs.map (·.1)).drop (n+1)) oi):=by
    show _=_;have:=HS.o;rw[hx]at this;exact this
   clear HS hx;generalize xs[n]=x at *;have h115:=Vy x.1.k hline.2.2;by_cases h18:x.1.k<18
   ·have t1:(Bz x.1.k !=115)=true:=by rw[h115];simpa using h18
    have hopc:opens x.1.k=false/\M1 x.1.k=false:=by
     unfold opens M1;have:∀k,k<18->(k==18||k==20||k==22)=false/\(k==19||k==21||k==23)=false:=by decide
     exact this _ h18
    have HO:=A0 hopc;clear hopc hok h115;go_wp2;go_roundg (gk-1)
    case measure=>omega
    case rel=>
     refine⟨oi,n+1,rfl,rfl,by omega,?_,by omega,by omega,HT.o,HB.o⟩;rw[HN.o,Bi.o,HO.o.1,HO.o.2];rfl
   ·have t1:(Bz x.1.k !=115)=false:=by rw[h115];simpa using h18
    have hS:x.2=spell x.1.k:=(hok (by omega)).trans (by unfold Eu;rw[if_neg (by omega)]);obtain⟨s1,s2,s3,s4,s5,s6⟩:=Abx x.1.k hline.2.2 (by omega);rw[←hS]at s1 s2 s3 s4 s5 s6;by_cases hop:opens x.1.k=true
    ·have hcl:(x.1.k==19)=false/\(x.1.k==23)=false/\(x.1.k==21)=false:=by
      unfold opens at hop;simp only[Bool.or_eq_true,beq_iff_eq]at hop;simp only[beq_eq_false_iff_ne];omega
     rw[hcl.1]at s4;rw[hcl.2.1]at s5;rw[hcl.2.2]at s6;have h3:x.1.k=18\/x.1.k=22\/x.1.k=20:=by
      unfold opens at hop;simp only[Bool.or_eq_true,beq_iff_eq]at hop;omega
     have HOP:=A0 hop;have HX:=A0 hline;clear hop hcl hok h115 hS hline;by_cases h30:30<=oi
     ·rcases h3 with e|e|e;all_goals
       rw[e]at s1 s2 s3;simp only[Nat.reduceBEq]at s1 s2 s3;clear e h18;go_wp2;go_ret;refine⟨?_,HB.o⟩;rw[HN.o,Bi.o,HOP.o,if_pos rfl,if_pos h30];rfl
     ·rcases h3 with e|e|e;all_goals
       rw[e]at s1 s2 s3;simp only[Nat.reduceBEq]at s1 s2 s3;clear e h18;go_wp2;go_roundg (gk-1)
       case measure=>omega
       case rel=>
        refine⟨oi+1,n+1,rfl,rfl,by omega,?_,by omega,by omega,HT.o,HB.o⟩;rw[HN.o,Bi.o,HOP.o,if_pos rfl,if_neg (by omega)]
    ·have hop':(x.1.k==18)=false/\(x.1.k==22)=false/\(x.1.k==20)=false:=by
      unfold opens at hop;simp only[Bool.or_eq_true,beq_iff_eq]at hop;simp only[beq_eq_false_iff_ne];omega
     rw[hop'.1]at s1;rw[hop'.2.1]at s2;rw[hop'.2.2]at s3;have HOP:Hid (opens x.1.k=false):=by
      show _=_;simpa using hop
     clear hop hop' hok h115 hS hline;by_cases hcl:M1 x.1.k=true
     ·have h3:x.1.k=19\/x.1.k=23\/x.1.k=21:=by
       unfold M1 at hcl;simp only[Bool.or_eq_true,beq_iff_eq]at hcl;omega
      have HCL:=A0 hcl;clear hcl;rcases h3 with e|e|e;all_goals
       rw[e]at s4 s5 s6;simp only[Nat.reduceBEq]at s4 s5 s6;clear e h18;go_wp2;go_roundg (gk-1)
       case measure=>omega
       case rel=>
        refine⟨oi-1,n+1,rfl,rfl,by omega,?_,by omega,by omega,HT.o,HB.o⟩;rw[HN.o,Bi.o,HOP.o,HCL.o];rfl
     ·have hc':(x.1.k==19)=false/\(x.1.k==23)=false/\(x.1.k==21)=false:=by
       unfold M1 at hcl;simp only[Bool.or_eq_true,beq_iff_eq]at hcl;simp only[beq_eq_false_iff_ne];omega
      rw[hc'.1]at s4;rw[hc'.2.1]at s5;rw[hc'.2.2]at s6;have HCL:Hid (M1 x.1.k=false):=by
       show _=_;simpa using hcl
      clear hcl hc' h18;go_wp2;go_roundg (gk-1)
      case measure=>omega
      case rel=>
       refine⟨oi,n+1,rfl,rfl,by omega,?_,by omega,by omega,HT.o,HB.o⟩;rw[HN.o,Bi.o,HOP.o,HCL.o];rfl
  ·have HE:=A0 (Zh (xs.map (·.1)) n (by simpa using hlt) oi);go_wp2;go_ret;refine⟨?_,HB.o⟩;rw[HN.o,HE.o];rfl
end
end Go.Proofs.YtjdlndhfaaolaaaGreatDoor
