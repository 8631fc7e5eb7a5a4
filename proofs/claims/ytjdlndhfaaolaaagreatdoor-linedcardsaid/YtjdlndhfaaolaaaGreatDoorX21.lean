import Derived.Test.YtjdlndhfaaolaaaGreatDoorX20
set_option maxHeartbeats 20000000
namespace Go.Proofs.YtjdlndhfaaolaaaGreatDoor
section
set_option maxRecDepth 100000
open Go.RowKit
open Go.Deep (BT)
def A5t(b tb cap te:Nat)(ts:List Tk)(n:Nat)(r:BT A3×PS)(w:World)(k:Nat)(wr:World):Prop:=
 ∃(acc:BT A3) (st:PS) (va:Option Addr) (vn vc:Nat) (cs:List Value),k<=n/\Ab k 10 0 acc st=some r/\PR b tb cap te ts wr st/\A5 b w wr/\cs.length+k<=n+1/\
  wr.heap[w.heap.size]?=some (.cells #[.slice va vn vc] 140 (0,0))/\
  Cr (fun g=>w.heap.size<g) wr 142 1 (.slice va vn vc) cs.length cs/\(st.bad=0->Al (fun g=>w.heap.size<g/\(Value.slice va vn vc).ownBlock≠some g) wr acc cs)
def A5s(b tb cap te:Nat)(ts:List Tk)(w:World)(r:BT A3×PS)(e:Ending)(w':World):Prop:=
 ∃va vn vc cs,e=.returned (.pointer (some ⟨w.heap.size,0,none⟩))/\w'.heap[w.heap.size]?=some (.cells #[.slice va vn vc] 140 (0,0))/\
  Cr (fun g=>w.heap.size<g) w' 142 1 (.slice va vn vc) cs.length cs/\PR b tb cap te ts w' r.2/\A5 b w w'/\(r.2.bad=0->Al (fun g=>w.heap.size<g) w' r.1 cs)
theorem Q4{w:World}{g:Nat}{a0:Value}{t:TypeId}(h:w.heap[g]?=some (.cells #[a0] t (0,0))):w.cell? ⟨g,0,none⟩=some a0/\(∀o,w.frozen? ⟨g,o,none⟩=false)/\g<w.heap.size:=⟨A7 h 0 _ rfl,Ci h,A6 h⟩
theorem j7{b n g X:Nat}{wr w4 w5:World}{T:TypeId}{v val:Value}{m:Nat}{cs cs0:List Value}{acc x:BT A3}(hb:b<=n)(hn:n<wr.heap.size)(hr:Al (fun g=>n<g/\v.ownBlock≠some g) wr acc cs)(ho:A5 b wr w4)(hx:Al (fun g=>wr.heap.size<=g) w4 x [val])(hown:wr.ownsRow 0 T 1 v m cs0)
  (hgrow:w4.grownBy w5 v.ownBlock) (hX:X<=n) (hat:v.ownBlock=some g\/g=w4.heap.size+1) (u:Value):Al (fun k=>n<k/\(some g:Option Nat)≠some k) (w5.setCell ⟨X,0,none⟩ u) (Co acc x) (cs++[val]):=by
 have hlt:=Bg hown;have hs:=ho.size;have hset:∀k,n<k->(w5.setCell ⟨X,0,none⟩ u).heap[k]?=w5.heap[k]?:=fun k hk=>Below.heap_setCell _ _ _ _ (by show k≠X;omega);refine Al.app _ _ _ _ (Al.keep ?_ _ _ hr) (Al.keep ?_ _ _ hx)
 ·intro k ⟨h1,h2⟩ hk;refine⟨(hset k h1).trans ((hgrow.block k z4sa (fun e=>h2 e.symm)).trans (ho.block k hk z4sa)),h1,fun e=>?_⟩;have e:=Option.some.inj e;subst e;rcases hat with h|h
  ·exact h2 h
  ·omega
 ·intro k h1 hk;refine⟨(hset k z4sa).trans (hgrow.block k hk (fun e=>?_)),by omega,fun e=>?_⟩
  ·have:=hlt k e.symm;omega
  ·exact z4ga
theorem z0ea {P:Prop} (h:P:=by
  have lw5:=En.size;replace lw5:w2.heap.size<=w5.heap.size:=lw5;have hb25:A5 b wr w5:=(Below.only Aa.o).drew.trans En;have hne6:∀k,k≠w.heap.size->(w6.setCell ⟨w.heap.size,0,none⟩ (.slice (some ⟨g6,0,none⟩) (cs.length+1) cap6)).heap[k]?=w6.heap[k]?:=fun k hk=>Below.heap_setCell _ _ _ _ z6ga;have hg6':w.heap.size<g6:=by
   rcases hat6 with h|h
   ·exact(HRow.o g6 h).2.2
   ·omega
  refine⟨Co acc z.1,z.2,some ⟨g6,0,none⟩,cs.length+1,cap6,cs++[.iface ty5 x5],by omega,HZ2.o,PR.other (PR.grown h5 hgrow6 (fun e=>(HRow.o b e).1 rfl) (fun e=>(HRow.o tb e).2.1 rfl)) (by show b≠w.heap.size;omega) (by show tb≠w.heap.size;omega) _,A5.set (p:=⟨w.heap.size,0,none⟩) ((HOr.o.trans hb25).grown hgrow6 (fun k e=>.inr (by have:=(HRow.o k e).2.2;omega))) (.inr (Nat.le_refl _)) _,by simp;omega,?_,⟨B2 (by simpa using hown6) (fun k hk _=>hne6 k ?_),fun k hk=>?_⟩,fun hb=>?_⟩
  ·have:=heap_set (j:=0) HPb6.o (.slice (some ⟨g6,0,none⟩) (cs.length+1) cap6);simpa using this
  ·simp only[Value.ownBlock,Option.some.injEq]at hk;omega
  ·simp only[Value.ownBlock,Option.some.injEq]at hk;rw[←hk];exact hg6'
  ·exact j7 z4sa lpb (HRep.o Ae.o) hb25 (Al.weak (by show wr.heap.size<=w2.heap.size;omega) (hr5 hb)) HOwn.o.1 hgrow6 (Nat.le_refl _) hat6 _):P:=h
theorem Agk{b tb cap te:Nat}{ts:List Tk}{n:Nat}(hn:n<=500000)(w:World)(s:PS)(r:BT A3×PS)(hs:PR b tb cap te ts w s)(hp:Ab n 10 0 .nil s=some r) :
  Calls Tryz.prog 78 #[.pointer (some ⟨b,0,none⟩)] w (A5s b tb cap te ts w r):=by
 have HS:=A0 hs;obtain⟨lb,lt,lne⟩:=hs.lt;have HP0:=A0 hp;clear hp hs;go_enter Tryz.func78,Tryz.ntmps78;go_wp2;go_loopg [] n (fun k wr=>A5t b tb cap te ts n r w k wr)
 case atStart=>exact⟨.nil,s,none,0,0,[],Nat.le_refl _,HP0.o,PR.alloc HS.o _,(A5.refl _ _).alloc _,by simp,heap_alloc_new _ _,Om _ _ _ _,fun _=>rfl⟩
 case round=>
  clear HP0 HS;obtain⟨acc,st,va,vn,vc,cs,hkn,hpk,hrs,hO,hcn,hpb,hown,hrep⟩:=hrel;cases gk with
  | zero=>exact absurd hpk (F3 _ _ _ _ _)
  | succ m=>
  have HRS:=A0 hrs;have HOr:=A0 hO;have HOwn:=A0 hown;have HRep:=A0 hrep;have HPb:=A0 hpb;have lwr:=hO.size;have hrow:∀k,(Value.slice va vn vc).ownBlock=some k->k≠b/\k≠tb/\w.heap.size<k:=fun k e=>by have h:w.heap.size<k:=hown.2 k e;omega
  have HRow:=A0 hrow;have lpb:=A6 hpb;by_cases c0:kT st=0
  ·have HE:=A0 (Afz c0 hpk);have tk:((kT st:Int) !=0)=false:=by rw[c0];rfl
   clear c0 hpk hrs hO hrep hown hpb;go_wp2_with fail
   refine(De HRS.o).mono ?_;rintro e w1 ⟨rfl,h1,A1⟩;have H1:=A0 h1;have Bo:=A0 A1;clear h1 A1;go_wp2;go_ret;rw[HE.o];exact⟨va,vn,vc,cs,rfl,Fu Bo.o HPb.o,HOwn.o.keep (fun k hk hl=>⟨Bo.o.block k hl,hk⟩),H1.o,HOr.o.trans (Below.only Bo.o),fun hb=>Al.keep (fun k hk hl=>⟨Bo.o.block k hl,hk.1⟩) _ _ (HRep.o hb)⟩
  ·have Ae:Hid (st.bad=0):=hrs.Gv c0;have tk:((kT st:Int) !=0)=true:=by simpa using c0
   by_cases c4:kT st=4
   ·obtain⟨z,Bq,Bw⟩:=Ag0 c4 hpk;have hm0:m≠0:=by intro e;subst e;exact absurd Bq (F3 _ _ _ _ _)
    obtain⟨q,rfl⟩:∃q,m=q+1:=⟨m-1,by omega⟩;have HZ2:=A0 Bw;have HX:=A0 (fun(W:World) (h:PR b tb cap te ts W st)=>Ag8 (p9 q q (Nat.le_refl _) z4sa) z4sa W st z c4 h Bq);have tk4:((kT st:Int)==4)=true:=ke (c:=4) rfl c4;clear c0 c4 hpk hrs hO hrep hown Bq Bw hpb hrow;go_wp2_with fail
    refine(De HRS.o).mono ?_;rintro e w1 ⟨rfl,h1,A1⟩;have H1:=A0 h1;have Bo:=A0 A1;clear h1 A1;go_wp2_with fail
    refine(De H1.o).mono ?_;rintro e w2 ⟨rfl,h2,A9⟩;have H2:=A0 h2;have Aa:Hid (Below wr.heap.size wr w2):=Bo.o.trans (A9.mono Bo.o.size);have hpb2:=Fu Aa.o HPb.o;obtain⟨y0,fy,ly⟩:=Q4 hpb2;have HPb2:=A0 hpb2;have F2:=Aa.o.size;clear h2 A9 hpb2;have HXd:=A0 (HX.o _ H2.o.drew);go_wp2;go_region_law (first
     | (refine Nw _ w5.heap.size #[.iface ty5 x5] 142 (heap_alloc_new w5 (.cells #[.iface ty5 x5] 142)) rfl (.tmp 16) (.tmp 19) 138 rfl 0 1 16 .nilIface Tryz.underlying138 Xp rfl z4sa (.slice va vn vc) cs.length cs rfl rfl (hown5.alloc _) rfl (fun u hu=>by simp at hu;rw[hu];rfl) z4sa z4sa (Nat.zero_le _) ?_;intro g6 cap6 w6 hown6 hgrow6' hat6' hg6;have hgrow6:w5.grownBy w6 (Value.slice va vn vc).ownBlock:=Md (World.grownBy_alloc w5 (.cells #[.iface ty5 x5] 142) none) hgrow6';have hat6:(Value.slice va vn vc).ownBlock=some g6\/g6=w5.heap.size+1:=(hat6'.imp id (fun e=>e.trans z4wa));have hpb6:=(hgrow6.block w.heap.size (A6 HPb5.o) (fun e=>by have:=HRow.o _ e.symm;omega)).trans HPb5.o;have HPb6:=A0 hpb6;obtain⟨q0,fq,lq⟩:=Q4 hpb6;clear hpb6 hgrow6' hat6')
     | (refine Fg rfl 131 _ _ rfl #[.pointer (some ⟨b,0,none⟩)] (by kernel_rfl) HXd.o ?_;rintro e w5 ⟨ty5,x5,rfl,h5,En,hr5⟩;refine⟨_,rfl,?_⟩;have hpb5:=En.blk (show w2.drew.heap[w.heap.size]?=_ from HPb2.o) z4sa;have HPb5:=A0 hpb5;obtain⟨z0,fz,lz⟩:=Q4 hpb5;have hown5:w5.ownsRow 0 142 1 (.slice va vn vc) cs.length cs:=B2 HOwn.o.1 (fun k hk hl=>((En.block k (Nat.lt_of_lt_of_le hl Aa.o.size) (HRow.o k hk).1).trans (Aa.o.block k hl)));clear hpb5))
    all_goals
     go_wp2;go_roundg (q+1)
     case measure=>omega
     case rel=>
      exact z0ea
   ·obtain⟨z,Bq,Bw⟩:=Ag1 c0 c4 hpk;have HZ2:=A0 Bw;have HX:=A0 (fun(W:World) (h:PR b tb cap te ts W st)=>(p9 m m (Nat.le_refl _) z4sa).stmt W st z h Bq);have tk4:((kT st:Int)==4)=false:=kn (c:=4) rfl c4;clear c0 c4 hpk hrs hO hrep hown Bq Bw hpb hrow;go_wp2_with fail
    refine(De HRS.o).mono ?_;rintro e w1 ⟨rfl,h1,A1⟩;have H1:=A0 h1;have Bo:=A0 A1;clear h1 A1;go_wp2_with fail
    refine(De H1.o).mono ?_;rintro e w2 ⟨rfl,h2,A9⟩;have H2:=A0 h2;have Aa:Hid (Below wr.heap.size wr w2):=Bo.o.trans (A9.mono Bo.o.size);have hpb2:=Fu Aa.o HPb.o;obtain⟨y0,fy,ly⟩:=Q4 hpb2;have HPb2:=A0 hpb2;have F2:=Aa.o.size;clear h2 A9 hpb2;have HXd:=A0 (HX.o _ H2.o.drew);go_wp2;go_region_law (first
     | (refine Nw _ w5.heap.size #[.iface ty5 x5] 142 (heap_alloc_new w5 (.cells #[.iface ty5 x5] 142)) rfl (.tmp 27) (.tmp 30) 138 rfl 0 1 16 .nilIface Tryz.underlying138 Xp rfl z4sa (.slice va vn vc) cs.length cs rfl rfl (hown5.alloc _) rfl (fun u hu=>by simp at hu;rw[hu];rfl) z4sa z4sa (Nat.zero_le _) ?_;intro g6 cap6 w6 hown6 hgrow6' hat6' hg6;have hgrow6:w5.grownBy w6 (Value.slice va vn vc).ownBlock:=Md (World.grownBy_alloc w5 (.cells #[.iface ty5 x5] 142) none) hgrow6';have hat6:(Value.slice va vn vc).ownBlock=some g6\/g6=w5.heap.size+1:=(hat6'.imp id (fun e=>e.trans z4wa));have hpb6:=(hgrow6.block w.heap.size (A6 HPb5.o) (fun e=>by have:=HRow.o _ e.symm;omega)).trans HPb5.o;have HPb6:=A0 hpb6;obtain⟨q0,fq,lq⟩:=Q4 hpb6;clear hpb6 hgrow6' hat6')
     | (refine Fg rfl 132 _ _ rfl #[.pointer (some ⟨b,0,none⟩)] (by kernel_rfl) HXd.o ?_;rintro e w5 ⟨ty5,x5,rfl,h5,En,hr5⟩;refine⟨_,rfl,?_⟩;have hpb5:=En.blk (show w2.drew.heap[w.heap.size]?=_ from HPb2.o) z4sa;have HPb5:=A0 hpb5;obtain⟨z0,fz,lz⟩:=Q4 hpb5;have hown5:w5.ownsRow 0 142 1 (.slice va vn vc) cs.length cs:=B2 HOwn.o.1 (fun k hk hl=>((En.block k (Nat.lt_of_lt_of_le hl Aa.o.size) (HRow.o k hk).1).trans (Aa.o.block k hl)));clear hpb5))
    all_goals
     go_wp2;go_roundg m
     case measure=>omega
     case rel=>
      exact z0ea
structure Lc (tb cap : Nat) (ts : List Tk) (w : World) : Prop where
 toks:V4 ts
 tok:∃cur,w.heap[tb]?=some (.cells cur 198 (0,0))/\cur.toList.take (ts.length*4)=L0 ts
 cap:ts.length<=cap
theorem Lc.cell{tb cap:Nat}{ts:List Tk}{w:World}(h:Lc tb cap ts w)(i j:Nat)(hi:i<ts.length)(hj:j<4):w.cell? ⟨tb,i*4+j,none⟩=(Mx ts[i])[j]?:=by
 exact z2ja
theorem Lc.lt{tb cap:Nat}{ts:List Tk}{w:World}(h:Lc tb cap ts w):tb<w.heap.size:=by
 obtain⟨cur,h1,_⟩:=h.tok;exact A6 h1
theorem Lc.keep{tb cap:Nat}{ts:List Tk}{w w':World}(h:Lc tb cap ts w)(hk:w'.heap[tb]?=w.heap[tb]?):Lc tb cap ts w':=by
 obtain⟨cur,h1,h2⟩:=h.tok;exact⟨h.toks,⟨cur,hk.trans h1,h2⟩,h.cap⟩
def Rw(n:Nat):Nat:=if n=0 then 0 else 1
def Zw(tb cap:Nat)(ts:List Tk)(w:World)(k:Nat)(o v:Value)(wr:World):Prop:=
 ∃(oi:Int) (n:Nat),o=.int .i64 oi/\v=.int .i64 n/\n+k=ts.length/\nest ts 0=nest (ts.drop n) oi/\-(n:Int)<=oi/\oi<=30/\Lc tb cap ts wr/\Below w.heap.size w wr/\wr.heap[w.heap.size]?=some (.cells #[.int .i64 0,.int .i64 0] 50 (0,0))
theorem z50a {P:Prop} (h:P:=by simp[World.setCell];omega):P:=h
theorem z2ia {P:Prop} (h:P:=by
  have hsz:=HSz.o;repeat (first|exact HB.o|refine Below.alloc ?_ z50a _|refine Below.setCell ?_ z4wa _|refine Below.drew ?_)):P:=h
theorem z23a {P:Prop} (h:P:=by
  go_wp2;go_roundg (gk-1)
  case measure=>omega
  case rel=>exact HRel.o _ _ rfl HE.o z4sa z4sa _):P:=h
theorem A25{tb cap:Nat}{ts:List Tk}(w:World)(h:Lc tb cap ts w) :
  Calls Tryz.prog 79 #[.slice (some ⟨tb,0,none⟩) ts.length cap] w fun e w'=>e=.returned (.agg #[.int .i64 (Rw (nest ts 0):Nat),.int .i64 (nest ts 0:Nat)])/\Below w.heap.size w w':=by
 have hfew:=h.toks.Bz;have HH:=A0 h;have ltb:=h.lt;clear h;go_enter Tryz.func79,Tryz.ntmps79;go_wp2;go_loopg [3,8] ts.length (fun k o v wr=>Zw tb cap ts w k o v wr)
 case atStart=>
  exact⟨0,0,rfl,rfl,by omega,rfl,by omega,by omega,HH.o.keep (Below.heap_alloc _ _ _ ltb),(Below.refl _ _).alloc (Nat.le_refl _) _,heap_alloc_new _ _⟩
 case round=>
  clear HH;obtain⟨oi,n,rfl,rfl,hnk,hnest,Bt,B1,ht,hb,hz⟩:=hrel;have HT:=A0 ht;have HB:=A0 hb;have HN:=A0 hnest;have HZ:=A0 hz;have hcap:=ht.cap;obtain⟨z0,z1,fz,lz⟩:=Ja hz;have HSz:=A0 hb.size;clear ht hb hnest hz;by_cases hlt:n<ts.length
  ·have HS:=A0 (Af9 ts n hlt oi);have d0:=HT.o.cell n 0 hlt z4sa;have d1:=HT.o.cell n 1 hlt z4sa;have d2:=HT.o.cell n 2 hlt z4sa;have d3:=HT.o.cell n 3 hlt z4sa;have hlo:=HT.o.lt;have hline:=HT.o.toks.line ts[n] (List.getElem_mem hlt);rw[Mx]at d0 d1 d2 d3;simp only[Nat.add_zero,List.getElem?_cons_zero,List.getElem?_cons_succ]at d0 d1 d2 d3;have HRel:Hid (∀(o:Int) (q:Nat),q=n+1->nest ts 0=nest (ts.drop q) o->-(q:Int)<=o->o<=30->∀O:Obj,Zw tb cap ts w (gk-1) (.int .i64 o) (.int .i64 q) (wr.alloc O)):=by
    intro o q hq h1 h2 h3 O;exact⟨o,q,rfl,rfl,by omega,h1,h2,h3,HT.o.keep (Below.heap_alloc _ _ _ hlo),HB.o.alloc HSz.o _,alloc_old HZ.o⟩
   generalize ts[n]=x at *;by_cases hop:x.k=18\/x.k=22\/x.k=20
   ·have HOp:Hid (opens x.k=true):=by
     show _=_;unfold opens;rcases hop with e|e|e <;> rw[e] <;> rfl
    by_cases h30:oi=30
    ·subst h30;have HE:Hid (nest ts 0=x.line):=by
      show _=_;rw[HN.o,HS.o,HOp.o,if_pos rfl,if_pos z4sa]
     rcases hop with e|e|e;all_goals
      rw[e]at d0;clear e;go_wp2;refine bodyPost_ret (v:=.agg #[.int .i64 1,.int .i64 (x.line:Nat)]) (by simp[results,Tryz.results79,go_sem,z0,z1,lz]) rfl ?_;refine⟨?_,?_⟩
      ·rw[HE.o,Rw,if_neg z4sa];rfl
      ·exact z2ia
    ·have h30':(oi==30)=false:=by rw[beq_eq_false_iff_ne];exact h30
     have HE:Hid (nest ts 0=nest (ts.drop (n+1)) (oi+1)):=by
      show _=_;rw[HN.o,HS.o,HOp.o,if_pos rfl,if_neg z4sa]
     rcases hop with e|e|e;all_goals
      rw[e]at d0;clear e;exact z23a
   ·have HOp:Hid (opens x.k=false):=by
     show _=_;unfold opens;simp only[Bool.or_eq_false_iff,beq_eq_false_iff_ne];omega
    have t18:((x.k:Int)==18)=false:=kn (c:=18) rfl z4sa;have t22:((x.k:Int)==22)=false:=kn (c:=22) rfl z4sa;have t20:((x.k:Int)==20)=false:=kn (c:=20) rfl z4sa;by_cases hcl:x.k=19\/x.k=23\/x.k=21
    ·have HE:Hid (nest ts 0=nest (ts.drop (n+1)) (oi-1)):=by
      show _=_;have hc:P6 x.k=true:=by
       unfold P6;rcases hcl with e|e|e <;> rw[e] <;> rfl
      rw[HN.o,HS.o,HOp.o,hc];rfl
     clear hop;rcases hcl with e|e|e;all_goals
      rw[e]at d0 t18 t20 t22;clear e;exact z23a
    ·have HE:Hid (nest ts 0=nest (ts.drop (n+1)) oi):=by
      show _=_;have hc:P6 x.k=false:=by
       unfold P6;simp only[Bool.or_eq_false_iff,beq_eq_false_iff_ne];omega
      rw[HN.o,HS.o,HOp.o,hc];rfl
     have t19:((x.k:Int)==19)=false:=kn (c:=19) rfl z4sa;have t23:((x.k:Int)==23)=false:=kn (c:=23) rfl z4sa;have t21:((x.k:Int)==21)=false:=kn (c:=21) rfl z4sa;clear hop hcl;exact z23a
  ·have HE:Hid (nest ts 0=0):=by
    show _=_;rw[HN.o,Af7 ts n z4sa oi]
   go_wp2;refine bodyPost_ret (v:=.agg #[.int .i64 0,.int .i64 0]) (by simp[results,Tryz.results79,go_sem,z0,z1]) rfl ?_;refine⟨?_,?_⟩
   ·rw[HE.o];rfl
   ·exact z2ia
theorem Agl{tb cap:Nat}{ts:List Tk}{w:World}(h:Lc tb cap ts w)(h1:0<ts.length)(te:Nat) :
  PR w.heap.size tb cap te ts (w.alloc (.cells #[.slice (some ⟨tb,0,none⟩) ts.length cap,.int .i64 0,.int .i64 0,.int .i64 0] te)) ⟨ts,0⟩:=by
 obtain⟨cur,k1,k2⟩:=h.tok;have:=A6 k1;exact⟨0,h.toks,heap_alloc_new w _,⟨cur,alloc_old k1,k2⟩,by omega,h1,h.cap,fun _=>rfl,fun e=>absurd rfl e⟩
def A5q(w:World)(ts:List Tk)(r:BT A3×PS)(e:Ending)(w':World):Prop:=
 Below w.heap.size w w'/\((r.2.bad≠0/\e=.returned (.tuple #[.pointer none,.agg #[.int .i64 2,.int .i64 (r.2.bad:Nat)]]))\/(r.2.bad=0/\nest ts 0≠0/\e=.returned (.tuple #[.pointer none,.agg #[.int .i64 1,.int .i64 (nest ts 0:Nat)]]))\/
  (r.2.bad=0/\nest ts 0=0/\∃pb va vn vc cs,e=.returned (.tuple #[.pointer (some ⟨pb,0,none⟩),.agg #[.int .i64 0,.int .i64 0]])/\w.heap.size<=pb/\w'.heap[pb]?=some (.cells #[.slice va vn vc] 140 (0,0))/\
   Cr (fun g=>w.heap.size<=g) w' 142 1 (.slice va vn vc) cs.length cs/\Al (fun g=>w.heap.size<=g) w' r.1 cs))
theorem Afs{tb cap:Nat}{ts:List Tk}{n:Nat}(hn:n<=500000)(w:World)(r:BT A3×PS)(h:Lc tb cap ts w)(h1:0<ts.length)(hp:Ab n 10 0 .nil ⟨ts,0⟩=some r) :
  Calls Tryz.prog 50 #[.slice (some ⟨tb,0,none⟩) ts.length cap] w (A5q w ts r):=by
 have HH:=A0 h;have ltb:=h.lt;have HC:Hid (Lc tb cap ts (w.alloc (.cells #[.int .i64 0,.int .i64 0] 50))):=h.keep (Below.heap_alloc _ _ _ ltb);have HS:=A0 (Agl HC.o h1 203);have HX:=A0 (fun(W:World) (hs:PR (w.alloc (.cells #[.int .i64 0,.int .i64 0] 50)).heap.size tb cap 203 ts W ⟨ts,0⟩)=>Agk hn W ⟨ts,0⟩ r hs hp);have hsz:(w.alloc (.cells #[.int .i64 0,.int .i64 0] 50)).heap.size=w.heap.size+1:=by simp
 have HSz:=A0 hsz;clear h hp hsz;go_enter Tryz.func50,Tryz.ntmps50;go_wp2_with fail
 rw[show(w.heap.size+1:Nat)=(w.alloc (.cells #[.int .i64 0,.int .i64 0] 50)).heap.size from HSz.o.symm];refine(HX.o _ HS.o).mono ?_;rintro e w1 ⟨va,vn,vc,cs,rfl,hpb,hown,hrs,hO,hrep⟩;have hR:=hO.blk (alloc_old (heap_alloc_new w (.cells #[.int .i64 0,.int .i64 0] 50))) z4wa;have HTk:=A0 (HC.o.keep (w':=w1) ((hO.block tb z4za z4za).trans (Below.heap_alloc _ _ _ z4za)));have HBel:Hid (Below w.heap.size w w1):=⟨hO.os,hO.tape,hO.output,by have:=hO.size;simp at this;omega,fun k hk=>(hO.block k z4za z4za).trans ((Below.heap_alloc _ _ _ z4za).trans (Below.heap_alloc _ _ _ hk))⟩;obtain⟨x0,x1,fx,lx⟩:=Ja hR;have HR:=A0 hR;obtain⟨pl,hrt⟩:=hrs;have y2:=A7 hrt.rd 2 _ rfl;have y3:=A7 hrt.rd 3 _ rfl;have ly:=A6 hrt.rd;rw[HSz.o]at y2 y3 ly;have HPb:=A0 hpb;have HOwn:=A0 hown;have HRep:=A0 hrep;have lpb:=A6 hpb;have lbad:=PR.A8h ⟨pl,hrt⟩;clear hpb hown hrep hR hO hrt HS HX;by_cases hb:r.2.bad=0
 ·rw[hb]at y2 y3;have HB:=A0 hb;have t0:((O4 0:Nat):Int)=0:=rfl;by_cases hd:nest ts 0=0
  ·clear hb;go_wp2_with fail
   refine(A25 _ HTk.o).mono ?_;rintro e w2 ⟨rfl,A9⟩;have Eg:=Fu A9 HR.o;have Aa:Hid (Below w.heap.size w w2):=HBel.o.trans (A9.mono HBel.o.size);have F2:=A9.size;have HBn:=A0 A9;clear x0 x1 fx lx y2 y3 ly A9;obtain⟨x0,x1,fx,lx⟩:=Ja Eg;clear Eg;rw[hd];have HD:=A0 hd;clear hd;have tn:((Rw 0:Nat):Int)=0:=rfl;go_wp2;refine bodyPost_ret (v:=.tuple #[.pointer (some ⟨w.heap.size+1+1,0,none⟩),.agg #[.int .i64 0,.int .i64 0]]) (by simp[results,Tryz.results50,go_sem,x0,x1,lx]) rfl ?_;have hold:∀k,w.heap.size<k->k<w1.heap.size->(((w2.setCell ⟨w.heap.size,0,none⟩ (.int .i64 0)).setCell ⟨w.heap.size,1,none⟩ (.int .i64 0)).alloc (.cells #[.int .i64 0,.int .i64 0] 50)).heap[k]?=w1.heap[k]?:=by
    intro k h1 h2;rw[Below.heap_alloc _ _ _ z50a,Below.heap_setCell _ _ _ _ (by show k≠w.heap.size;omega),Below.heap_setCell _ _ _ _ (by show k≠w.heap.size;omega)];exact HBn.o.block k h2
   have Az:((w.alloc (.cells #[.int .i64 0,.int .i64 0] 50)).alloc (.cells #[.slice (some ⟨tb,0,none⟩) ts.length cap,.int .i64 0,.int .i64 0,.int .i64 0] 203)).heap.size=w.heap.size+1+1:=by simp
   have hpb:=HPb.o;have hown:=HOwn.o;have hrep:=HRep.o HB.o;rw[Az]at hpb hown hrep lpb;have hk:∀g,w.heap.size+1+1<g->g<w1.heap.size->(((w2.setCell ⟨w.heap.size,0,none⟩ (.int .i64 0)).setCell ⟨w.heap.size,1,none⟩ (.int .i64 0)).alloc (.cells #[.int .i64 0,.int .i64 0] 50)).heap[g]?=w1.heap[g]?/\w.heap.size<=g:=fun g hg hl=>⟨hold g z4sa hl,by omega⟩;refine⟨?_,.inr (.inr ⟨HB.o,HD.o,w.heap.size+1+1,va,vn,vc,cs,rfl,by omega,(hold _ z4sa lpb).trans hpb,hown.keep hk,Al.keep hk _ _ hrep⟩)⟩;repeat (first|exact Aa.o|refine Below.alloc ?_ z50a _|refine Below.setCell ?_ z4wa _|refine Below.drew ?_)
  ·clear hb;go_wp2_with fail
   refine(A25 _ HTk.o).mono ?_;rintro e w2 ⟨rfl,A9⟩;have Eg:=Fu A9 HR.o;have Aa:Hid (Below w.heap.size w w2):=HBel.o.trans (A9.mono HBel.o.size);have F2:=A9.size;have HBn:=A0 A9;clear x0 x1 fx lx y2 y3 ly A9;obtain⟨x0,x1,fx,lx⟩:=Ja Eg;clear Eg;have B9:Rw (nest ts 0)=1:=by unfold Rw;rw[if_neg hd]
   rw[B9];have HD:=A0 hd;clear hd B9;go_wp2;go_region
   all_goals go_wp2
   all_goals refine bodyPost_ret (v:=.tuple #[.pointer none,.agg #[.int .i64 1,.int .i64 (nest ts 0:Nat)]]) (by simp[results,Tryz.results50,go_sem,x0,x1,lx]) rfl ?_
   all_goals refine⟨?_,.inr (.inl ⟨HB.o,HD.o,rfl⟩)⟩
   all_goals repeat (first|exact Aa.o|refine Below.alloc ?_ z50a _|refine Below.setCell ?_ z4wa _|refine Below.drew ?_)
 ·have hbc:O4 r.2.bad=2:=by unfold O4;rw[if_neg hb]
  rw[hbc]at y2;have HB:=A0 hb;clear hb hbc;go_wp2;go_region
  all_goals go_wp2
  all_goals refine bodyPost_ret (v:=.tuple #[.pointer none,.agg #[.int .i64 2,.int .i64 (r.2.bad:Nat)]]) (by simp[results,Tryz.results50,go_sem,x0,x1]) rfl ?_
  all_goals refine⟨?_,.inl ⟨HB.o,rfl⟩⟩
  all_goals repeat (first|exact HBel.o|refine Below.alloc ?_ z50a _|refine Below.setCell ?_ z4wa _|refine Below.drew ?_)
end
end Go.Proofs.YtjdlndhfaaolaaaGreatDoor
