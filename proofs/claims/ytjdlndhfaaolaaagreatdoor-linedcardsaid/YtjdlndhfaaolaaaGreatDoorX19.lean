import Derived.Deep.DrawnRows
import Derived.Test.YtjdlndhfaaolaaaGreatDoorX17
import Derived.Test.YtjdlndhfaaolaaaGreatDoorX18
set_option maxHeartbeats 20000000
namespace Go.Proofs.YtjdlndhfaaolaaaGreatDoor
section
set_option maxRecDepth 100000
open Go.RowKit
open Go.Deep (BT)
theorem Yy{k a:Nat}(h:rowOf k=a+1):k=27\/k=29\/k=30\/k=31\/k=32\/k=33\/k=34\/k=35\/k=36\/k=37\/k=38\/k=39\/k=40:=by
 unfold rowOf at h;split at h
 ·omega
 split at h
 ·omega
 split at h
 ·omega
 split at h
 ·omega
 split at h
 ·omega
 split at h
 ·omega
 ·omega
theorem Ai6{k:Nat}:rowOf k<=6:=by
 unfold rowOf;split
 ·omega
 split
 ·omega
 split
 ·omega
 split
 ·omega
 split
 ·omega
 split
 ·omega
 ·omega
theorem Vu{k a:Nat}(h:rowOf k=a+1):¬(100+k=31\/100+k=32)/\248=Cc (100+k)/\295=D8 (100+k):=by
 rcases Yy h with rfl|rfl|rfl|rfl|rfl|rfl|rfl|rfl|rfl|rfl|rfl|rfl|rfl <;> exact⟨by decide,rfl,rfl⟩
theorem A8o{k a:Nat}(h:rowOf k=a+1)(D:Nat->Prop)(w:World)(line:Nat)(x y:Value):Cm D w (Au (100+k) line) #[Gd line,.int .i64 (k:Nat),x,y] [x,y]:=by
 rcases Yy h with rfl|rfl|rfl|rfl|rfl|rfl|rfl|rfl|rfl|rfl|rfl|rfl|rfl <;> exact⟨x,y,rfl,rfl⟩
def A5j(b tb cap te:Nat)(ts:List Tk)(a n:Nat)(r:BT A3×PS)(w:World)(k:Nat)(v:Value)(wr:World):Prop:=
 ∃(acc:BT A3) (st:PS) (ty:TypeId) (x:Value),v=.iface ty x/\k<=n/\Ab k 1 a acc st=some r/\PR b tb cap te ts wr st/\A5 b w wr/\(st.bad=0->Al (fun g=>w.heap.size<=g) wr acc [.iface ty x])
theorem Ag6{b tb cap te:Nat}{ts:List Tk}{n:Nat}(ih:∀m,m<=n->Iw b tb cap te ts m)(w:World)(s:PS)(a:Nat)(r:BT A3×PS)(ha:a<=6)(hs:PR b tb cap te ts w s)(hp:Ab (n+1) 0 a .nil s=some r) :
  Calls Tryz.prog 232 #[.pointer (some ⟨b,0,none⟩),.int .i64 ((a+1:Nat):Nat)] w (Hr b tb cap te ts w r):=by
 have HS:=A0 hs;have lb:=hs.lt;by_cases c6:a=6
 ·subst c6;have HX:=A0 (fun(W:World) (h:PR b tb cap te ts W s)=>(ih n (Nat.le_refl _)).unary W s r h (Ya hp));clear hp hs ha;go_enter Tryz.func232,Tryz.ntmps232;go_wp2_with fail
  refine(HX.o _ HS.o).mono ?_;rintro e w1 ⟨ty1,x1,rfl,h1,Bt,B8⟩;have Bo:=A0 Bt;have Av:Hid (A5 b w w1):=(A5.refl b w).trans Bo.o;have Df:=Av.o.size;have Jj:=A0 B8;have H1:=A0 h1;clear h1 Bt B8;go_wp2;go_ret;exact⟨_,_,rfl,H1.o,Av.o,fun hb=>Al.weak z4sa (Jj.o hb)⟩
 ·obtain⟨x,hx,hpr⟩:=Y9 c6 hp;have HX:=A0 (fun(W:World) (h:PR b tb cap te ts W s)=>(ih n (Nat.le_refl _)).expr W s (a+1) x z4sa h hx);have HP0:=A0 hpr;have t6:decide (6<((a+1:Nat):Int))=false:=decide_eq_false z4sa;clear hp hs hx hpr;go_enter Tryz.func232,Tryz.ntmps232;go_wp2_with fail
  refine(HX.o _ HS.o).mono ?_;rintro e w1 ⟨ty1,x1,rfl,h1,Bt,B8⟩;have Bo:=A0 Bt;have Av:Hid (A5 b w w1):=(A5.refl b w).trans Bo.o;have Df:=Av.o.size;have Jj:=A0 B8;have H1:=A0 h1;clear h1 Bt B8;go_wp2;go_loopg [5] n (fun k v wr=>A5j b tb cap te ts a n r w k v wr)
  case atStart=>exact⟨x.1,x.2,ty1,x1,rfl,Nat.le_refl _,HP0.o,H1.o,Av.o,Jj.o⟩
  case round=>
   clear HP0 H1 Av Jj Bo HX HS Df;obtain⟨acc,st,ty,x0,rfl,hkn,hpk,hrs,hO,hrep⟩:=hrel;cases gk with
   | zero=>exact absurd hpk (F3 _ _ _ _ _)
   | succ m=>
   have HRS:=A0 hrs;have HOr:=A0 hO;have HRep:=A0 hrep;have lwr:=hO.size;have hk40:=hrs.Rn;have hrl:=Ai6 (k:=kT st);by_cases cr:rowOf (kT st)=a+1
   ·obtain⟨z,Bq,Bw⟩:=Yd cr hpk;have HZ2:=A0 Bw;have HX:=A0 (fun(W:World) (h:PR b tb cap te ts W (Aj st))=>(ih m z4sa).expr W (Aj st) (a+1) z z4sa h Bq);have tk:((rowOf (kT st):Int)==((a+1:Nat):Int))=true:=by rw[cr];simp
    have Ae:Hid (st.bad=0):=hrs.Gv (by have:=Yy cr;omega);have HCr:=A0 cr;clear Bq Bw cr hpk hrs hO hrep;go_wp2_with fail
    refine(De HRS.o).mono ?_;rintro e w4 ⟨rfl,h4,Bi⟩;have Cl:=A0 (Below.only (b:=b) Bi);have C8:Hid (A5 b wr w4):=(A5.refl b wr).trans Cl.o;have lw4:=C8.o.size;have H4:=A0 h4;clear h4 Bi;go_wp2_with fail
    refine(A38 _ hk40 _).mono ?_;rintro e w' ⟨rfl,rfl⟩;go_wp2_with fail
    refine(Hl H4.o).mono ?_;rintro e w5 ⟨ln5,nn5,S5,rfl,htk5,h5,En⟩;have Ep:=A0 En;have C6:Hid (A5 b wr w5):=C8.o.trans Ep.o;have lw5:=C6.o.size;have HTk5:=A0 htk5;have H5:=A0 h5;clear h5 En htk5;have Gq:=A0 (heap_alloc_new w5 (.cells #[.int .i64 (kT st:Nat),.int .i64 ln5,.string ⟨S5.toArray⟩,.int .i64 nn5] 198));go_wp2_with fail
    refine(HX.o _ (PR.alloc H5.o _)).mono ?_;rintro e w6 ⟨ty6,x6,rfl,h6,Jn,hr6⟩;have HP6:=A0 Jn;have D9:Hid (A5 b wr w6):=(C6.o.alloc _).trans HP6.o;have lw6:=D9.o.size;have HR6:=A0 hr6;have H6:=A0 h6;clear h6 Jn hr6;have hT6:=HP6.o.blk Gq.o z4sa;obtain⟨y0,y1,y2,y3,fy,ly⟩:=Dt hT6;clear hT6;go_wp2;go_roundg m
    case measure=>omega
    case rel=>
     refine⟨_,_,_,_,rfl,by omega,HZ2.o,PR.alloc H6.o _,(HOr.o.trans D9.o).alloc _,fun hb=>?_⟩;have hcl:=Hz (w:=w) (W:=w6) (r:=(nd (Au (100+kT st) (An st).line) (Co acc z.1),z.2)) (l:=Au (100+kT st) (An st).line) (ch:=Co acc z.1) (ks:=[.iface ty x0,.iface ty6 x6]) (cs:=#[Gd (An st).line,.int .i64 (kT st:Nat),.iface ty x0,.iface ty6 x6]) H6.o (HOr.o.trans D9.o) rfl (Vu HCr.o).1 (Vu HCr.o).2.1 (Vu HCr.o).2.2 (fun hb=>⟨A8o HCr.o _ _ _ _ _,Al.app _ _ [_] [_] (Al.only z4sa D9.o (HRep.o Ae.o)) (Al.weak z4za (HR6.o hb))⟩);obtain⟨t',x',e',_,_,hrr⟩:=hcl;injection e' with e';rw[←e']at hrr;rw[(HTk5.o Ae.o).1];exact hrr hb
   ·have HE:=A0 (Yc cr hpk);have tk:((rowOf (kT st):Int)==((a+1:Nat):Int))=false:=by rw[beq_eq_false_iff_ne];omega
    clear cr hpk hrs hO hrep;go_wp2_with fail
    refine(De HRS.o).mono ?_;rintro e w4 ⟨rfl,h4,Bi⟩;have Cl:=A0 (Below.only (b:=b) Bi);have C8:Hid (A5 b wr w4):=(A5.refl b wr).trans Cl.o;have lw4:=C8.o.size;have H4:=A0 h4;clear h4 Bi;go_wp2_with fail
    refine(A38 _ hk40 _).mono ?_;rintro e w' ⟨rfl,rfl⟩;exact z3ea
theorem Qc(s:PS)(h:s.bad=0):(Dh s).ts=[J0]:=by unfold Dh;rw[if_pos h]
theorem Abw{n:Nat}{s:PS}{r:BT A3×PS}(hk:kT s=0)(h:Ab n 4 0 .nil s=some r):r.2=Dh s:=by
 cases n with
 | zero=>exact absurd h (F3 _ _ _ _ _)
 | succ n=>rw[Ye z4sa z4sa z4sa z4sa z4sa z4sa z4sa z4sa z4sa z4sa h]
theorem Abv{n:Nat}{s:PS}{r:BT A3×PS}(h0:s.bad=0)(hf:(Dh s).bad≠0)(hk:kT s=0)(h:Ab n 2 0 .nil s=some r):r.2=Dh s:=by
 cases n with
 | zero=>exact absurd h (F3 _ _ _ _ _)
 | succ n=>
  obtain⟨x,h1,h2⟩:=Yf z4sa z4sa h;have e:=Abw hk h1;rw[Qn (by rw[e];exact Qc s h0) (by rw[e];exact hf) _ _ _ _ _ h2,e]
theorem Abu{s:PS}(h0:s.bad=0)(hf:(Dh s).bad≠0)(hk:kT s=0):∀n a r,Ab n 0 a .nil s=some r->r.2=Dh s:=by
 intro n;induction n with
 | zero=>intro a r h;exact absurd h (F3 _ _ _ _ _)
 | succ n ih=>
  intro a r h;by_cases h6:a=6
  ·subst h6;exact Abv h0 hf hk (Ya h)
  ·obtain⟨x,h1,h2⟩:=Y9 h6 h;have e:=ih _ _ h1;rw[Qn (by rw[e];exact Qc s h0) (by rw[e];exact hf) _ _ _ _ _ h2,e]
theorem A0n{s:PS}(h:s.bad≠0):Dh s=s:=by unfold Dh;rw[if_neg h]
theorem A52{k:Nat}{s:PS}(hk:k≠0)(h:s.bad≠0)(ht:s.ts=[J0]):Aw k s=s:=by
 unfold Aw;rw[if_neg (by unfold kT An;rw[ht];show ¬(0=k);omega),A0n h]
theorem Abx{n:Nat}{s:PS}{r:BT A3×PS}(h0:s.bad=0)(hf:(Dh s).bad≠0)(hk:kT s=0)(h:Ab n 9 0 .nil s=some r):r.2=Dh s:=by
 cases n with
 | zero=>exact absurd h (F3 _ _ _ _ _)
 | succ n=>
  obtain⟨x,h1,h2⟩:=U6 z4sa h;have e:=Abu h0 hf hk _ _ _ h1;have ek:kT x.2=0:=by rw[e];unfold Dh;rw[if_pos h0];rfl
  rcases h2 with⟨_,h3,_⟩|⟨_,h3,_⟩|⟨_,h3⟩
  ·omega
  ·omega
  ·rw[h3];show Aw 25 x.2=_;rw[A52 z4ta (by rw[e];exact hf) (by rw[e];exact Qc s h0),e]
def A5k(b tb cap te:Nat)(ts:List Tk)(n:Nat)(r:BT A3×PS)(w:World)(k:Nat)(v:Value)(wr:World):Prop:=
 ∃(acc:BT A3) (st:PS) (va:Option Addr) (vn vc:Nat) (cs:List Value),v=.slice va vn vc/\k<=n/\Ab k 8 0 acc st=some r/\PR b tb cap te ts wr st/\A5 b w wr/\cs.length+k<=n+1/\
  Cr (fun g=>w.heap.size<=g) wr 142 1 (.slice va vn vc) cs.length cs/\(st.bad=0->Al (fun g=>w.heap.size<=g/\(Value.slice va vn vc).ownBlock≠some g) wr acc cs)
theorem z2xa {P:Prop} (h:P:=by
  simp only[Value.ownBlock,Option.some.injEq]at hk;rw[←hk];rcases hat7 with h|h
  ·exact(hrow g7 h).2.2
  ·show w.heap.size<=g7;omega):P:=h
theorem Ag7{b tb cap te:Nat}{ts:List Tk}{n:Nat}(ih:∀m,m<=n->Iw b tb cap te ts m)(hn:n<=500000)(w:World)(s:PS)(r:BT A3×PS)(hs:PR b tb cap te ts w s)(hp:Ab (n+1) 7 0 .nil s=some r) :
  Calls Tryz.prog 185 #[.pointer (some ⟨b,0,none⟩)] w (Sw 142 b tb cap te ts w r):=by
 have HS:=A0 hs;obtain⟨lb,lt,lne⟩:=hs.lt;have HP0:=A0 (Y7 hp);clear hp hs;go_enter Tryz.func185,Tryz.ntmps185;go_wp2_with fail
 refine(J8 HS.o 20).mono ?_;rintro e w1 ⟨kk1,Is,nn1,S1,rfl,Fj,h1,Bt⟩;have Bo:=A0 Bt;have Av:Hid (A5 b w w1):=(A5.refl b w).trans Bo.o;have Df:=Av.o.size;have Jk:=A0 Fj;have H1:=A0 h1;clear h1 Bt Fj;go_wp2;go_loopg [3] n (fun k v wr=>A5k b tb cap te ts n r w k v wr)
 case atStart=>exact⟨.nil,_,none,0,0,[],rfl,Nat.le_refl _,HP0.o,H1.o,Av.o,by simp,Om _ _ _ _,fun _=>rfl⟩
 case round=>
  clear HP0 H1 Av Bo HS Df Jk;obtain⟨acc,st,va,vn,vc,cs,rfl,hkn,hpk,hrs,hO,hcn,hown,hrep⟩:=hrel;cases gk with
  | zero=>exact absurd hpk (F3 _ _ _ _ _)
  | succ m=>
  have HRS:=A0 hrs;have HOr:=A0 hO;have HOwn:=A0 hown;have HRep:=A0 hrep;have lwr:=hO.size;have hne:(Value.slice va vn vc).ownBlock≠some b:=fun e=>by have h:w.heap.size<=b:=hown.2 b e;omega
  have HFb:Hid (st.bad=0->1<=(An st).line):=fun e=>(hrs.lines e).1;have HStk:=A0 hrs.Mi;by_cases c21:kT st=21
  ·have HE:=A0 (A2c c21 hpk);have tk:((kT st:Int) !=21)=false:=by rw[c21];rfl
   have HW:Hid (Aw 21 st=Aj st):=by show _=_;unfold Aw;rw[if_pos c21]
   clear c21 hpk hrs hO hrep hown;go_wp2_with fail
   refine(De HRS.o).mono ?_;rintro e w4 ⟨rfl,h4,Bi⟩;have Cl:=A0 (Below.only (b:=b) Bi);have C8:Hid (A5 b wr w4):=(A5.refl b wr).trans Cl.o;have lw4:=C8.o.size;have H4:=A0 h4;clear h4 Bi;go_wp2_with fail
   refine(J8 H4.o 21).mono ?_;rintro e w5 ⟨kk5,ln5,nn5,S5,rfl,htk5,h5,En⟩;have Ep:=A0 En;have C6:Hid (A5 b wr w5):=C8.o.trans Ep.o;have lw5:=C6.o.size;have HTk5:=A0 htk5;have H5:=A0 h5;clear h5 En htk5;go_wp2;go_ret;rw[HE.o];refine⟨va,vn,vc,cs,rfl,⟨B2 HOwn.o.1 (fun k hk hl=>C6.o.block k hl (fun e=>hne z5da)),HOwn.o.2⟩,by rw[←HW.o];exact H5.o,HOr.o.trans C6.o,fun hb=>?_⟩;rw[Qv]at hb;exact Al.keep (fun k hk hl=>⟨C6.o.block k hl z4sa,hk.1⟩) _ _ (HRep.o hb)
  by_cases c0:kT st=0
  ·have HE:Hid (r.2=Aw 21 st/\r.2.bad≠0):=by
    have hw:Aw 21 st=Dh st:=by unfold Aw;rw[if_neg c21]
    by_cases h0:st.bad=0
    ·obtain⟨x,hx,Fc⟩:=Y8 c21 h0 hpk;have hf:=Xe HFb.o;have e:=Abx h0 hf c0 hx;have e2:=Qn (by rw[e];exact Qc st h0) (by rw[e];exact hf) _ _ _ _ _ Fc;rw[e2,e,hw];exact⟨rfl,hf⟩
    ·have e2:=Qn (HStk.o h0) h0 _ _ _ _ _ hpk;rw[e2,hw,A0n h0];exact⟨rfl,h0⟩
   have tk:((kT st:Int) !=21)=true:=by rw[c0];rfl
   have tk0:((kT st:Int) !=0)=false:=by rw[c0];rfl
   clear c21 c0 hpk hrs hO hrep hown;go_wp2_with fail
   refine(De HRS.o).mono ?_;rintro e w4 ⟨rfl,h4,Bi⟩;have Cl:=A0 (Below.only (b:=b) Bi);have C8:Hid (A5 b wr w4):=(A5.refl b wr).trans Cl.o;have lw4:=C8.o.size;have H4:=A0 h4;clear h4 Bi;go_wp2_with fail
   refine(De H4.o).mono ?_;rintro e w5 ⟨rfl,h5,Dd⟩;have Ep:=A0 (Below.only (b:=b) Dd);have C6:Hid (A5 b wr w5):=C8.o.trans Ep.o;have lw5:=C6.o.size;have H5:=A0 h5;clear h5 Dd;go_wp2_with fail
   refine(J8 H5.o 21).mono ?_;rintro e w6 ⟨kk6,ln6,nn6,S6,rfl,htk6,h6,Jn⟩;have HP6:=A0 Jn;have D9:Hid (A5 b wr w6):=C6.o.trans HP6.o;have lw6:=D9.o.size;have HTk6:=A0 htk6;have H6:=A0 h6;clear h6 Jn htk6;go_wp2;go_ret;refine⟨va,vn,vc,cs,rfl,⟨B2 HOwn.o.1 (fun k hk hl=>D9.o.block k hl (fun e=>hne z5da)),HOwn.o.2⟩,by rw[HE.o.1];exact H6.o,HOr.o.trans D9.o,fun hb=>absurd hb HE.o.2⟩
  have Ae:Hid (st.bad=0):=hrs.Gv c0;obtain⟨z,Bq,Bw⟩:=Y8 c21 Ae.o hpk;have HZ2:=A0 Bw;have HX:=A0 (fun(W:World) (h:PR b tb cap te ts W st)=>(ih m z4sa).stmt W st z h Bq);have tk:((kT st:Int) !=21)=true:=by simp;omega
  have tk0:((kT st:Int) !=0)=true:=by simpa using c0
  clear c21 c0 hpk hrs hO hrep hown Bq Bw;go_wp2_with fail
  refine(De HRS.o).mono ?_;rintro e w4 ⟨rfl,h4,Bi⟩;have Cl:=A0 (Below.only (b:=b) Bi);have C8:Hid (A5 b wr w4):=(A5.refl b wr).trans Cl.o;have lw4:=C8.o.size;have H4:=A0 h4;clear h4 Bi;go_wp2_with fail
  refine(De H4.o).mono ?_;rintro e w5 ⟨rfl,h5,Dd⟩;have Ep:=A0 (Below.only (b:=b) Dd);have C6:Hid (A5 b wr w5):=C8.o.trans Ep.o;have lw5:=C6.o.size;have H5:=A0 h5;clear h5 Dd;go_wp2_with fail
  refine(HX.o _ H5.o).mono ?_;rintro e w6 ⟨ty6,x6,rfl,h6,Jn,hr6⟩;have HP6:=A0 Jn;have D9:Hid (A5 b wr w6):=C6.o.trans HP6.o;have lw6:=D9.o.size;have HR6:=A0 hr6;have H6:=A0 h6;clear h6 Jn hr6;have hown5:w6.ownsRow 0 142 1 (.slice va vn vc) cs.length cs:=B2 HOwn.o.1 (fun k hk hl=>D9.o.block k hl (fun e=>hne z5da));go_wp2_with (at_builtin;refine Ju w6 #[.iface ty6 x6] 142 rfl (.tmp 14) (.tmp 17) 138 rfl 0 1 16 .nilIface Tryz.underlying138 Xp rfl z4sa _ _ _ rfl rfl hown5 rfl (fun u hu=>by simp at hu;rw[hu];rfl) z4sa z4sa (Nat.zero_le _) ?_;intro g7 cap7 w7 hown7 hgrow7 hat7 hg7)
  replace hgrow7:w6.grownBy w7 (Value.slice va vn vc).ownBlock:=hgrow7;replace hat7:(Value.slice va vn vc).ownBlock=some g7\/g7=w6.heap.size+1:=hat7;have hrow:∀k,(Value.slice va vn vc).ownBlock=some k->k≠b/\k≠tb/\w.heap.size<=k:=fun k e=>by have h:w.heap.size<=k:=HOwn.o.2 k e;omega
  go_roundg m
  case measure=>omega
  case rel=>
   refine⟨Co acc z.1,z.2,some ⟨g7,0,none⟩,cs.length+1,cap7,cs++[.iface ty6 x6],rfl,by omega,HZ2.o,PR.grown H6.o hgrow7 (fun e=>(hrow b e).1 rfl) (fun e=>(hrow tb e).2.1 rfl),(HOr.o.trans D9.o).grown hgrow7 (fun k e=>.inr (hrow k e).2.2),by simp;omega,⟨by simpa using hown7,fun k hk=>?_⟩,fun hb=>?_⟩
   ·exact z2xa
   ·exact Vp lb lwr (HRep.o Ae.o) D9.o (Al.weak z4sa (HR6.o hb)) HOwn.o.1 hgrow7 hat7
end
section
set_option maxRecDepth 100000
open Go.RowKit
open Go.Deep (BT)
variable {b tb cap te:Nat}{ts:List Tk}{n:Nat}
theorem Al.blk{D:Nat->Prop}{w:World}{kd:Nat}(hk:kd=31\/kd=32){va:Option Addr}{vn vc:Nat}{cs:List Value}{f:BT A3}(ho:Cr D w 142 1 (.slice va vn vc) cs.length cs)(hr:Al D w f cs):Al D w (nd (Au kd 0) f) [.slice va vn vc]:=by
 refine Al.one ?_ hr;unfold Bh;rw[if_pos (show(Au kd 0).kd=31\/(Au kd 0).kd=32 from hk)];exact⟨⟨_,_,_,rfl⟩,ho⟩
theorem Age(ih:Iw b tb cap te ts n)(w:World)(s:PS)(r:BT A3×PS)(hk:kT s=5)(hs:PR b tb cap te ts w s)(hp:Ab (n+1) 9 0 .nil s=some r) :
  Calls Tryz.prog 186 #[.pointer (some ⟨b,0,none⟩)] w (Hr b tb cap te ts w r):=by
 obtain⟨x,hx,hr⟩:=Yj hk hp;have HS:=A0 hs;have lb:=hs.lt;have HR:=A0 hr;have HXp:=A0 hx;have HW:Hid (Aw 5 s=Aj s):=by show _=_;unfold Aw;rw[if_pos hk]
 have HX:=A0 (fun(W:World) (h:PR b tb cap te ts W (Aw 26 (Aw 1 (Aj s))))=>Km ih W (Aw 26 (Aw 1 (Aj s))) x h hx);clear hp hs hk hx hr;go_enter Tryz.func186,Tryz.ntmps186;go_wp2_with fail
 refine(J8 HS.o 5).mono ?_;rintro e w1 ⟨kk1,Is,nn1,S1,rfl,Fj,h1,Bt⟩;have Bo:=A0 Bt;have Av:Hid (A5 b w w1):=(A5.refl b w).trans Bo.o;have Df:=Av.o.size;have Jk:=A0 Fj;rw[HW.o]at h1;have H1:=A0 h1;clear h1 Bt Fj;go_wp2_with fail
 refine(Tm H1.o).mono ?_;rintro e w2 ⟨Gc,S2,rfl,Ey,h2,B1⟩;have B4:=A0 B1;have B7:Hid (A5 b w w2):=Av.o.trans B4.o;have F2:=B7.o.size;have Ee:=A0 Ey;have H2:=A0 h2;clear h2 B1 Ey;have HT2:=A0 (heap_alloc_new w2 (.cells #[.int .i64 Gc,.string ⟨S2.toArray⟩] 148));have lw2b:w2.heap.size<(w2.alloc (.cells #[.int .i64 Gc,.string ⟨S2.toArray⟩] 148)).heap.size:=by simp
 go_wp2_with fail
 refine(J8 (PR.alloc H2.o _) 26).mono ?_;rintro e w3 ⟨kk3,ln3,nn3,S3,rfl,htk3,h3,Cj⟩;have Bc:=A0 Cj;have Cd:Hid (A5 b w w3):=(B7.o.alloc _).trans Bc.o;have lw3:=Cd.o.size;have HTk3:=A0 htk3;have H3:=A0 h3;clear h3 Cj htk3;have HT3:=A0 (Bc.o.blk HT2.o z4sa);go_wp2_with fail
 refine(HX.o _ H3.o).mono ?_;rintro e w4 ⟨ty4,x4,rfl,h4,Ck,hr4⟩;have Cl:=A0 Ck;have C8:Hid (A5 b w w4):=Cd.o.trans Cl.o;have lw4:=C8.o.size;have Iz:=A0 hr4;have H4:=A0 h4;clear h4 Ck hr4;have HT4:=A0 (Cl.o.blk HT3.o z4sa);go_wp2_with fail
 refine(J8 H4.o 25).mono ?_;rintro e w5 ⟨kk5,ln5,nn5,S5,rfl,htk5,h5,En⟩;have Ep:=A0 En;have C6:Hid (A5 b w w5):=C8.o.trans Ep.o;have lw5:=C6.o.size;have HTk5:=A0 htk5;have H5:=A0 h5;clear h5 En htk5;have hT5:=Ep.o.blk HT4.o z4sa;have y0:=A7 hT5 0 _ rfl;have y1:=A7 hT5 1 _ rfl;have ly:=A6 hT5;clear hT5;go_wp2;go_ret;rw[HR.o];refine Hz (l:=⟨21,(An (Aj s)).line,(An (Aj s)).s,0,[]⟩) (ch:=x.1) (ks:=[.iface ty4 x4]) H5.o C6.o rfl z4wa rfl rfl (fun hb=>⟨⟨_,?_,rfl⟩,Al.later z4sa z4sa Ep.o (Iz.o (Ll hb))⟩);have hg:=Ll (Ph H3.o.Mi HXp.o (Ll hb));rw[(Ee.o hg).1,(Ee.o hg).2];rfl
theorem Ahe(ih:Iw b tb cap te ts n)(w:World)(s:PS)(r:BT A3×PS)(hk:kT s=8)(hs:PR b tb cap te ts w s)(hp:Ab (n+1) 9 0 .nil s=some r) :
  Calls Tryz.prog 132 #[.pointer (some ⟨b,0,none⟩)] w (Hr b tb cap te ts w r):=by
 obtain⟨x,bl,hx,hbl,hr⟩:=Yn hk hp;have HS:=A0 hs;have lb:=hs.lt;have Ae:Hid (s.bad=0):=hs.Gv z4sa;have HR:=A0 hr;have HBp:=A0 hbl;have t5:((kT s:Int)==5)=false:=kn (c:=5) rfl z4sa;have t6:((kT s:Int)==6)=false:=kn (c:=6) rfl z4sa;have t8:((kT s:Int)==8)=true:=ke (c:=8) rfl hk;have HBl:=A0 (fun(W:World) (h:PR b tb cap te ts W x.2)=>ih.block W x.2 bl h hbl);have HX:=A0 (fun(W:World) (h:PR b tb cap te ts W (Aj s))=>Km ih W (Aj s) x h hx);have Im:=Le;clear hp hs hk hx hbl hr;go_enter Tryz.func132,Tryz.ntmps132;go_wp2_with fail
 refine(De HS.o).mono ?_;rintro e w1 ⟨rfl,h1,A1⟩;have Bo:=A0 (Below.only (b:=b) A1);have Av:Hid (A5 b w w1):=(A5.refl b w).trans Bo.o;have Df:=Av.o.size;have H1:=A0 h1;clear h1 A1;go_wp2_with fail
 refine(Hl H1.o).mono ?_;rintro e w2 ⟨Gc,nn2,S2,rfl,Ey,h2,B1⟩;have B4:=A0 B1;have B7:Hid (A5 b w w2):=Av.o.trans B4.o;have F2:=B7.o.size;have Ee:=A0 Ey;have H2:=A0 h2;clear h2 B1 Ey;go_wp2_with fail
 refine(HX.o _ H2.o).mono ?_;rintro e w3 ⟨ty3,x3,rfl,h3,Cj,Du⟩;have Bc:=A0 Cj;have Cd:Hid (A5 b w w3):=B7.o.trans Bc.o;have lw3:=Cd.o.size;have Eu:=A0 Du;have H3:=A0 h3;clear h3 Cj Du;go_wp2_with fail
 refine(HBl.o _ H3.o).mono ?_;rintro e w4 ⟨va4,vn4,vc4,cs4,rfl,hown4,h4,Ck,hr4⟩;have Cl:=A0 Ck;have C8:Hid (A5 b w w4):=Cd.o.trans Cl.o;have lw4:=C8.o.size;have Iz:=A0 hr4;have HOwn4:=A0 hown4;have H4:=A0 h4;clear h4 Ck hr4 hown4;go_wp2;go_ret;rw[HR.o];refine Hz (l:=Au 23 (An s).line) (ch:=Co x.1 (nd (Au 32 0) bl.1)) (ks:=[.iface ty3 x3,.slice va4 vn4 vc4]) H4.o C8.o rfl z59a rfl rfl (fun hb=>⟨⟨_,_,_,_,_,?_,rfl⟩,Al.app _ _ [_] [_] (Al.later z4sa z4sa Cl.o (Eu.o (Ph H3.o.Mi HBp.o hb))) (Al.blk (.inr rfl) (HOwn4.o.keep (fun k hk _=>⟨rfl,by have h:w3.heap.size<=k:=hk;omega⟩)) (Al.weak z4sa (Iz.o hb)))⟩);rw[(Ee.o Ae.o).1];rfl
theorem z5xa {P:Prop} (h:P:=by show w.heap.size<=w3.heap.size;omega):P:=h
theorem Agb(ih:Iw b tb cap te ts n)(w:World)(s:PS)(r:BT A3×PS)(hk:kT s=6)(x bl:BT A3×PS)(hx:Ab n 0 0 .nil (Aj s)=some x)(hbl:Ab n 7 0 .nil x.2=some bl)(h7:kT bl.2≠7)(hr:r=(nd (Au 22 (An s).line) (Co x.1 (nd (Au 31 0) bl.1)),bl.2))(hs:PR b tb cap te ts w s) :
  Calls Tryz.prog 187 #[.pointer (some ⟨b,0,none⟩)] w (Hr b tb cap te ts w r):=by
 have HS:=A0 hs;have lb:=hs.lt;have Ae:Hid (s.bad=0):=hs.Gv z4sa;have HR:=A0 hr;have HBp:=A0 hbl;have HBl:=A0 (fun(W:World) (h:PR b tb cap te ts W x.2)=>ih.block W x.2 bl h hbl);have HX:=A0 (fun(W:World) (h:PR b tb cap te ts W (Aj s))=>Km ih W (Aj s) x h hx);have Im:=Le;have tk:(kT bl.2==7)=false:=by simpa using h7
 have HM:Hid (I5 7 bl.2=bl.2):=by show _=_;unfold I5;rw[if_neg h7]
 clear hs hk hx hbl hr h7;go_enter Tryz.func187,Tryz.ntmps187;go_wp2_with fail
 refine(Hl HS.o).mono ?_;rintro e w1 ⟨Is,nn1,S1,rfl,Fj,h1,Bt⟩;have Bo:=A0 Bt;have Av:Hid (A5 b w w1):=(A5.refl b w).trans Bo.o;have Df:=Av.o.size;have Jk:=A0 Fj;have H1:=A0 h1;clear h1 Bt Fj;go_wp2_with fail
 refine(HX.o _ H1.o).mono ?_;rintro e w2 ⟨Ij,x2,rfl,h2,B1,Bm⟩;have B4:=A0 B1;have B7:Hid (A5 b w w2):=Av.o.trans B4.o;have F2:=B7.o.size;have Dv:=A0 Bm;have H2:=A0 h2;clear h2 B1 Bm;go_wp2_with fail
 refine(HBl.o _ H2.o).mono ?_;rintro e w3 ⟨va3,vn3,vc3,cs3,rfl,J3,h3,Cj,Du⟩;have Bc:=A0 Cj;have Cd:Hid (A5 b w w3):=B7.o.trans Bc.o;have lw3:=Cd.o.size;have Eu:=A0 Du;have HOwn3:=A0 J3;have H3:=A0 h3;clear h3 Cj Du J3;have HT3:=A0 (heap_alloc_new w3 (.cells #[.int .i64 Is,.iface Ij x2,.slice va3 vn3 vc3,.slice none 0 0] 314));have lw3b:w3.heap.size<(w3.alloc (.cells #[.int .i64 Is,.iface Ij x2,.slice va3 vn3 vc3,.slice none 0 0] 314)).heap.size:=by simp
 go_wp2_with fail
 refine(Mq (PR.alloc H3.o _) 7).mono ?_;rintro e w4 ⟨rfl,h4,Ck⟩;have Cl:=A0 Ck;have C8:Hid (A5 b w w4):=(Cd.o.alloc _).trans Cl.o;have lw4:=C8.o.size;rw[tk];rw[HM.o]at h4;have H4:=A0 h4;clear h4 Ck;have HT4:=A0 (Cl.o.blk HT3.o z4sa);go_wp2;go_ret;rw[HR.o];refine⟨_,_,rfl,H4.o,C8.o,fun hb=>?_⟩;have k2:∀g,w1.heap.size<=g->g<w2.heap.size->w4.heap[g]?=w2.heap[g]?/\w.heap.size<=g:=fun g hg hl=>⟨((Bc.o.alloc _).trans Cl.o).block g hl z4sa,by omega⟩;have k3:∀g,w2.heap.size<=g->g<w3.heap.size->w4.heap[g]?=w3.heap[g]?/\w.heap.size<=g:=fun g hg hl=>⟨(((A5.refl b w3).alloc _).trans Cl.o).block g hl z4sa,by omega⟩;refine Al.one (l:=Au 22 (An s).line) (ks:=[.iface Ij x2,.slice va3 vn3 vc3]) (Bh.new z59a z5xa HT4.o ⟨_,_,_,_,_,_,_,_,?_,.inl ⟨rfl,rfl⟩⟩) ?_
 ·rw[(Jk.o Ae.o).1];rfl
 ·exact Al.app _ _ [_] [_] (Al.keep k2 _ _ (Dv.o (Ph H2.o.Mi HBp.o hb))) (Al.blk (.inl rfl) (HOwn3.o.keep k3) (Al.keep k3 _ _ (Eu.o hb)))
theorem z6ga {P:Prop} (h:P:=by exact hk):P:=h
theorem Agc(ih:Iw b tb cap te ts n)(w:World)(s:PS)(r:BT A3×PS)(hk:kT s=6)(x bl:BT A3×PS)(hx:Ab n 0 0 .nil (Aj s)=some x)(hbl:Ab n 7 0 .nil x.2=some bl)(h7:kT bl.2=7)(c:BT A3×PS)(hc:Ab n 7 0 .nil (Aj bl.2)=some c)(hr:r=(nd (Au 22 (An s).line) (Co x.1 (Co (nd (Au 31 0) bl.1) (nd (Au 31 0) c.1))),c.2))(hs:PR b tb cap te ts w s) :
  Calls Tryz.prog 187 #[.pointer (some ⟨b,0,none⟩)] w (Hr b tb cap te ts w r):=by
 have HS:=A0 hs;have lb:=hs.lt;have Ae:Hid (s.bad=0):=hs.Gv z4sa;have HR:=A0 hr;have HBp:=A0 hbl;have HBl:=A0 (fun(W:World) (h:PR b tb cap te ts W x.2)=>ih.block W x.2 bl h hbl);have HX:=A0 (fun(W:World) (h:PR b tb cap te ts W (Aj s))=>Km ih W (Aj s) x h hx);have Im:=Le;have tk:(kT bl.2==7)=true:=by simpa using h7
 have HM:Hid (I5 7 bl.2=Aj bl.2):=by show _=_;unfold I5;rw[if_pos h7]
 have HCl:=A0 (fun(W:World) (h:PR b tb cap te ts W (Aj bl.2))=>ih.block W (Aj bl.2) c h hc);have HCp:=A0 hc;clear hs hk hx hbl hr h7 hc;go_enter Tryz.func187,Tryz.ntmps187;go_wp2_with fail
 refine(Hl HS.o).mono ?_;rintro e w1 ⟨Is,nn1,S1,rfl,Fj,h1,Bt⟩;have Bo:=A0 Bt;have Av:Hid (A5 b w w1):=(A5.refl b w).trans Bo.o;have Df:=Av.o.size;have Jk:=A0 Fj;have H1:=A0 h1;clear h1 Bt Fj;go_wp2_with fail
 refine(HX.o _ H1.o).mono ?_;rintro e w2 ⟨Ij,x2,rfl,h2,B1,Bm⟩;have B4:=A0 B1;have B7:Hid (A5 b w w2):=Av.o.trans B4.o;have F2:=B7.o.size;have Dv:=A0 Bm;have H2:=A0 h2;clear h2 B1 Bm;go_wp2_with fail
 refine(HBl.o _ H2.o).mono ?_;rintro e w3 ⟨va3,vn3,vc3,cs3,rfl,J3,h3,Cj,Du⟩;have Bc:=A0 Cj;have Cd:Hid (A5 b w w3):=B7.o.trans Bc.o;have lw3:=Cd.o.size;have Eu:=A0 Du;have HOwn3:=A0 J3;have H3:=A0 h3;clear h3 Cj Du J3;have HT3:=A0 (heap_alloc_new w3 (.cells #[.int .i64 Is,.iface Ij x2,.slice va3 vn3 vc3,.slice none 0 0] 314));have lw3b:w3.heap.size<(w3.alloc (.cells #[.int .i64 Is,.iface Ij x2,.slice va3 vn3 vc3,.slice none 0 0] 314)).heap.size:=by simp
 go_wp2_with fail
 refine(Mq (PR.alloc H3.o _) 7).mono ?_;rintro e w4 ⟨rfl,h4,Ck⟩;have Cl:=A0 Ck;have C8:Hid (A5 b w w4):=(Cd.o.alloc _).trans Cl.o;have lw4:=C8.o.size;rw[tk];rw[HM.o]at h4;have H4:=A0 h4;clear h4 Ck;have HT4:=A0 (Cl.o.blk HT3.o z4sa);obtain⟨y0,y1,y2,y3,fy,ly⟩:=Dt HT4.o;go_wp2_with fail
 refine(HCl.o _ H4.o).mono ?_;rintro e w5 ⟨va5,vn5,vc5,cs5,rfl,hown5,h5,En,hr5⟩;have Ep:=A0 En;have C6:Hid (A5 b w w5):=C8.o.trans Ep.o;have lw5:=C6.o.size;have HR5:=A0 hr5;have HOwn5:=A0 hown5;have H5:=A0 h5;clear h5 En hr5 hown5;have HT5:=A0 (Ep.o.blk HT4.o z4sa);clear y0 y1 y2 y3 fy ly;obtain⟨y0,y1,y2,y3,fy,ly⟩:=Dt HT5.o;go_wp2;go_ret;rw[HR.o];have hold:∀k,k≠w3.heap.size->(w5.setCell ⟨w3.heap.size,3,none⟩ (.slice va5 vn5 vc5)).heap[k]?=w5.heap[k]?:=fun k hk=>Below.heap_setCell _ _ _ _ z6ga;refine⟨_,_,rfl,PR.other H5.o (by show b≠w3.heap.size;omega) (by show tb≠w3.heap.size;omega) _,A5.set (p:=⟨w3.heap.size,3,none⟩) C6.o (.inr z5xa) _,fun hb=>?_⟩;have Bi:bl.2.bad=0:=by have:=Ph H4.o.Mi HCp.o hb;rw[Qv]at this;exact this
 have hnew:(w5.setCell ⟨w3.heap.size,3,none⟩ (.slice va5 vn5 vc5)).heap[w3.heap.size]?=some (.cells #[.int .i64 Is,.iface Ij x2,.slice va3 vn3 vc3,.slice va5 vn5 vc5] 314 (0,0)):=by
  have:=heap_set (j:=3) HT5.o (.slice va5 vn5 vc5);simpa using this
 have k2:∀g,w1.heap.size<=g->g<w2.heap.size->(w5.setCell ⟨w3.heap.size,3,none⟩ (.slice va5 vn5 vc5)).heap[g]?=w2.heap[g]?/\w.heap.size<=g:=fun g hg hl=>⟨(hold g (by have:=Bc.o.size;omega)).trans (((Bc.o.alloc _).trans (Cl.o.trans Ep.o)).block g hl z4sa),by omega⟩;have k3:∀g,w2.heap.size<=g->g<w3.heap.size->(w5.setCell ⟨w3.heap.size,3,none⟩ (.slice va5 vn5 vc5)).heap[g]?=w3.heap[g]?/\w.heap.size<=g:=fun g hg hl=>⟨(hold g z4sa).trans ((((A5.refl b w3).alloc _).trans (Cl.o.trans Ep.o)).block g hl z4sa),by omega⟩;have k5:∀g,w4.heap.size<=g->g<w5.heap.size->(w5.setCell ⟨w3.heap.size,3,none⟩ (.slice va5 vn5 vc5)).heap[g]?=w5.heap[g]?/\w.heap.size<=g:=fun g hg hl=>⟨hold g (by have:=A6 HT4.o;omega),by omega⟩;refine Al.one (l:=Au 22 (An s).line) (ks:=[.iface Ij x2,.slice va3 vn3 vc3,.slice va5 vn5 vc5]) (Bh.new z59a z5xa hnew ⟨_,_,_,_,_,_,_,_,?_,.inr rfl⟩) ?_
 ·rw[(Jk.o Ae.o).1];rfl
 ·refine Al.app _ _ [_] [_,_] (Al.keep k2 _ _ (Dv.o (Ph H2.o.Mi HBp.o Bi))) (Al.app _ _ [_] [_] (Al.blk (.inl rfl) (HOwn3.o.keep k3) (Al.keep k3 _ _ (Eu.o Bi))) (Al.blk (.inl rfl) (HOwn5.o.keep k5) (Al.keep k5 _ _ (HR5.o hb))))
end
section
set_option maxRecDepth 100000
open Go.RowKit
open Go.Deep (BT)
theorem Ds{P:Program}{T e xT:TypeId}(hu:P.underlying T=some (.pointer e))(v:Value)(w:World):(Instr.typeAssert (.iface T v) xT T true).run P w=.ok (.tuple #[v,.bool true]) w:=by
 simp[Instr.typeAssert,run_underlying hu]
theorem B6{P:Program}{T e t xT:TypeId}{z:Value}(hu:P.underlying T=some (.pointer e))(hz:(P.info? T).map (·.zero)=some (some z))(h:t≠T)(v:Value)(w:World):(Instr.typeAssert (.iface t v) xT T true).run P w=.ok (.tuple #[z,.bool false]) w:=by
 obtain⟨i,hi,hz⟩:∃i,P.info? T=some i/\i.zero=some z:=by
  cases hi:P.info? T with
  | none=>rw[hi]at hz;cases hz
  | some i=>rw[hi]at hz;exact⟨i,rfl,Option.some.inj hz⟩
 simp[Instr.typeAssert,run_underlying hu,h,zeroValue,typeInfo,hi,hz]
def O6(t:TypeId):Bool:=t==238||t==310
theorem T8(t:TypeId)(x:Value)(w:World):Calls Tryz.prog 233 #[.iface t x] w fun e w'=>e=.returned (.bool (O6 t))/\w'=w:=by
 by_cases h1:t=238
 ·subst h1;have a1:=fun w=>Ds (P:=Tryz.prog) (xT:=150) Tryz.underlying238 x w;have a2:=fun w=>B6 (P:=Tryz.prog) (t:=238) (T:=310) (xT:=150) (z:=.pointer none) Tryz.underlying310 (by kernel_rfl) z4ta x w;go_enter Tryz.func233,Tryz.ntmps233;exact z46a
 by_cases h2:t=310
 ·subst h2;have a1:=fun w=>B6 (P:=Tryz.prog) (t:=310) (T:=238) (xT:=150) (z:=.pointer none) Tryz.underlying238 (by kernel_rfl) z4ta x w;have a2:=fun w=>Ds (P:=Tryz.prog) (xT:=150) Tryz.underlying310 x w;clear h1;go_enter Tryz.func233,Tryz.ntmps233;exact z46a
 ·have a1:=fun w=>B6 (P:=Tryz.prog) (t:=t) (T:=238) (xT:=150) (z:=.pointer none) Tryz.underlying238 (by kernel_rfl) h1 x w;have a2:=fun w=>B6 (P:=Tryz.prog) (t:=t) (T:=310) (xT:=150) (z:=.pointer none) Tryz.underlying310 (by kernel_rfl) h2 x w;have HC:Hid (O6 t=false):=by
   show _=_;unfold O6;rw[beq_eq_false_iff_ne.2 h1,beq_eq_false_iff_ne.2 h2];rfl
  clear h1 h2;go_enter Tryz.func233,Tryz.ntmps233;go_wp2;go_ret;exact⟨S9 HC.o.symm,rfl⟩
theorem Ah6(kd:Nat):O6 (Cc kd)=(kd==6||kd==12):=by
 by_cases h6:kd=6
 ·subst h6;rfl
 by_cases h12:kd=12
 ·subst h12;rfl
 rw[beq_eq_false_iff_ne.2 h6,beq_eq_false_iff_ne.2 h12];unfold Cc;split <;> first|rfl|(exfalso;omega)
theorem Z3{D:Nat->Prop}{W:World}{f v:BT A3}{t:TypeId}{x vv:Value}(h:Al D W f [.iface t x])(hv:Al D W v [vv]) :
  O6 t=K3 f/\(K3 f=true->∃l ch ks,setNode f v=nd l ch/\¬(l.kd=31\/l.kd=32)/\Cc l.kd=268/\D8 l.kd=322/\Cm D W l #[.iface t x,vv] ks/\Al D W ch ks):=by
 cases f with
 | nil=>rw[Al]at h;cases h
 | node x0 y0 l ch sib=>
  obtain⟨v0,ks,rest,e,h1,h2,h3⟩:=h;injection e with e1 e2;subst e1 e2;unfold Bh at h1;split at h1
  ·obtain⟨⟨_,_,_,e⟩,_⟩:=h1;cases e
  ·obtain⟨b2,cs,e,hD,hb,hl⟩:=h1;injection e with e1 e2;subst e1 e2;refine⟨Ah6 l.kd,fun hc=>?_⟩;have hc':(l.kd==6||l.kd==12)=true:=hc;simp only[Bool.or_eq_true,beq_iff_eq]at hc';rcases hc' with h6|h12
   ·unfold Cm at hl;rw[h6]at hl;simp only at hl;obtain⟨rfl,rfl⟩:=hl;have hb':W.heap[b2]?=some (.cells #[Gd l.line,L9 l.s] 240 (0,0)):=by rw[hb,h6];rfl
    refine⟨⟨28,l.line,l.s,0,[]⟩,v,[vv],?_,by simp,rfl,rfl,⟨b2,vv,?_,hD,hb',rfl⟩,hv⟩
    ·unfold setNode Hi;rw[if_pos h6]
    ·rw[h6];rfl
   ·unfold Cm at hl;rw[h12]at hl;simp only at hl;obtain⟨a,b,rfl,rfl⟩:=hl;have hb':W.heap[b2]?=some (.cells #[Gd l.line,a,b] 312 (0,0)):=by rw[hb,h12];rfl
    refine⟨Au 29 l.line,Co ch v,[a,b,vv],?_,by simp[Au],rfl,rfl,⟨b2,a,b,vv,?_,hD,hb',rfl⟩,Al.app _ _ [a,b] [vv] h2 hv⟩
    ·unfold setNode Hi Pc;rw[if_neg (show ¬l.kd=6 by omega)]
    ·rw[h12];rfl
end
section
set_option maxRecDepth 100000
open Go.RowKit
open Go.Deep (BT)
variable {b tb cap te:Nat}{ts:List Tk}{n:Nat}
theorem Ja{w:World}{g:Nat}{a0 a1:Value}{t:TypeId}(h:w.heap[g]?=some (.cells #[a0,a1] t (0,0))) :
  w.cell? ⟨g,0,none⟩=some a0/\w.cell? ⟨g,1,none⟩=some a1/\(∀o,w.frozen? ⟨g,o,none⟩=false)/\g<w.heap.size:=
 ⟨A7 h 0 _ rfl,A7 h 1 _ rfl,Ci h,A6 h⟩
def P2(b tb cap te:Nat)(ts:List Tk)(w:World)(r:BT A3×PS)(e:Ending)(w':World):Prop:=
 ∃r':BT A3×PS,Hr b tb cap te ts w r' e w'/\r.1=r'.1/\r.2=Aw 25 r'.2
theorem z5ya {P:Prop} (h:P:=by show w.heap.size<=w2.heap.size;omega):P:=h
theorem Akr(w:World)(s:PS)(r:BT A3×PS)(hk:kT s=9)(C7:kT (Aj s)=25)(hs:PR b tb cap te ts w s)(hp:Ab (n+1) 9 0 .nil s=some r) :
  Calls Tryz.prog 190 #[.pointer (some ⟨b,0,none⟩)] w (P2 b tb cap te ts w r):=by
 have HS:=A0 hs;have lb:=hs.lt;have Im:=Le;have HR:=A0 (Ym hk C7 hp);have Ae:Hid (s.bad=0):=hs.Gv z4sa;have t25:((kT (Aj s):Int) !=25)=false:=by rw[C7];rfl
 have t9:((kT s:Int)==9)=true:=ke (c:=9) rfl hk;clear hp hs hk C7;go_enter Tryz.func190,Tryz.ntmps190;go_wp2_with fail
 refine(De HS.o).mono ?_;rintro e w1 ⟨rfl,h1,A1⟩;have Bo:=A0 (Below.only (b:=b) A1);have Av:Hid (A5 b w w1):=(A5.refl b w).trans Bo.o;have Df:=Av.o.size;have H1:=A0 h1;clear h1 A1;go_wp2_with fail
 refine(Hl H1.o).mono ?_;rintro e w2 ⟨Gc,nn2,S2,rfl,Ey,h2,B1⟩;have B4:=A0 B1;have B7:Hid (A5 b w w2):=Av.o.trans B4.o;have F2:=B7.o.size;have Ee:=A0 Ey;have H2:=A0 h2;clear h2 B1 Ey;have HT2:=A0 (heap_alloc_new w2 (.cells #[.int .i64 Gc,.nilIface] 318));go_wp2_with fail
 refine(De (PR.alloc H2.o _)).mono ?_;rintro e w3 ⟨rfl,h3,Ar⟩;have Bc:=A0 (Below.only (b:=b) Ar);have Cd:Hid (A5 b w w3):=(B7.o.alloc _).trans Bc.o;have lw3:=Cd.o.size;have H3:=A0 h3;clear h3 Ar;go_wp2;go_ret;rw[HR.o];refine⟨(nd (Au 24 (An s).line) .nil,Aj s),⟨_,_,rfl,H3.o,Cd.o,fun hb=>?_⟩,rfl,rfl⟩;refine Al.one (l:=Au 24 (An s).line) (ks:=[]) (Bh.new z59a z5ya (Bc.o.blk HT2.o z4sa) ⟨_,?_,.inl ⟨rfl,rfl⟩⟩) rfl;rw[(Ee.o Ae.o).1];rfl
theorem Aks(ih:Iw b tb cap te ts n)(w:World)(s:PS)(r:BT A3×PS)(hk:kT s=9)(C7:kT (Aj s)≠25)(hs:PR b tb cap te ts w s)(hp:Ab (n+1) 9 0 .nil s=some r) :
  Calls Tryz.prog 190 #[.pointer (some ⟨b,0,none⟩)] w (P2 b tb cap te ts w r):=by
 have HS:=A0 hs;have lb:=hs.lt;have Im:=Le;obtain⟨x,hx,hr⟩:=Yl hk C7 hp;have HR:=A0 hr;have Ae:Hid (s.bad=0):=hs.Gv z4sa;have t25:((kT (Aj s):Int) !=25)=true:=by simp;omega
 have HX:=A0 (fun(W:World) (h:PR b tb cap te ts W (Aj s))=>Km ih W (Aj s) x h hx);have t9:((kT s:Int)==9)=true:=ke (c:=9) rfl hk;clear hp hs hk C7 hx hr;go_enter Tryz.func190,Tryz.ntmps190;go_wp2_with fail
 refine(De HS.o).mono ?_;rintro e w1 ⟨rfl,h1,A1⟩;have Bo:=A0 (Below.only (b:=b) A1);have Av:Hid (A5 b w w1):=(A5.refl b w).trans Bo.o;have Df:=Av.o.size;have H1:=A0 h1;clear h1 A1;go_wp2_with fail
 refine(Hl H1.o).mono ?_;rintro e w2 ⟨Gc,nn2,S2,rfl,Ey,h2,B1⟩;have B4:=A0 B1;have B7:Hid (A5 b w w2):=Av.o.trans B4.o;have F2:=B7.o.size;have Ee:=A0 Ey;have H2:=A0 h2;clear h2 B1 Ey;have HT2:=A0 (heap_alloc_new w2 (.cells #[.int .i64 Gc,.nilIface] 318));have lw2b:w2.heap.size<(w2.alloc (.cells #[.int .i64 Gc,.nilIface] 318)).heap.size:=by simp
 go_wp2_with fail
 refine(De (PR.alloc H2.o _)).mono ?_;rintro e w3 ⟨rfl,h3,Ar⟩;have Bc:=A0 (Below.only (b:=b) Ar);have Cd:Hid (A5 b w w3):=(B7.o.alloc _).trans Bc.o;have lw3:=Cd.o.size;have H3:=A0 h3;clear h3 Ar;have HT3:=A0 (Bc.o.blk HT2.o z4sa);go_wp2_with fail
 refine(HX.o _ H3.o).mono ?_;rintro e w4 ⟨ty4,x4,rfl,h4,Ck,hr4⟩;have Cl:=A0 Ck;have C8:Hid (A5 b w w4):=Cd.o.trans Cl.o;have lw4:=C8.o.size;have Iz:=A0 hr4;have H4:=A0 h4;clear h4 Ck hr4;have HT4:=A0 (Cl.o.blk HT3.o z4sa);obtain⟨y0,y1,fy,ly⟩:=Ja HT4.o;go_wp2;go_ret;rw[HR.o];have hold:∀k,k≠w2.heap.size->(w4.setCell ⟨w2.heap.size,1,none⟩ (.iface ty4 x4)).heap[k]?=w4.heap[k]?:=fun k hk=>Below.heap_setCell _ _ _ _ z6ga;refine⟨(nd (Au 24 (An s).line) x.1,x.2),⟨_,_,rfl,PR.other H4.o (by show b≠w2.heap.size;omega) (by show tb≠w2.heap.size;omega) _,A5.set (p:=⟨w2.heap.size,1,none⟩) C8.o (.inr z5ya) _,fun hb=>?_⟩,rfl,rfl⟩;have hnew:(w4.setCell ⟨w2.heap.size,1,none⟩ (.iface ty4 x4)).heap[w2.heap.size]?=some (.cells #[.int .i64 Gc,.iface ty4 x4] 318 (0,0)):=by
  have:=heap_set (j:=1) HT4.o (.iface ty4 x4);simpa using this
 have lw3b:=A6 HT3.o;refine Al.one (l:=Au 24 (An s).line) (ks:=[.iface ty4 x4]) (Bh.new z59a z5ya hnew ⟨_,?_,.inr rfl⟩) (Al.keep (fun g (hg:w3.heap.size<=g) _=>⟨hold g z4sa,by omega⟩) _ _ (Iz.o hb));rw[(Ee.o Ae.o).1];rfl
theorem Ail(w:World)(s:PS)(r:BT A3×PS)(hk:kT s=10)(hs:PR b tb cap te ts w s)(hp:Ab (n+1) 9 0 .nil s=some r) :
  Calls Tryz.prog 190 #[.pointer (some ⟨b,0,none⟩)] w (P2 b tb cap te ts w r):=by
 have HS:=A0 hs;have lb:=hs.lt;have Im:=Le;have HR:=A0 (Yg hk hp);have Ae:Hid (s.bad=0):=hs.Gv z4sa;have t9:((kT s:Int)==9)=false:=kn (c:=9) rfl z4sa;have t10:((kT s:Int)==10)=true:=ke (c:=10) rfl hk;clear hp hs hk;go_enter Tryz.func190,Tryz.ntmps190;go_wp2_with fail
 refine(De HS.o).mono ?_;rintro e w1 ⟨rfl,h1,A1⟩;have Bo:=A0 (Below.only (b:=b) A1);have Av:Hid (A5 b w w1):=(A5.refl b w).trans Bo.o;have Df:=Av.o.size;have H1:=A0 h1;clear h1 A1;go_wp2_with fail
 refine(Hl H1.o).mono ?_;rintro e w2 ⟨Gc,nn2,S2,rfl,Ey,h2,B1⟩;have B4:=A0 B1;have B7:Hid (A5 b w w2):=Av.o.trans B4.o;have F2:=B7.o.size;have Ee:=A0 Ey;have H2:=A0 h2;clear h2 B1 Ey;go_wp2;go_ret;rw[HR.o];refine⟨(nd (Au 25 (An s).line) .nil,Aj s),Hz (l:=Au 25 (An s).line) (ch:=.nil) (ks:=[]) H2.o B7.o rfl z59a rfl rfl (fun _=>⟨⟨?_,rfl⟩,rfl⟩),rfl,rfl⟩;rw[(Ee.o Ae.o).1];rfl
theorem Aio(w:World)(s:PS)(r:BT A3×PS)(hk:kT s=11)(hs:PR b tb cap te ts w s)(hp:Ab (n+1) 9 0 .nil s=some r) :
  Calls Tryz.prog 190 #[.pointer (some ⟨b,0,none⟩)] w (P2 b tb cap te ts w r):=by
 have HS:=A0 hs;have lb:=hs.lt;have Im:=Le;have HR:=A0 (Yh hk hp);have Ae:Hid (s.bad=0):=hs.Gv z4sa;have t9:((kT s:Int)==9)=false:=kn (c:=9) rfl z4sa;have t10:((kT s:Int)==10)=false:=kn (c:=10) rfl z4sa;have t11:((kT s:Int)==11)=true:=ke (c:=11) rfl hk;clear hp hs hk;go_enter Tryz.func190,Tryz.ntmps190;go_wp2_with fail
 refine(De HS.o).mono ?_;rintro e w1 ⟨rfl,h1,A1⟩;have Bo:=A0 (Below.only (b:=b) A1);have Av:Hid (A5 b w w1):=(A5.refl b w).trans Bo.o;have Df:=Av.o.size;have H1:=A0 h1;clear h1 A1;go_wp2_with fail
 refine(Hl H1.o).mono ?_;rintro e w2 ⟨Gc,nn2,S2,rfl,Ey,h2,B1⟩;have B4:=A0 B1;have B7:Hid (A5 b w w2):=Av.o.trans B4.o;have F2:=B7.o.size;have Ee:=A0 Ey;have H2:=A0 h2;clear h2 B1 Ey;go_wp2;go_ret;rw[HR.o];refine⟨(nd (Au 26 (An s).line) .nil,Aj s),Hz (l:=Au 26 (An s).line) (ch:=.nil) (ks:=[]) H2.o B7.o rfl z59a rfl rfl (fun _=>⟨⟨?_,rfl⟩,rfl⟩),rfl,rfl⟩;rw[(Ee.o Ae.o).1];rfl
theorem Akn(ih:Iw b tb cap te ts n)(w:World)(s:PS)(r:BT A3×PS)(hk:kT s=12)(hs:PR b tb cap te ts w s)(hp:Ab (n+1) 9 0 .nil s=some r) :
  Calls Tryz.prog 190 #[.pointer (some ⟨b,0,none⟩)] w (P2 b tb cap te ts w r):=by
 have HS:=A0 hs;have lb:=hs.lt;have Im:=Le;obtain⟨x,hx,hr⟩:=Yk hk hp;have HR:=A0 hr;have Ae:Hid (s.bad=0):=hs.Gv z4sa;have HX:=A0 (fun(W:World) (h:PR b tb cap te ts W (Aj s))=>Km ih W (Aj s) x h hx);have t9:((kT s:Int)==9)=false:=kn (c:=9) rfl z4sa;have t10:((kT s:Int)==10)=false:=kn (c:=10) rfl z4sa;have t11:((kT s:Int)==11)=false:=kn (c:=11) rfl z4sa;have t12:((kT s:Int)==12)=true:=ke (c:=12) rfl hk;clear hp hs hk hx hr;go_enter Tryz.func190,Tryz.ntmps190;go_wp2_with fail
 refine(De HS.o).mono ?_;rintro e w1 ⟨rfl,h1,A1⟩;have Bo:=A0 (Below.only (b:=b) A1);have Av:Hid (A5 b w w1):=(A5.refl b w).trans Bo.o;have Df:=Av.o.size;have H1:=A0 h1;clear h1 A1;go_wp2_with fail
 refine(Hl H1.o).mono ?_;rintro e w2 ⟨Gc,nn2,S2,rfl,Ey,h2,B1⟩;have B4:=A0 B1;have B7:Hid (A5 b w w2):=Av.o.trans B4.o;have F2:=B7.o.size;have Ee:=A0 Ey;have H2:=A0 h2;clear h2 B1 Ey;go_wp2_with fail
 refine(HX.o _ H2.o).mono ?_;rintro e w3 ⟨ty3,x3,rfl,h3,Cj,Du⟩;have Bc:=A0 Cj;have Cd:Hid (A5 b w w3):=B7.o.trans Bc.o;have lw3:=Cd.o.size;have Eu:=A0 Du;have H3:=A0 h3;clear h3 Cj Du;go_wp2;go_ret;rw[HR.o];refine⟨(nd (Au 27 (An s).line) x.1,x.2),Hz (l:=Au 27 (An s).line) (ch:=x.1) (ks:=[.iface ty3 x3]) H3.o Cd.o rfl z59a rfl rfl (fun hb=>⟨⟨_,?_,rfl⟩,Al.weak z4sa (Eu.o hb)⟩),rfl,rfl⟩;rw[(Ee.o Ae.o).1];rfl
theorem z1ha {P:Prop} (h:P:=by
  go_wp2_with fail
  refine(T8 _ _ _).mono ?_;rintro e w' ⟨rfl,rfl⟩;rw[tc];go_wp2;go_ret;rw[HR.o];refine⟨(nd (Au 30 (Hi x.1).line) x.1,x.2),?_,rfl,rfl⟩;exact Hz (l:=Au 30 (Hi x.1).line) (ch:=x.1) (ks:=[.iface Ij x2]) H2.o B7.o rfl z59a rfl rfl (fun hb=>⟨⟨_,rfl,rfl⟩,Al.weak z4sa (Dv.o hb)⟩)):P:=h
theorem Akt(ih:Iw b tb cap te ts n)(w:World)(s:PS)(r:BT A3×PS)(hk:¬(5<=kT s/\kT s<=12/\kT s≠7))(hs:PR b tb cap te ts w s)(hp:Ab (n+1) 9 0 .nil s=some r) :
  Calls Tryz.prog 190 #[.pointer (some ⟨b,0,none⟩)] w (P2 b tb cap te ts w r):=by
 have HS:=A0 hs;have lb:=hs.lt;have Im:=Le;obtain⟨x,hx,hc⟩:=U6 hk hp;have HC:=A0 hc;have HX:=A0 (fun(W:World) (h:PR b tb cap te ts W s)=>Km ih W s x h hx);have t9:((kT s:Int)==9)=false:=kn (c:=9) rfl z4sa;have t10:((kT s:Int)==10)=false:=kn (c:=10) rfl z4sa;have t11:((kT s:Int)==11)=false:=kn (c:=11) rfl z4sa;have t12:((kT s:Int)==12)=false:=kn (c:=12) rfl z4sa;clear hp hs hk hx hc Im;go_enter Tryz.func190,Tryz.ntmps190;go_wp2_with fail
 refine(De HS.o).mono ?_;rintro e w1 ⟨rfl,h1,A1⟩;have Bo:=A0 (Below.only (b:=b) A1);have Av:Hid (A5 b w w1):=(A5.refl b w).trans Bo.o;have Df:=Av.o.size;have H1:=A0 h1;clear h1 A1;go_wp2_with fail
 refine(HX.o _ H1.o).mono ?_;rintro e w2 ⟨Ij,x2,rfl,h2,B1,Bm⟩;have B4:=A0 B1;have B7:Hid (A5 b w w2):=Av.o.trans B4.o;have F2:=B7.o.size;have Dv:=A0 Bm;have H2:=A0 h2;clear h2 B1 Bm;rcases HC.o with⟨c1,c2,v,hv,hr⟩|⟨c1,c2,v,hv,hr⟩|⟨c2,hr⟩
 ·have Bv:x.2.bad=0:=H2.o.Gv z4sa;have tc:O6 Ij=true:=by rw[(Z3 (Dv.o Bv) (Dv.o Bv)).1];exact c1
  have HCs:=A0 c1;have HB:=A0 Bv;have HR:=A0 hr;have tk:(kT x.2==26)=true:=by simpa using c2
  have HM:Hid (I5 26 x.2=Aj x.2):=by show _=_;unfold I5;rw[if_pos c2]
  have HV:=A0 (fun(W:World) (h:PR b tb cap te ts W (Aj x.2))=>Km ih W (Aj x.2) v h hv);clear c1 c2 hv hr HC Bv;go_wp2_with fail
  refine(T8 _ _ _).mono ?_;rintro e w' ⟨rfl,rfl⟩;rw[tc];go_wp2_with fail
  refine(Mq H2.o 26).mono ?_;rintro e w3 ⟨rfl,h3,Cj⟩;have Bc:=A0 Cj;have Cd:Hid (A5 b w w3):=B7.o.trans Bc.o;have lw3:=Cd.o.size;rw[tk];rw[HM.o]at h3;have H3:=A0 h3;clear h3 Cj;go_wp2_with fail
  refine(HV.o _ H3.o).mono ?_;rintro e w4 ⟨ty4,x4,rfl,h4,Ck,hr4⟩;have Cl:=A0 Ck;have C8:Hid (A5 b w w4):=Cd.o.trans Cl.o;have lw4:=C8.o.size;have Iz:=A0 hr4;have H4:=A0 h4;clear h4 Ck hr4;go_wp2;go_ret;rw[HR.o];refine⟨(setNode x.1 v.1,v.2),⟨_,_,rfl,PR.alloc H4.o _,C8.o.alloc _,fun hb=>?_⟩,rfl,rfl⟩;have r2:Al (fun g=>w.heap.size<=g) w4 x.1 [.iface Ij x2]:=Al.later z4sa z4sa (Bc.o.trans Cl.o) (Dv.o HB.o);have r4:Al (fun g=>w.heap.size<=g) w4 v.1 [.iface ty4 x4]:=Al.weak z4sa (Iz.o hb);obtain⟨l,ch,ks,e1,e2,e3,e4,e5,e6⟩:=(Z3 r2 r4).2 HCs.o;have hcl:=Hz (w:=w) (W:=w4) (r:=(setNode x.1 v.1,v.2)) (l:=l) (ch:=ch) (ks:=ks) (cs:=#[.iface Ij x2,.iface ty4 x4]) (t:=268) (tt:=322) H4.o C8.o e1 e2 e3.symm e4.symm (fun _=>⟨e5,e6⟩);obtain⟨t',x',e',_,_,hrr⟩:=hcl;injection e' with e';rw[←e']at hrr;exact hrr hb
 ·have Bv:x.2.bad=0:=H2.o.Gv z4sa;have tc:O6 Ij=false:=by rw[(Z3 (Dv.o Bv) (Dv.o Bv)).1];exact c1
  have hf:(Dh x.2).bad≠0:=Xe (fun e=>(H2.o.lines e).1);have Fk:v.2=Dh x.2:=Qn (Qc _ Bv) hf _ _ _ _ _ hv;have hw:Aw 25 v.2=Aw 25 x.2:=by
   rw[Fk,A52 z4ta hf (Qc _ Bv)];unfold Aw;rw[if_neg z4sa]
  have HR:Hid (r=(nd (Au 30 (Hi x.1).line) x.1,Aw 25 x.2)):=by show _=_;rw[hr,hw]
  clear c1 c2 hv hr HC Bv hf Fk hw;exact z1ha
 ·have HR:=A0 hr;have tk:(kT x.2==26)=false:=by simpa using c2
  have HM:Hid (I5 26 x.2=x.2):=by show _=_;unfold I5;rw[if_neg c2]
  clear c2 hr HC;cases tc:O6 Ij
  ·exact z1ha
  ·go_wp2_with fail
   refine(T8 _ _ _).mono ?_;rintro e w' ⟨rfl,rfl⟩;rw[tc];go_wp2_with fail
   refine(Mq H2.o 26).mono ?_;rintro e w3 ⟨rfl,h3,Cj⟩;have Bc:=A0 Cj;have Cd:Hid (A5 b w w3):=B7.o.trans Bc.o;have lw3:=Cd.o.size;rw[tk];rw[HM.o]at h3;have H3:=A0 h3;clear h3 Cj;go_wp2;go_ret;rw[HR.o];refine⟨(nd (Au 30 (Hi x.1).line) x.1,x.2),?_,rfl,rfl⟩;exact Hz (l:=Au 30 (Hi x.1).line) (ch:=x.1) (ks:=[.iface Ij x2]) H3.o Cd.o rfl z59a rfl rfl (fun hb=>⟨⟨_,rfl,rfl⟩,Al.later z4sa z4sa Bc.o (Dv.o hb)⟩)
theorem Ah3(ih:Iw b tb cap te ts n)(w:World)(s:PS)(r:BT A3×PS)(h5:kT s≠5)(h6:kT s≠6)(h8:kT s≠8)(hs:PR b tb cap te ts w s)(hp:Ab (n+1) 9 0 .nil s=some r) :
  Calls Tryz.prog 190 #[.pointer (some ⟨b,0,none⟩)] w (P2 b tb cap te ts w r):=by
 by_cases c9:kT s=9
 ·by_cases c25:kT (Aj s)=25
  ·exact Akr w s r c9 c25 hs hp
  ·exact Aks ih w s r c9 c25 hs hp
 by_cases c10:kT s=10
 ·exact Ail w s r c10 hs hp
 by_cases c11:kT s=11
 ·exact Aio w s r c11 hs hp
 by_cases c12:kT s=12
 ·exact Akn ih w s r c12 hs hp
 exact Akt ih w s r z4sa hs hp
theorem Ah4(ih:Iw b tb cap te ts n)(w:World)(s:PS)(r:BT A3×PS)(hs:PR b tb cap te ts w s)(hp:Ab (n+1) 9 0 .nil s=some r) :
  Calls Tryz.prog 132 #[.pointer (some ⟨b,0,none⟩)] w (Hr b tb cap te ts w r):=by
 by_cases c8:kT s=8
 ·exact Ahe ih w s r c8 hs hp
 have HS:=A0 hs;have lb:=hs.lt;by_cases c5:kT s=5
 ·have HX:=A0 (fun(W:World) (h:PR b tb cap te ts W s)=>Age ih W s r c5 h hp);have t5:((kT s:Int)==5)=true:=ke (c:=5) rfl c5;clear hp hs c5 c8;go_enter Tryz.func132,Tryz.ntmps132;exact z02a
 have t5:((kT s:Int)==5)=false:=kn (c:=5) rfl c5;by_cases c6:kT s=6
 ·have HX:Hid (∀W,PR b tb cap te ts W s->Calls Tryz.prog 187 #[.pointer (some ⟨b,0,none⟩)] W (Hr b tb cap te ts W r)):=by
   intro W h;obtain⟨x,bl,h1,h2,⟨h3,c,h4,e⟩|⟨h3,e⟩⟩:=Yi c6 hp
   ·exact Agc ih W s r c6 x bl h1 h2 h3 c h4 e h
   ·exact Agb ih W s r c6 x bl h1 h2 h3 e h
  have t6:((kT s:Int)==6)=true:=ke (c:=6) rfl c6;clear hp hs c5 c8 c6;go_enter Tryz.func132,Tryz.ntmps132;exact z02a
 have t6:((kT s:Int)==6)=false:=kn (c:=6) rfl c6;have t8:((kT s:Int)==8)=false:=kn (c:=8) rfl c8;have HX:=A0 (fun(W:World) (h:PR b tb cap te ts W s)=>Ah3 ih W s r c5 c6 c8 h hp);clear hp hs c5 c8 c6;go_enter Tryz.func132,Tryz.ntmps132;go_wp2_with fail
 refine(De HS.o).mono ?_;rintro e w1 ⟨rfl,h1,A1⟩;have Bo:=A0 (Below.only (b:=b) A1);have Av:Hid (A5 b w w1):=(A5.refl b w).trans Bo.o;have Df:=Av.o.size;have H1:=A0 h1;clear h1 A1;go_wp2_with fail
 refine(HX.o _ H1.o).mono ?_;rintro e w2 ⟨r2,⟨Ij,x2,rfl,h2,B1,Bm⟩,e21,e22⟩;have B4:=A0 B1;have B7:Hid (A5 b w w2):=Av.o.trans B4.o;have F2:=B7.o.size;have Dv:=A0 Bm;have HE1:=A0 e21;have HE2:=A0 e22;have H2:=A0 h2;clear h2 B1 Bm e21 e22;go_wp2_with fail
 refine(J8 H2.o 25).mono ?_;rintro e w3 ⟨kk3,ln3,nn3,S3,rfl,htk3,h3,Cj⟩;have Bc:=A0 Cj;have Cd:Hid (A5 b w w3):=B7.o.trans Bc.o;have lw3:=Cd.o.size;have HTk3:=A0 htk3;have H3:=A0 h3;clear h3 Cj htk3;go_wp2;go_ret;refine⟨_,_,rfl,by rw[HE2.o];exact H3.o,Cd.o,fun hb=>?_⟩;rw[HE2.o]at hb;rw[HE1.o];exact Al.later z4sa z4sa Bc.o (Dv.o (Ll hb))
theorem p9{b tb cap te:Nat}{ts:List Tk}:∀N n,n<=N->n<=500000->Iw b tb cap te ts n:=by
 intro N;induction N with
 | zero=>
  intro n hn _;obtain rfl:n=0:=by omega
  exact⟨fun _ _ _ _ _ _ h=>absurd h (F3 _ _ _ _ _),fun _ _ _ _ h=>absurd h (F3 _ _ _ _ _),fun _ _ _ _ h=>absurd h (F3 _ _ _ _ _),fun _ _ _ _ _ h=>absurd h (F3 _ _ _ _ _),fun _ _ _ _ h=>absurd h (F3 _ _ _ _ _),fun _ _ _ _ h=>absurd h (F3 _ _ _ _ _)⟩
 | succ N ih=>
  intro n hn h5;cases n with
  | zero=>exact ih 0 z4sa z4sa
  | succ n=>
   have ihn:∀m,m<=n->Iw b tb cap te ts m:=fun m hm=>ih m z4sa z4sa;exact⟨fun w s a r ha hs hp=>Ag6 ihn w s a r ha hs hp,fun w s r hs hp=>Ah7 ihn w s r hs hp,fun w s r hs hp=>Ag5 (ihn n (Nat.le_refl _)) w s r hs hp,
    fun w s a r hs hp=>Adv ihn z4sa w s a r hs hp,fun w s r hs hp=>Ag7 ihn z4sa w s r hs hp,fun w s r hs hp=>Ah4 (ihn n (Nat.le_refl _)) w s r hs hp⟩
end
section
open Go.RowKit
open Go.Deep (BT)
theorem Agw{n:Nat}{acc:List (Nat×List UInt8)}{s:PS}{r:List (Nat×List UInt8)×PS}(hk:kT (Aw 1 s)=24)(h:Gn (n+1) acc s=some r):Gn n (acc++[((An s).line,(An s).s)]) (Aj (Aw 1 s))=some r:=by
 rw[Gn,if_pos hk]at h;exact h
theorem Agu{n:Nat}{acc:List (Nat×List UInt8)}{s:PS}{r:List (Nat×List UInt8)×PS}(hk:kT (Aw 1 s)≠24)(h:Gn (n+1) acc s=some r):r=(acc++[((An s).line,(An s).s)],Aw 19 (Aw 1 s)):=by
 rw[Gn,if_neg hk]at h;exact z1la
theorem Afz{n:Nat}{acc:BT A3}{s:PS}{r:BT A3×PS}(hk:kT s=0)(h:Ab (n+1) 10 0 acc s=some r):r=(acc,s):=by
 rw[Ab,if_neg z4ta,if_neg z4ta,if_neg z4ta,if_neg z4ta,if_neg z4ta,if_neg z4ta,if_neg z4ta,if_neg z4ta,if_neg z4ta,if_neg z4ta,if_pos rfl,if_pos hk]at h;exact z1la
theorem Ag0{n:Nat}{acc:BT A3}{s:PS}{r:BT A3×PS}(hk:kT s=4)(h:Ab (n+1) 10 0 acc s=some r):∃x,Ab n 11 0 .nil s=some x/\Ab n 10 0 (Co acc x.1) x.2=some r:=by
 rw[Ab,if_neg z4ta,if_neg z4ta,if_neg z4ta,if_neg z4ta,if_neg z4ta,if_neg z4ta,if_neg z4ta,if_neg z4ta,if_neg z4ta,if_neg z4ta,if_pos rfl,if_neg z4sa,if_pos hk]at h;exact bind_some h
theorem Ag1{n:Nat}{acc:BT A3}{s:PS}{r:BT A3×PS}(J2:kT s≠0)(hk:kT s≠4)(h:Ab (n+1) 10 0 acc s=some r):∃x,Ab n 9 0 .nil s=some x/\Ab n 10 0 (Co acc x.1) x.2=some r:=by
 rw[Ab,if_neg z4ta,if_neg z4ta,if_neg z4ta,if_neg z4ta,if_neg z4ta,if_neg z4ta,if_neg z4ta,if_neg z4ta,if_neg z4ta,if_neg z4ta,if_pos rfl,if_neg J2,if_neg hk]at h;exact bind_some h
end
end Go.Proofs.YtjdlndhfaaolaaaGreatDoor
