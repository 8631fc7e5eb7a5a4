import Derived.Test.YtjdlndhfaaolaaaGreatDoorY17
import Derived.Test.YtjdlndhfaaolaaaGreatDoorY29
import Derived.Test.YtjdlndhfaaolaaaGreatDoorY33
set_option maxHeartbeats 20000000
set_option linter.all false
namespace Go.Proofs.YtjdlndhfaaolaaaGreatDoor
section
set_option maxRecDepth 100000
open Go.RowKit
open Go.Deep (BT)
def Hr.keep{w w':World}(h:Hr w)(hb:Bw w w'):Hr w':=Lib.tabBelow_of_tabIs h w' hb
def Ym(va:Option Addr)(vn vc:Nat):Value:=.tuple #[.slice va vn vc,.bool true]
def A42(P:C5)(bets:List Cl)(out:List (List UInt8)):Prop:=∀(w:World) (gb:Nat) (E:Nat->Prop) (v:Value),Tp E w gb P->(∀g,E g->g<w.heap.size)->Hr w->H7 M1 w v bets->
 Calls Tryz.prog 23 #[.p gb,v] w fun e w'=>∃va vn vc line fv dv,e=.returned (.agg #[.slice va vn vc,.i 0,.n line,fv,dv])/\(∃fa fn fc da dn dc,fv=.slice fa fn fc/\dv=.slice da dn dc)/\w'.ownsRow 0 9 1 (.slice va vn vc) out.length (strs out)/\Bw w w'
def Zw(l:List UInt8)(bets:List Cl)(out:List (List UInt8)):Prop:=∀(w:World) (v:Value),K6 w->4<=w.heap.size->Hr w->H7 M1 w v bets->
 Calls Tryz.prog 17 #[.s l,v] w fun e w'=>∃va vn vc,e=.returned (Ym va vn vc)/\w'.ownsRow 0 9 1 (.slice va vn vc) out.length (strs out)/\Bw w w'
def Aq2{l:List UInt8}{c:BT A5}{P:C5}{bets:List Cl}{out:List (List UInt8)}(hPa:Xf l)(hc:Gu l=((0,0),some c))(hP:Fo c=P)(hR:A42 P bets out):Zw l bets out:=by
 intro w v hg hw ht hb;obtain⟨a,cc,rfl,hcc,hb'⟩:=id hb;have HCo:=A56 l (fun _=>hPa) w hg hw;go_in;go_wp2_with fail
 refine HCo.mono ?_;rintro e w1 ⟨A2,⟨hf,rfl⟩|⟨c',gb,E,hcp,_,_,_,rfl,hpg,hE⟩⟩
 ·exact absurd (by rw[hc]) hf
 ·have hcc':c'=c:=by have:=hc.symm.trans hcp;simpa using this.symm
  rw[hcc',hP]at hpg;have ls:=A2.size;have HRun:=fun(W:World) (hbW:Bw w1 W)=>hR W gb E (.slice a bets.length cc) (by obtain⟨pb,q1,q2,q3⟩:=hpg;exact⟨pb,q1,(hbW.block _ (A6 q2)).trans q2,q3.keep (fun g hg hl=>⟨hbW.block g hl,hg⟩)⟩) (fun g hg=>Cb (hE g hg).2 hbW.size) ((ht.keep A2).keep hbW) ((hb.below A2).below hbW);go_wp2_with fail
  refine(HRun _ (by repeat (first|exact Al _ _|refine Ah ?_ z4ra _|refine B0 ?_ z4ra _|refine B8 ?_))).mono ?_;rintro e w2 ⟨va,vn,vc,line,fv,dv,rfl,⟨fa,fn,fc,da,dn,dc,rfl,rfl⟩,ho,Ad⟩;have Ab:Bw w w2:=A2.trans (Ib (by repeat (first|exact Al _ _|refine Ah ?_ z4ma _|refine B0 ?_ z4qa _|refine B8 ?_)) (Ad.mono z4qa));have ls2:=Ab.size;go_wp2;go_region
  all_goals go_wp2
  all_goals refine B9 (v:=Ym va vn vc) (by simp[results,Tryz.results17,go_sem,Ym]) rfl ?_
  all_goals refine⟨va,vn,vc,rfl,Bc ho (fun k _ hl=>Ck _ _ _ hl),?_⟩
  all_goals repeat (first|exact Ab|refine Ah ?_ z4ma _|refine B8 ?_)
def A8b(c:Int)(hc:Fk c)(n:Nat)(h0:0<n)(hn:n<=1000)(w:World):Calls Tryz.prog 21 #[.int .i64 c,.int .i64 (n:Nat)] w fun e w'=>∃k:Nat,k<n/\e=.returned (.int .i64 (k:Nat))/\w'=w:=by
 have hz:((n:Nat):Int)≠0:=by omega
 unfold Fk at hc;by_cases h:c<0
 ·have hw:IntKind.i64.wrap (c+1)=c+1:=by rw[O7];omega
  have Gh:IntKind.i64.wrap (-(c+1))=-(c+1):=by rw[O7];omega
  have e0:(-(c+1)).tmod (n:Int)=-(c+1) % (n:Int):=Aax z4ma;have I4:=Int.emod_nonneg (-(c+1)) hz;have hlt:=Int.emod_lt_of_pos (-(c+1)) (show(0:Int)<(n:Nat) by omega);go_in;go_wp2;go_ret;exact⟨(-(c+1) % (n:Int)).toNat,by omega,by rw[Int.toNat_of_nonneg I4];rfl,rfl⟩
 ·have e0:c.tmod (n:Int)=c % (n:Int):=Aax z4ma;have I4:=Int.emod_nonneg c hz;have hlt:=Int.emod_lt_of_pos c (show(0:Int)<(n:Nat) by omega);go_in;go_wp2;go_ret;exact⟨(c % (n:Int)).toNat,by omega,by rw[Int.toNat_of_nonneg I4];rfl,rfl⟩
def At4{P:Program}{ops:Array Oper}{o:Oper}{a:Act}{K:Act->World->Prop}{Q:Exit->Act->World->Prop}{E:Prop}(W:World)(B:Nat)(cs:Array Value)(e:TypeId)(hB:W.heap[B]?=some (.cells cs e (0,0)))(hgd:o.guard=none)(s x:Operand)(t:TypeId)
  (ho:o.op=.call { callee:=.builtin .append,args:=#[s,x],argTypes:=#[t,t] })
  (base size bytes:Nat) (z:Value) (ht:P.underlying t=some (.slice e)) (hinfo:(P.info? e).map (fun i=>(i.zero,i.size,i.bytes))=some (some z,size,bytes))
  (hzs:z.cells.size=size) (hsz:0<size)
  (v:Value) (n:Nat) (xs:List Value) (hs:a.eval s=v) (hx:a.eval x=.slice (some ⟨B,0,none⟩) 1 1)
  (hown:W.ownsRow base e size v n xs) (hl:cs.size=size) (h1:∀u∈cs.toList,u.oneCell'=true)
  (hn:n<=140737488355328) (hby:(n+1)*bytes<=140737488355328) (hbase:base<=W.heap.size)
  (h:∀g cap w',w'.ownsRow base e size (.slice (some ⟨g,0,none⟩) (n+1) cap) (n+1) (xs++cs.toList)->W.grownBy w' v.ownBlock->(v.ownBlock=some g\/g=W.heap.size)->g<w'.heap.size->
   K (a.put o.dst (.slice (some ⟨g,0,none⟩) (n+1) cap)) w') :
  if Region.wanted o (yielded ops a.tmps)=true then Oper.wp P o a W K Q else E:=by
 obtain⟨i,hi,I6,Cu,Dg⟩:=Qr hinfo;exact A38 (P:=P) W hgd s x t ho base e i z size bytes ht hi I6 Cu Dg hzs hsz v n xs hs hown ⟨B,0,none⟩ 1 1 cs.toList hx (by simp[hl])
  (Wz hB) h1 z4ma z64a hby hbase W.heap.size rfl h
def A3w(w:World)(t:Cl×Value×Value):Prop:=(∀n∈t.1.ints,Fk n)/\Na M1 w t.2.1 (ints t.1.kinds)/\Na M1 w t.2.2 (ints t.1.ints)
def x7(t:Cl×Value×Value):List Value:=[.i t.1.fn,.i t.1.after,t.2.1,t.2.2]
def Akh:(Tryz.prog.info? 41).map (fun i=>(i.zero,i.size,i.bytes))=some (some (.agg #[.i 0,.i 0,.slice none 0 0,.slice none 0 0]),4,64):=by kernel_rfl
def BtR(w:World)(N:Nat)(q:Nat)(v2 v3:Value)(wr:World):Prop:=∃(T:List (Cl×Value×Value)) (a:Option Addr) (c:Nat),v2=.slice a T.length c/\v3=.n T.length/\T.length+q=N/\wr.ownsRow w.heap.size 41 4 (.slice a T.length c) T.length (C0 x7 T)/\(∀t∈T,A3w w t)/\Bw w wr
def A4n{raws:List Cl}(hr:∀x∈raws,(∀n∈x.ints,Fk n)/\Fk x.fn/\Fk x.after)(hn:raws.length*64<=140737488351232){w:World}{a:Option Addr}{c:Nat}(hb:H7 M1 w (.slice a raws.length c) raws) :
  Calls Tryz.prog 26 #[.slice a raws.length c] w fun e w'=>∃v bs,e=.returned v/\H7 M1 w' v bs/\(∀x∈bs,∀n∈x.ints,Fk n)/\Bw w w':=by
 obtain⟨a',c',ev,hcc,hbt⟩:=hb;injection ev with e1 _ e3;subst e1 e3;go_in;go_wp2;go_loopg [3,4] raws.length (fun q v2 v3 wr=>BtR w raws.length q v2 v3 wr)
 case atStart=>exact⟨[],none,0,rfl,rfl,by simp,⟨rfl,.inl ⟨rfl,rfl⟩⟩,(fun t q=>by cases q),Al _ _⟩
 case round=>
  obtain⟨T,b,d,rfl,rfl,hj,ho,hT,hbr⟩:=hrel;have lsr:=hbr.size;by_cases hlt:T.length<raws.length
  ·obtain⟨g,o,rfl,_,hgl,hcell⟩:=hbt z4ma;obtain⟨q0,q1,kv,iv,q2,q3,r2,r3⟩:=hcell T.length hlt;have d0:=(D9 (hbr.block g hgl)).trans q0;have d1:=(D9 (hbr.block g hgl)).trans q1;have d2:=(D9 (hbr.block g hgl)).trans q2;have d3:=(D9 (hbr.block g hgl)).trans q3;rw[←X0]at d1 d2 d3;have lg:g<wr.heap.size:=by omega
   have t1:((T.length:Nat):Int)<((raws.length:Nat):Int):=by omega
   obtain⟨i1,i2,i3⟩:=hr _ (Ho hlt);generalize hB:raws[T.length]=B at *;have Cn:=fun W=>A8b B.fn i2 4 z4ma z4ma W;have Bk:=fun W=>A8b B.after i3 12 z4ma z4ma W;obtain⟨ka,kc,rfl,rk⟩:=r2;obtain⟨ia,ic,rfl,ri⟩:=r3;have HK:∀V:World,V.heap[g]?=wr.heap[g]?->g<V.heap.size->g<V.heap.size/\V.cell? ⟨g,o+T.length*4,none⟩=some (.i B.fn)/\V.cell? ⟨g,o+T.length*4+1,none⟩=some (.i B.after)/\V.cell? ⟨g,o+T.length*4+2,none⟩=some (.slice ka (ints B.kinds).length kc)/\V.cell? ⟨g,o+T.length*4+3,none⟩=some (.slice ia (ints B.ints).length ic):=fun V h l=>⟨l,(D9 h).trans d0,(D9 h).trans d1,(D9 h).trans d2,(D9 h).trans d3⟩;have HI:=show A3w w (⟨0,0,B.kinds,B.ints⟩,.slice ka (ints B.kinds).length kc,.slice ia (ints B.ints).length ic) from⟨i1,⟨ka,kc,rfl,rk⟩,⟨ia,ic,rfl,ri⟩⟩;have HL:∀k,(Value.slice b T.length d).ownBlock=some k->w.heap.size<=k:=fun k hk=>(ho.lt _ hk).1;go_wp2;go_region_held3 (fun V:World=>g<V.heap.size/\V.cell? ⟨g,o+T.length*4,none⟩=some (.i B.fn)/\V.cell? ⟨g,o+T.length*4+1,none⟩=some (.i B.after)/\V.cell? ⟨g,o+T.length*4+2,none⟩=some (.slice ka (ints B.kinds).length kc)/\V.cell? ⟨g,o+T.length*4+3,none⟩=some (.slice ia (ints B.ints).length ic)) (first|exact HK _ rfl lg|exact HK _ (Ck _ _ _ lg) z4qa|exact HK _ hq1 lq1) (first
    | (go_at_call 21;revert hk1;intro hk1;refine(Bk _).mono ?_;rintro e w9 ⟨k2,D4,rfl,Ff⟩;subst Ff)
    | (go_at_call 21;refine(Cn _).mono ?_;rintro e w9 ⟨k1,hk1,rfl,Ff⟩;subst Ff)
    | (refine At4 _ wr.heap.size #[.n k1,.n k2,.slice ka (ints B.kinds).length kc,.slice ia (ints B.ints).length ic] 41 (Bp wr.drew _) rfl (.tmp 11) (.tmp 35) 42 rfl w.heap.size 4 64 _ Tryz.underlying42 Akh rfl z4ma (.slice b T.length d) T.length (C0 x7 T) rfl rfl ((ho.drew).alloc _) rfl (fun v hv=>by simp at hv;rcases hv with rfl|rfl|rfl|rfl <;> rfl) z4ma z4ma z4qa ?_;intro g1 cap w1 Ev hgrow hat Kj;have Bd:=A0 Ev;have hq1:w1.heap[g]?=wr.heap[g]?:=(hgrow.block g z4qa (fun e=>by have:=HL g e.symm;omega)).trans (Ck _ _ _ lg);have A9:Hid (Bw w w1):=Below.grown (Ah (B8 hbr) lsr _) hgrow z4qa HL;have lq1:g<w1.heap.size:=(by have:=A9.o.size;omega);clear Ev hgrow hat))
   go_wp2;go_roundg (gk-1)
   case measure=>omega
   case rel=>
    refine⟨T++[(⟨k1,k2,B.kinds,B.ints⟩,.slice ka (ints B.kinds).length kc,.slice ia (ints B.ints).length ic)],some ⟨g1,0,none⟩,cap,by simp,by simp,by simp;omega,?_,fun t ht=>?_,A9.o⟩
    ·rw[Ds,T8];exact Bd.o
    ·rcases Jp.1 ht with q|q
     ·exact hT t q
     ·rw[Lb.1 q];exact HI
  ·have t1:¬((T.length:Nat):Int)<((raws.length:Nat):Int):=by omega
   go_wp2;refine B9 (v:=.slice b T.length d) (by simp[results,Tryz.results26,go_sem]) rfl ⟨_,rfl,T.map Prod.fst,?_,fun x hx=>?_,hbr⟩
   ·refine⟨b,d,by simp,?_,fun hn=>?_⟩
    ·rcases Nat.eq_zero_or_pos T.length with q|q
     ·rw[Mb,q];exact De _
     ·obtain⟨_,_,_,k,_⟩:=G1 ho q;rw[Mb];exact k
    ·rw[Mb]at hn;obtain⟨g,rfl,_,_,lg,hc⟩:=G1 ho z4ma;refine⟨g,0,rfl,trivial,lg,fun i hi=>?_⟩;rw[Mb]at hi;have k:=fun j hj=>hc (i*4+j) _ ((D8 (f:=x7) (sz:=4) (fun _=>rfl) T i j hi hj).trans (Eh (by exact hj)));rw[List.getElem_map];simp only[Tf];obtain⟨_,r2,r3⟩:=hT _ (Ho hi);exact⟨k 0 z4ma,k 1 z4ma,_,_,k 2 z4ma,k 3 z4ma,r2.keep (fun g hg hl=>⟨hbr.block g hl,hg⟩) hbr.size,r3.keep (fun g hg hl=>⟨hbr.block g hl,hg⟩) hbr.size⟩
   ·obtain⟨t,ht,rfl⟩:=Qu.1 hx;exact(hT t ht).1
def Am5(W:World)(l:List (List UInt8))(hn:l.length<=1000):(W.alloc (.cells (strs l).toArray 9)).ownsRow 0 9 1 (.slice (some ⟨W.heap.size,0,none⟩) l.length l.length) l.length (strs l):=
 ⟨by simp[strs],.inr ⟨W.heap.size,l.length,(strs l).toArray,rfl,De _,Bp _ _,Af _,by unfold maxLen;omega,by simp[strs],by simp only[O4];exact Ot (by simp[strs])⟩⟩
def Aej(h:Zw Uu [] Uw)(w:World)(hg:K6 w)(hw:4<=w.heap.size)(ht:Hr w):Calls Tryz.prog 15 #[] w fun e w'=>e=.returned (.bool true)/\Bw w w':=by
 have HR:=h w (.slice none 0 0) hg hw ht ⟨none,0,rfl,Af _,fun q=>absurd rfl q⟩;go_in;go_wp2_with fail
 refine HR.mono ?_;rintro e w1 ⟨va,vn,vc,rfl,ho,hb⟩;have ls:=hb.size;have HS:=A8t Uw z4oa (w1.alloc (.cells (strs Uw).toArray 9)) va vn vc (some ⟨w1.heap.size,0,none⟩) 3 3 (Bc ho (fun k _ hl=>Ck _ _ _ hl)) (Am5 w1 Uw z4oa);unfold Ym;go_wp2_with fail
 refine HS.mono ?_;rintro e w2 ⟨rfl,Ad⟩;have Ab:Bw w w2:=hb.trans (Ib (Ah (Al _ _) ls _) (Ad.mono z4qa));go_wp2;go_ret;exact⟨rfl,Ab⟩
