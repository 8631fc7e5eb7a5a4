import Derived.BigQuiet
import Derived.Deep.RegionLaw
import Derived.StillTailTactics
import Derived.Test.YtjdlndhfaaolaaaGreatDoorR09
set_option maxHeartbeats 20000000
namespace Go.Proofs.YtjdlndhfaaolaaaGreatDoor
section
open Go.RowKit
variable {P:Program}{ops:Array Oper}{o:Oper}{a:Act}{K:Act->World->Prop}{Q:Exit->Act->World->Prop}{E:Prop}
theorem Af7(W:World)(cs:Array Value)(e:TypeId)(hgd:o.guard=none)(s x:Operand)(t:TypeId)
  (ho:o.op=.call { callee:=.builtin .append,args:=#[s,x],argTypes:=#[t,t] })
  (base size bytes:Nat) (z:Value) (ht:P.underlying t=some (.slice e)) (hinfo:(P.info? e).map (fun i=>(i.zero,i.size,i.bytes))=some (some z,size,bytes))
  (hzs:z.cells.size=size) (hsz:0<size)
  (v:Value) (n:Nat) (xs:List Value) (hs:a.eval s=v) (hx:a.eval x=.slice (some ⟨W.heap.size,0,none⟩) 1 1)
  (hown:W.ownsRow base e size v n xs) (hl:cs.size=size) (h1:∀u∈cs.toList,u.oneCell'=true)
  (hn:n<=1000000) (hby:bytes<=1000) (hbase:base<=W.heap.size)
  (h:∀g cap w',w'.ownsRow base e size (.slice (some ⟨g,0,none⟩) (n+1) cap) (n+1) (xs++cs.toList)->W.grownBy w' v.ownBlock->(v.ownBlock=some g\/g=W.heap.size+1)->g<w'.heap.size->
   K (a.put o.dst (.slice (some ⟨g,0,none⟩) (n+1) cap)) w') :
  if Region.wanted o (yielded ops a.tmps)=true then Oper.wp P o a (W.alloc (.cells cs e)) K Q else E:=by
 obtain⟨i,hi,hz0,C4,Bv⟩:=info_parts hinfo;have hb:=Nat.mul_le_mul (show n+1<=1000001 by omega) hby;refine step_append_lies (P:=P) (W.alloc (.cells cs e)) hgd s x t ho base e i z size bytes ht hi hz0 C4 Bv hzs hsz v n xs hs (hown.alloc _) ⟨W.heap.size,0,none⟩ 1 1 cs.toList hx (by simp[hl])
  (World.news_of_block (heap_alloc_new W _)) h1 (by omega) (by simp only[maxLen];omega) (by omega) (by simp;omega) (W.heap.size+1) (by simp) ?_
 intro g cap w' k1 k2 k3 k4;exact h g cap w' k1 (N6 (World.grownBy_alloc W _ none) k2) k3 k4
theorem P9(W:World)(B:Nat)(cs:Array Value)(e:TypeId)(hB:W.heap[B]?=some (.cells cs e (0,0)))(hgd:o.guard=none)(s x:Operand)(t:TypeId)
  (ho:o.op=.call { callee:=.builtin .append,args:=#[s,x],argTypes:=#[t,t] })
  (base size bytes:Nat) (z:Value) (ht:P.underlying t=some (.slice e)) (hinfo:(P.info? e).map (fun i=>(i.zero,i.size,i.bytes))=some (some z,size,bytes))
  (hzs:z.cells.size=size) (hsz:0<size)
  (v:Value) (n:Nat) (xs:List Value) (hs:a.eval s=v) (hx:a.eval x=.slice (some ⟨B,0,none⟩) 1 1)
  (hown:W.ownsRow base e size v n xs) (hl:cs.size=size) (h1:∀u∈cs.toList,u.oneCell'=true)
  (hn:n<=1000000) (hby:bytes<=1000) (hbase:base<=W.heap.size)
  (h:∀g cap w',w'.ownsRow base e size (.slice (some ⟨g,0,none⟩) (n+1) cap) (n+1) (xs++cs.toList)->W.grownBy w' v.ownBlock->(v.ownBlock=some g\/g=W.heap.size)->g<w'.heap.size->
   K (a.put o.dst (.slice (some ⟨g,0,none⟩) (n+1) cap)) w') :
  if Region.wanted o (yielded ops a.tmps)=true then Oper.wp P o a W K Q else E:=by
 obtain⟨i,hi,hz0,C4,Bv⟩:=info_parts hinfo;have hb:=Nat.mul_le_mul (show n+1<=1000001 by omega) hby;exact step_append_lies (P:=P) W hgd s x t ho base e i z size bytes ht hi hz0 C4 Bv hzs hsz v n xs hs hown ⟨B,0,none⟩ 1 1 cs.toList hx (by simp[hl])
  (World.news_of_block hB) h1 (by omega) (by simp only[maxLen];omega) (by omega) hbase W.heap.size rfl h
end
section
open Go.RowKit
theorem Nf{P:Program}{ops:Array Oper}{o:Oper}{a:Act}{w:World}{K:Act->World->Prop}{Q:Exit->Act->World->Prop}{E:Prop}(hg:o.guard=none)(f:FuncId)(xs:Array Operand)(ts:Array TypeId)(_:o.op=.call { callee:=.value (.func f),args:=xs,argTypes:=ts })(args:Array Value)
  (hrun:(execOp a.eval o).run P w=.ok (.enter f args) w) {R:Ending->World->Prop} (hC:Calls P f args w R)
  (h:∀e w',R e w'->∃u,e=.returned u/\K (a.put o.dst u) w'):if Region.wanted o (yielded ops a.tmps)=true then Oper.wp P o a w K Q else E:=by
 have hw:Region.wanted o (yielded ops a.tmps)=true:=by simp[Region.wanted,hg]
 rw[if_pos hw];unfold Oper.wp;rw[hrun,Oper.upon_enter];refine hC.mono ?_;intro e w' hR;obtain⟨u,rfl,hK⟩:=h e w' hR;exact hK
end
section
open Go.RowKit
variable {P:Program}{ops:Array Oper}{w:World}{Q:Act->Prop}{a:Act}
structure Oh (P : Program) (ops : Array Oper) (w : World) (Q : Act -> Prop) (l : List Oper) (a : Act) : Prop where
 out:wpStill P ops w Q l a
theorem Mu{P:Program}{id:Nat}{Q:Exit->Act->World->Prop}{a:Act}{w:World}{l:List Oper}(n:Nat)(hm:P.follows .mixedOrders=true)(hB:Region.lexTailB .any l.toArray n=true)
  (h:Oh P l.toArray { w with drawn:=w.drawn+1 } (fun a'=>wpList P l.toArray Q (l.drop n) a' { w with drawn:=w.drawn+1 }) (l.take n) a):(Code.region id l.toArray true).wp P Q a w:=wp_region_still_tail n hm hB h.out
theorem Mt(h:Q a):Oh P ops w Q [] a:=⟨wpStill_nil h⟩
theorem Gv{o:Oper}{rest:List Oper}
  (h:∀K:Act->Prop,(∀a,Oh P ops w Q rest a->K a)->if Region.wanted o (yielded ops a.tmps) then o.still P a w K else K (a.put o.dst undef)):Oh P ops w Q (o::rest) a:=
 ⟨wpStill_step (fun K hK=>h K (fun a hb=>hK a hb.out))⟩
theorem A2u{o:Oper}{rest:List Oper}(h:∀K:Act->Prop,(∀a,Oh P ops w Q rest a->K a)->K (a.put o.dst undef))(hg:Region.wanted o (yielded ops a.tmps)=false):Oh P ops w Q (o::rest) a:=by
 refine⟨?_⟩;unfold wpStill;rw[if_neg (by rw[hg];decide)];exact h _ (fun _ h=>h.out)
theorem A2t{o:Oper}{rest:List Oper}(x:Operand)(h:∀K:Act->Prop,(∀a,Oh P ops w Q rest a->K a)->K (a.put o.dst (a.eval x)))(hop:o.op=.move x)(hg:Region.wanted o (yielded ops a.tmps)=true):Oh P ops w Q (o::rest) a:=by
 refine⟨?_⟩;unfold wpStill;rw[if_pos hg];unfold Oper.still;have:(execOp a.eval o).run P w=.ok (.value (a.eval x)) w:=by unfold execOp;rw[hop];rfl
 rw[this];exact⟨rfl,h _ (fun _ h=>h.out)⟩
end
section
set_option maxRecDepth 100000
open Go.RowKit
theorem Tq{b tb cap te:Nat}{xs:List (Tk×List UInt8)}{w:World}{s:PS}{pl:Nat}(h:Dc b tb cap te xs w s pl) :
  Calls Tryz.prog 60 #[.pointer (some ⟨b,0,none⟩)] w fun e w'=>∃S,e=.returned (.agg (H9 (A6 s,S)).toArray)/\((A6 s).k≠2->S=Eu (A6 s))/\Below w.heap.size w w':=by
 obtain⟨c0,c1,c2⟩:=h.cells;have hbl:=A5 h.rd;by_cases h0:s.bad=0
 ·have hlt:=h.lt;have hd:A6 s=xs[pl].1:=h.hd h0;have HO:=A0 (h.toks.ok xs[pl] (by simp));have d0:=h.L6 pl 0 hlt (by omega);have d1:=h.L6 pl 1 hlt (by omega);have d2:=h.L6 pl 2 hlt (by omega);have d3:=h.L6 pl 3 hlt (by omega);have hfew:=h.toks.few;rw[H9]at d0 d1 d2 d3;simp only[Nat.add_zero,List.getElem?_cons_zero,List.getElem?_cons_succ]at d0 d1 d2 d3;have HD:=A0 hd;replace c2:w.cell? ⟨b,2,none⟩=some (.int .i64 0):=by rw[c2,h0];rfl
  obtain⟨cur,ht,_⟩:=h.tok;have htl:=A5 ht;clear h hd h0 ht;generalize xs[pl]=x at *;go_enter Tryz.func60,Tryz.ntmps60;go_wp2;go_region
  all_goals go_wp2
  refine bodyPost_ret (v:=.agg (H9 x).toArray) (by simp[results,Tryz.results60,go_sem,H9]) rfl ⟨x.2,?_,?_,?_⟩
  ·rw[HD.o]
  ·rw[HD.o];exact HO.o
  ·repeat (first|exact Below.refl _ _|refine Below.alloc ?_ (by simp) _|refine Below.setCell ?_ (by simp) _|refine Below.drew ?_)
 ·have hb:s.bad<=100000:=(h.bad h0).2;have hts:=A0 (h.bad h0).1;have h0':0<(s.bad:Int):=by omega
  clear h h0;go_enter Tryz.func60,Tryz.ntmps60;go_wp2;refine bodyPost_ret (v:=.agg #[.int .u8 101,.string ⟨[].toArray⟩,.int .i64 0,.int .i64 0]) (by simp[results,Tryz.results60,go_sem]) rfl ⟨[],?_,?_,?_⟩
  ·simp only[A6,hts.out];rfl
  ·intro _;simp only[A6,hts.out];rfl
  ·repeat (first|exact Below.refl _ _|refine Below.alloc ?_ (by simp) _|refine Below.setCell ?_ (by simp) _|refine Below.drew ?_)
theorem Vi{b tb cap te:Nat}{xs:List (Tk×List UInt8)}{w:World}{s:PS}{pl:Nat}(h:Dc b tb cap te xs w s pl) :
  Calls Tryz.prog 167 #[.pointer (some ⟨b,0,none⟩)] w fun e w'=>e=.returned (.tuple #[])/\Dc b tb cap te xs w' (Cm s) pl/\A1 b w w':=by
 obtain⟨c0,c1,c2⟩:=h.cells;have hbl:=A5 h.rd;have hfz:=Ce h.rd 2;by_cases h0:s.bad=0
 ·have hlt:=h.lt;have d3:=h.L6 pl 3 hlt (by omega);have hfew:=h.toks.few;have HD:Hid (xs[pl].1.line=(A6 s).line):=by
   show _=_;rw[h.hd h0]
  rw[H9]at d3;simp only[List.getElem?_cons_zero,List.getElem?_cons_succ]at d3;replace c2:w.cell? ⟨b,2,none⟩=some (.int .i64 0):=by rw[c2,h0];rfl
  obtain⟨cur,ht,_⟩:=h.tok;have htl:=A5 ht;have HB:=A0 (fun(w1:World) (e:w1.heap=w.heap)=>(h.of_heap (w':=w1) (by rw[e]) (by rw[e])).Ab3 h0 _ HD.o);have hne:=h.ne;clear h h0 ht;generalize xs[pl].1.line=ln at *;go_enter Tryz.func167,Tryz.ntmps167;go_wp2;go_region
  all_goals go_wp2
  all_goals go_end0
  all_goals exact⟨rfl,(HB.o w rfl).drew,(A1.set (p:=⟨b,2,none⟩) (A1.refl b w) (.inl rfl) _).drew⟩
 ·have hb:s.bad<=100000:=Wy h;have h0':((s.bad:Int)==0)=false:=by rw[beq_eq_false_iff_ne];omega
  have HF:Hid (Cm s=s):=by
   show _=_;unfold Cm;rw[if_neg h0]
  have HB:=A0 h;clear h h0;go_enter Tryz.func167,Tryz.ntmps167;go_wp2;go_end0;exact⟨rfl,by rw[HF.o];exact HB.o,A1.refl _ _⟩
theorem Abw:∀i,i<=40->∀j,j<=40->4<=i->4<=j->spell i=spell j->i=j:=by decide +kernel
theorem A9y(k:Nat)(h:k<=40):(4<=k/\(k<=17->Bz k=119)/\(18<=k->Bz k=115))\/(k<4/\Bz k≠119/\Bz k≠115):=by
 revert h;revert k;decide +kernel
theorem Zb{b tb cap te:Nat}{xs:List (Tk×List UInt8)}{w:World}{s:PS}{pl:Nat}(h:Dc b tb cap te xs w s pl)(k0:Nat)(Iu:4<=k0)(Fb:k0<=40)(q:List UInt8)(hq:q=spell k0) :
  Calls Tryz.prog 61 #[.pointer (some ⟨b,0,none⟩),.string ⟨q.toArray⟩] w fun e w'=>e=.returned (.bool (kT s==k0))/\Below w.heap.size w w':=by
 have hkk:kT s<=40:=by
  unfold kT;by_cases h0:s.bad=0
  ·rw[h.hd h0];exact(h.toks.line _ (List.getElem_mem h.lt)).2.2
  ·unfold A6;rw[(h.bad h0).1];simp[Iq]
 have hin:=Abw (kT s) hkk k0 Fb;rcases A9y (kT s) hkk with⟨h4,h17,h18⟩|⟨h4,B1,D9⟩
 ·have hp:=A0 (Tq h);have HS0:Hid (Eu (A6 s)=spell (kT s)):=by
   show _=_;unfold kT at h4 ⊢;unfold Eu;rw[if_neg (by omega)]
  have HQ:Hid ((spell (kT s)==q)=(kT s==k0)):=by
   show _=_;rw[hq,Bool.eq_iff_iff,beq_iff_eq,beq_iff_eq];exact⟨fun e=>hin h4 Iu e,fun e=>by rw[e]⟩
  have Bk:(A6 s).k≠2:=by unfold kT at h4;omega
  have HK:Hid (Bz (A6 s).k=119\/Bz (A6 s).k=115):=by
   unfold kT at h4 h17 h18;by_cases h':(A6 s).k<=17
   ·exact .inl (h17 h')
   ·exact .inr (h18 (by omega))
  have Im:=A0 Bk;clear h hin h4 h17 h18 hkk Bk hq;go_enter Tryz.func61,Tryz.ntmps61;go_wp2_with fail
  refine(hp.out).mono ?_;rintro e w' ⟨S,rfl,hS,hb⟩;rw[U4];have hS':=(hS Im.o).trans HS0.o;clear hS;have HT:Hid ((S==q)=(kT s==k0)):=by
   show _=_;rw[hS'];exact HQ.o
  clear hS';rcases HK.o with hk|hk
  ·have t1:(Bz (A6 s).k==119)=true:=by rw[hk];rfl
   clear hk;cases hc:kT s==k0;all_goals
    have hT:=HT.o.trans hc;clear HT;go_wp2;go_ret;exact⟨Nu hc.symm,hb.alloc hb.size _⟩
  ·have t1:(Bz (A6 s).k==119)=false:=by rw[hk];rfl
   have t2:(Bz (A6 s).k==115)=true:=by rw[hk];rfl
   clear hk;cases hc:kT s==k0;all_goals
    have hT:=HT.o.trans hc;clear HT;go_wp2;go_ret;exact⟨Nu hc.symm,hb.alloc hb.size _⟩
 ·have t1:(Bz (kT s)==119)=false:=by rw[beq_eq_false_iff_ne];exact B1
  have t2:(Bz (kT s)==115)=false:=by rw[beq_eq_false_iff_ne];exact D9
  have HR:Hid ((kT s==k0)=false):=by
   show _=_;rw[beq_eq_false_iff_ne];omega
  have hp:=A0 (Tq h);have hkT:kT s=(A6 s).k:=rfl;rw[hkT]at t1 t2;clear h hin B1 D9 h4 hkT hkk;go_enter Tryz.func61,Tryz.ntmps61;go_wp2_with fail
  refine(hp.out).mono ?_;rintro e w' ⟨S,rfl,hS,hb⟩;rw[U4];have HS:=A0 hS;clear hS;go_wp2;go_ret;exact⟨Nu HR.o.symm,hb.alloc hb.size _⟩
def F0(k:Nat)(s:PS):PS:=if kT s=k then Aa s else s
theorem Zg{b tb cap te:Nat}{xs:List (Tk×List UInt8)}{w:World}{s:PS}{pl:Nat}(h:Dc b tb cap te xs w s pl)(k0:Nat)(Iu:4<=k0)(Fb:k0<=40)(q:List UInt8)(hq:q=spell k0) :
  Calls Tryz.prog 109 #[.pointer (some ⟨b,0,none⟩),.string ⟨q.toArray⟩] w fun e w'=>e=.returned (.bool (kT s==k0))/\(∃pl',Dc b tb cap te xs w' (F0 k0 s) pl')/\A1 b w w':=by
 have hp:=A0 (Zb h k0 Iu Fb q hq);clear hq;have hfew:=h.toks.few;have hlt:=h.lt;cases hc:kT s==k0
 ·have HM:Hid (F0 k0 s=s):=by
   show _=_;unfold F0;rw[if_neg (by simpa using hc)]
  have HH:=A0 h;clear h;go_enter Tryz.func109,Tryz.ntmps109;go_wp2_with fail
  refine(hp.out).mono ?_;rintro e w' ⟨rfl,hb⟩;rw[hc];go_wp2;go_ret;exact⟨rfl,⟨pl,by rw[HM.o];exact HH.o.below hb⟩,Below.only hb⟩
 ·have hkk:kT s=k0:=by simpa using hc
  have HM:Hid (F0 k0 s=Aa s):=by
   show _=_;unfold F0;rw[if_pos hkk]
  have HH:=A0 h;have HK:Hid (kT s≠0):=by show _≠_;omega
  clear h hkk;go_enter Tryz.func109,Tryz.ntmps109;go_wp2_with fail
  refine(hp.out).mono ?_;rintro e w' ⟨rfl,hb⟩;rw[hc];have h':=HH.o.below hb;obtain⟨c0,c1,c2⟩:=h'.cells;have hbl:=A5 h'.rd;have hfz:=Ce h'.rd 1;have HH':=A0 h';clear h' c0 c2;go_wp2;go_ret;exact⟨rfl,⟨pl+1,by rw[HM.o];exact HH'.o.move HK.o _ rfl⟩,A1.set (p:=⟨b,1,none⟩) (Below.only hb) (.inl rfl) _⟩
theorem A75{b tb cap te:Nat}{xs:List (Tk×List UInt8)}{w:World}{s:PS}{pl:Nat}(h:Dc b tb cap te xs w s pl)(k0:Nat)(Iu:4<=k0)(Fb:k0<=40)(q:List UInt8)(hq:q=spell k0) :
  Calls Tryz.prog 107 #[.pointer (some ⟨b,0,none⟩),.string ⟨q.toArray⟩] w fun e w'=>e=.returned (.tuple #[])/\(∃pl',Dc b tb cap te xs w' (Ah k0 s) pl')/\A1 b w w':=by
 have hp:=A0 (Zg h k0 Iu Fb q hq);clear hq;cases hc:kT s==k0
 ·have HM:Hid (F0 k0 s=s/\Ah k0 s=Cm s):=by
   unfold F0 Ah;rw[if_neg (by simpa using hc),if_neg (by simpa using hc)];exact⟨rfl,rfl⟩
  clear h;go_enter Tryz.func107,Tryz.ntmps107;go_wp2_with fail
  refine(hp.out).mono ?_;rintro e w' ⟨rfl,⟨pl',hr⟩,hb⟩;rw[hc];rw[HM.o.1]at hr;have hn:=A0 (Vi hr);clear hr;go_wp2_with fail
  refine(hn.out).mono ?_;rintro e w2 ⟨rfl,hr,A9⟩;go_wp2;go_end0;exact⟨rfl,⟨pl',by rw[HM.o.2];exact hr⟩,hb.trans A9⟩
 ·have HM:Hid (F0 k0 s=Ah k0 s):=by
   unfold F0 Ah;rw[if_pos (by simpa using hc),if_pos (by simpa using hc)];exact rfl
  clear h;go_enter Tryz.func107,Tryz.ntmps107;go_wp2_with fail
  refine(hp.out).mono ?_;rintro e w' ⟨rfl,⟨pl',hr⟩,hb⟩;rw[hc];rw[HM.o]at hr;have HR:=A0 hr;clear hr;go_wp2;go_end0;exact⟨rfl,⟨pl',HR.o⟩,hb⟩
theorem A9w(k:Nat)(h:k<=40):(Bz k !=110)=(k !=1):=by
 revert h;revert k;decide +kernel
theorem Dc.N7{b tb cap te:Nat}{xs:List (Tk×List UInt8)}{w:World}{s:PS}{pl:Nat}(h:Dc b tb cap te xs w s pl):kT s<=40:=by
 unfold kT;by_cases h0:s.bad=0
 ·rw[h.hd h0];exact(h.toks.line _ (List.getElem_mem h.lt)).2.2
 ·unfold A6;rw[(h.bad h0).1];simp[Iq]
theorem A76{b tb cap te:Nat}{xs:List (Tk×List UInt8)}{w:World}{s:PS}{pl:Nat}(h:Dc b tb cap te xs w s pl) :
  Calls Tryz.prog 108 #[.pointer (some ⟨b,0,none⟩)] w fun e w'=>(∃S,e=.returned (.agg (H9 (A6 s,S)).toArray)/\((A6 s).k≠2->S=Eu (A6 s)))/\RS b tb cap te xs w' (Ah 1 s)/\A1 b w w':=by
 have hbl:=A5 h.rd;have htl:=h.Mx;have h1:Dc b tb cap te xs (w.alloc (.cells #[.int .u8 0,.string ⟨#[]⟩,.int .i64 0,.int .i64 0] 174)) s pl:=h.below ((Below.refl _ _).alloc (Nat.le_refl _) _);have hp:=A0 (Tq h1);have hkind:=A9w (kT s) h.N7;have hfew:=h.toks.few;have hlt:=h.lt;cases hc:kT s==1
 ·have t1:(Bz (A6 s).k !=110)=true:=by
   show(Bz (kT s) !=110)=true;rw[hkind,bne,hc];rfl
  have HM:Hid (Ah 1 s=Cm s):=by
   unfold Ah;rw[if_neg (by simpa using hc)];exact rfl
  have HH:=A0 h1;clear h h1 hkind;go_enter Tryz.func108,Tryz.ntmps108;go_wp2_with fail
  refine(hp.out).mono ?_;rintro e w' ⟨S,rfl,hS,hb⟩;rw[U4];have HS:=A0 hS;have hz:=Bg hb (heap_alloc_new w _);have hn:=A0 (Vi ((HH.o.below hb).alloc (.cells #[.int .u8 (Bz (A6 s).k),.string ⟨S.toArray⟩,.int .i64 (A6 s).n,.int .i64 ((A6 s).line:Nat)] 174)));have HZ:=A0 hz;clear hS hz;go_wp2_with fail
  refine(hn.out).mono ?_;rintro e w2 ⟨rfl,hr,A9⟩;have Bv:=A9.blk (alloc_old HZ.o) (by omega);have Hu:=A9.blk (heap_alloc_new w' _) (by have:=A5 HZ.o;omega);obtain⟨c0,c1,c2,c3,f0,l0⟩:=Ci Bv;obtain⟨d0,d1,d2,d3,f1,l1⟩:=Ci Hu;have hne:w.heap.size≠w'.heap.size:=by have:=A5 HZ.o;omega
  clear Bv Hu;have HR:=A0 hr;clear hr;go_wp2;refine bodyPost_ret (v:=.agg #[.int .u8 (Bz (A6 s).k),.string ⟨S.toArray⟩,.int .i64 (A6 s).n,.int .i64 ((A6 s).line:Nat)]) (by simp[results,Tryz.results108,go_sem,c0,c1,c2,c3]) rfl ⟨⟨S,rfl,HS.o⟩,?_,?_⟩
  ·rw[HM.o];exact RS.Tb ⟨pl,HR.o⟩ (by omega) (by omega) _ _ _ _
  ·have hO:A1 b w w2:=(A1.alloc (A1.trans (A1.alloc (A1.refl b w) _) (Below.only hb)) _).trans A9;exact A1.Hp hO (Nat.le_refl _) _ _ _ _
 ·have hkk:kT s=1:=by simpa using hc
  have t1:(Bz (A6 s).k !=110)=false:=by
   show(Bz (kT s) !=110)=false;rw[hkind,hkk];rfl
  have HM:Hid (Ah 1 s=Aa s):=by
   unfold Ah;rw[if_pos hkk];exact rfl
  have HK:Hid (kT s≠0):=by show _≠_;omega
  have HH:=A0 h1;clear h h1 hkind hkk;go_enter Tryz.func108,Tryz.ntmps108;go_wp2_with fail
  refine(hp.out).mono ?_;rintro e w' ⟨S,rfl,hS,hb⟩;rw[U4];have HS:=A0 hS;have hz:=Bg hb (heap_alloc_new w _);obtain⟨c0,c1,c2,c3,f0,l0⟩:=Ci hz;have h3:=HH.o.below hb;obtain⟨e0,e1,e2⟩:=h3.cells;have f1:=Ce h3.rd;have lb:=A5 h3.rd;have HR:=A0 (h3.move HK.o _ rfl);have hne:b≠w.heap.size:=by omega
  clear hS hz h3 e0 e2;go_wp2;refine bodyPost_ret (v:=.agg #[.int .u8 (Bz (A6 s).k),.string ⟨S.toArray⟩,.int .i64 (A6 s).n,.int .i64 ((A6 s).line:Nat)]) (by simp[results,Tryz.results108,go_sem,c0,c1,c2,c3,l0]) rfl ⟨⟨S,rfl,HS.o⟩,?_,?_⟩
  ·rw[HM.o];exact(RS.Tb ⟨pl+1,HR.o⟩ (by omega) (by omega) _ _ _ _).alloc _
  ·have hO:A1 b w w':=A1.trans (A1.alloc (A1.refl b w) _) (Below.only hb);exact(A1.Hp (A1.set (p:=⟨b,1,none⟩) hO (.inl rfl) _) (Nat.le_refl _) _ _ _ _).alloc _
end
section
set_option maxRecDepth 100000
open Go.RowKit
open Go.Deep (BT)
variable {b tb cap te:Nat}{xs:List (Tk×List UInt8)}{w:World}{s:PS}
theorem Fl(h:RS b tb cap te xs w s) :
  Calls Tryz.prog 60 #[.pointer (some ⟨b,0,none⟩)] w fun e w'=>∃S,e=.returned (.agg #[.int .u8 (Bz (kT s)),.string ⟨S.toArray⟩,.int .i64 (A6 s).n,.int .i64 ((A6 s).line:Nat)])/\((A6 s).k≠2->S=Eu (A6 s))/\RS b tb cap te xs w' s/\Below w.heap.size w w':=by
 obtain⟨pl,h⟩:=h;refine(Tq h).mono ?_;rintro e w' ⟨S,rfl,hS,hb⟩;exact⟨S,rfl,hS,⟨pl,h.below hb⟩,hb⟩
theorem Ov(h:RS b tb cap te xs w s)(k0:Nat)(Iu:4<=k0)(Fb:k0<=40)(q:List UInt8)(hq:q=spell k0) :
  Calls Tryz.prog 61 #[.pointer (some ⟨b,0,none⟩),.string ⟨q.toArray⟩] w fun e w'=>e=.returned (.bool (kT s==k0))/\RS b tb cap te xs w' s/\Below w.heap.size w w':=by
 obtain⟨pl,h⟩:=h;refine(Zb h k0 Iu Fb q hq).mono ?_;rintro e w' ⟨rfl,hb⟩;exact⟨rfl,⟨pl,h.below hb⟩,hb⟩
theorem L0(h:RS b tb cap te xs w s)(k0:Nat)(Iu:4<=k0)(Fb:k0<=40)(q:List UInt8)(hq:q=spell k0) :
  Calls Tryz.prog 109 #[.pointer (some ⟨b,0,none⟩),.string ⟨q.toArray⟩] w fun e w'=>e=.returned (.bool (kT s==k0))/\RS b tb cap te xs w' (F0 k0 s)/\A1 b w w':=by
 obtain⟨pl,h⟩:=h;exact Zg h k0 Iu Fb q hq
theorem Gq(h:RS b tb cap te xs w s)(k0:Nat)(Iu:4<=k0)(Fb:k0<=40)(q:List UInt8)(hq:q=spell k0) :
  Calls Tryz.prog 107 #[.pointer (some ⟨b,0,none⟩),.string ⟨q.toArray⟩] w fun e w'=>e=.returned (.tuple #[])/\RS b tb cap te xs w' (Ah k0 s)/\A1 b w w':=by
 obtain⟨pl,h⟩:=h;exact A75 h k0 Iu Fb q hq
theorem Vh(h:RS b tb cap te xs w s) :
  Calls Tryz.prog 108 #[.pointer (some ⟨b,0,none⟩)] w fun e w'=>(∃S,e=.returned (.agg #[.int .u8 (Bz (kT s)),.string ⟨S.toArray⟩,.int .i64 (A6 s).n,.int .i64 ((A6 s).line:Nat)])/\((A6 s).k≠2->S=Eu (A6 s)))/\RS b tb cap te xs w' (Ah 1 s)/\A1 b w w':=by
 obtain⟨pl,h⟩:=h;exact A76 h
theorem Qu(h:RS b tb cap te xs w s) :
  Calls Tryz.prog 167 #[.pointer (some ⟨b,0,none⟩)] w fun e w'=>e=.returned (.tuple #[])/\RS b tb cap te xs w' (Cm s)/\A1 b w w':=by
 obtain⟨pl,h⟩:=h;refine(Vi h).mono ?_;rintro e w' ⟨rfl,h1,h2⟩;exact⟨rfl,⟨pl,h1⟩,h2⟩
def Ax(I S:List UInt8)(ln nn:Int)(va:Option Addr)(vn vc:Nat)(pa:Option Addr)(pn pc:Nat):Array Value:=#[.string ⟨I.toArray⟩,.int .i64 ln,.string ⟨S.toArray⟩,.int .i64 nn,.slice va vn vc,.slice pa pn pc]
def Dn(b tb cap te:Nat)(xs:List (Tk×List UInt8))(w:World)(r:BT A2×PS)(e:Ending)(w':World):Prop:=
 ∃(I S:List UInt8) (ln nn:Int) (va:Option Addr) (vn vc:Nat) (pa:Option Addr) (pn pc:Nat),e=.returned (.agg #[.string ⟨I.toArray⟩,.int .i64 ln,.string ⟨S.toArray⟩,.int .i64 nn,.slice va vn vc,.slice pa pn pc])/\
  RS b tb cap te xs w' r.2/\A1 b w w'/\(r.2.bad=0->A8 r.1=1/\Ak (fun g=>w.heap.size<=g) w' r.1 (Ax I S ln nn va vn vc pa pn pc).toList)
def Rh(b tb cap te:Nat)(xs:List (Tk×List UInt8))(w:World)(r:BT A2×PS)(e:Ending)(w':World):Prop:=
 ∃(va:Option Addr) (vn vc:Nat) (n:Nat) (cs:List Value),e=.returned (.slice va vn vc)/\C1 (fun g=>w.heap.size<=g) w' 77 6 (.slice va vn vc) n cs/\n<=600000/\
  RS b tb cap te xs w' r.2/\A1 b w w'/\(r.2.bad=0->n=A8 r.1/\Ak (fun g=>w.heap.size<=g) w' r.1 cs)
structure G5 (b tb cap te : Nat) (xs : List (Tk × List UInt8)) (n : Nat) : Prop where
 expr:∀(w:World) (s:PS) (a:Nat) (q:Int) (r:BT A2×PS),a<=6->q=a->RS b tb cap te xs w s->A7 n 0 a .nil s=some r->Calls Tryz.prog 112 #[.pointer (some ⟨b,0,none⟩),.int .i64 q] w (Dn b tb cap te xs w r)
 unary:∀(w:World) (s:PS) (r:BT A2×PS),RS b tb cap te xs w s->A7 n 2 0 .nil s=some r->Calls Tryz.prog 169 #[.pointer (some ⟨b,0,none⟩)] w (Dn b tb cap te xs w r)
 atom:∀(w:World) (s:PS) (r:BT A2×PS),RS b tb cap te xs w s->A7 n 4 0 .nil s=some r->Calls Tryz.prog 223 #[.pointer (some ⟨b,0,none⟩)] w (Dn b tb cap te xs w r)
 list:∀(w:World) (s:PS) (k:Nat) (q:List UInt8) (r:BT A2×PS),(k=19\/k=23)->q=spell k->RS b tb cap te xs w s->A7 n 5 k .nil s=some r->Calls Tryz.prog 255 #[.pointer (some ⟨b,0,none⟩),.string ⟨q.toArray⟩] w (Rh b tb cap te xs w r)
 block:∀(w:World) (s:PS) (r:BT A2×PS),RS b tb cap te xs w s->A7 n 7 0 .nil s=some r->Calls Tryz.prog 110 #[.pointer (some ⟨b,0,none⟩)] w (Rh b tb cap te xs w r)
 stmt:∀(w:World) (s:PS) (r:BT A2×PS),RS b tb cap te xs w s->A7 n 9 0 .nil s=some r->Calls Tryz.prog 63 #[.pointer (some ⟨b,0,none⟩)] w (Dn b tb cap te xs w r)
def Tt:Array Value:=#[.string ⟨#[32,124,124,32]⟩,.string ⟨#[32,38,38,32]⟩,.string ⟨#[32,61,61,32,33,61,32]⟩,.string ⟨#[32,60,32,60,61,32,62,32,62,61,32]⟩,.string ⟨#[32,43,32,45,32]⟩,.string ⟨#[32,42,32,47,32,37,32]⟩]
theorem n9(w:World):Calls Tryz.prog 168 #[] w fun e w'=>e=.returned (.slice (some ⟨w.heap.size,0,none⟩) 6 6)/\w'=w.alloc (.cells Tt 9):=by
 go_enter Tryz.func168,Tryz.ntmps168;go_wp2;go_ret;exact⟨rfl,rfl⟩
end
end Go.Proofs.YtjdlndhfaaolaaaGreatDoor
