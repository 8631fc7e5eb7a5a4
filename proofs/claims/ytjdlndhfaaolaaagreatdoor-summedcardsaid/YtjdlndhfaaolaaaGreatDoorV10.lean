import Derived.BigQuiet
import Derived.Deep.RegionLaw
import Derived.StillTailTactics
import Derived.Test.YtjdlndhfaaolaaaGreatDoorV08
set_option maxHeartbeats 20000000
namespace Go.Proofs.YtjdlndhfaaolaaaGreatDoor
section
open Go.RowKit
variable {P:Program}{ops:Array Oper}{o:Oper}{a:Act}{K:Act->World->Prop}{Q:Exit->Act->World->Prop}{E:Prop}
theorem Ars(W:World)(cs:Array Value)(e:TypeId)(hgd:o.guard=none)(s x:Operand)(t:TypeId)
  (ho:o.op=.call { callee:=.builtin .append,args:=#[s,x],argTypes:=#[t,t] })
  (base size bytes:Nat) (z:Value) (ht:P.underlying t=some (.slice e)) (hinfo:(P.info? e).map (fun i=>(i.zero,i.size,i.bytes))=some (some z,size,bytes))
  (hzs:z.cells.size=size) (hsz:0<size)
  (v:Value) (n:Nat) (xs:List Value) (hs:a.eval s=v) (hx:a.eval x=.slice (some ⟨W.heap.size,0,none⟩) 1 1)
  (hown:W.ownsRow base e size v n xs) (hl:cs.size=size) (h1:∀u∈cs.toList,u.oneCell'=true)
  (hn:n<=1000000) (hby:bytes<=1000) (hbase:base<=W.heap.size)
  (h:∀g cap w',w'.ownsRow base e size (.slice (some ⟨g,0,none⟩) (n+1) cap) (n+1) (xs++cs.toList)->W.grownBy w' v.ownBlock->(v.ownBlock=some g\/g=W.heap.size+1)->g<w'.heap.size->
   K (a.put o.dst (.slice (some ⟨g,0,none⟩) (n+1) cap)) w') :
  if Region.wanted o (yielded ops a.tmps)=true then Oper.wp P o a (W.alloc (.cells cs e)) K Q else E:=by
 obtain⟨i,hi,Hw,By,C5⟩:=info_parts hinfo;have hb:=Nat.mul_le_mul (show n+1<=1000001 by omega) hby;refine step_append_lies (P:=P) (W.alloc (.cells cs e)) hgd s x t ho base e i z size bytes ht hi Hw By C5 hzs hsz v n xs hs (hown.alloc _) ⟨W.heap.size,0,none⟩ 1 1 cs.toList hx (by simp[hl])
  (World.news_of_block (heap_alloc_new W _)) h1 z4va (by simp only[maxLen];omega) z4va z4ya (W.heap.size+1) z50a ?_
 exact z43a
theorem Nc(W:World)(B:Nat)(cs:Array Value)(e:TypeId)(hB:W.heap[B]?=some (.cells cs e (0,0)))(hgd:o.guard=none)(s x:Operand)(t:TypeId)
  (ho:o.op=.call { callee:=.builtin .append,args:=#[s,x],argTypes:=#[t,t] })
  (base size bytes:Nat) (z:Value) (ht:P.underlying t=some (.slice e)) (hinfo:(P.info? e).map (fun i=>(i.zero,i.size,i.bytes))=some (some z,size,bytes))
  (hzs:z.cells.size=size) (hsz:0<size)
  (v:Value) (n:Nat) (xs:List Value) (hs:a.eval s=v) (hx:a.eval x=.slice (some ⟨B,0,none⟩) 1 1)
  (hown:W.ownsRow base e size v n xs) (hl:cs.size=size) (h1:∀u∈cs.toList,u.oneCell'=true)
  (hn:n<=1000000) (hby:bytes<=1000) (hbase:base<=W.heap.size)
  (h:∀g cap w',w'.ownsRow base e size (.slice (some ⟨g,0,none⟩) (n+1) cap) (n+1) (xs++cs.toList)->W.grownBy w' v.ownBlock->(v.ownBlock=some g\/g=W.heap.size)->g<w'.heap.size->
   K (a.put o.dst (.slice (some ⟨g,0,none⟩) (n+1) cap)) w') :
  if Region.wanted o (yielded ops a.tmps)=true then Oper.wp P o a W K Q else E:=by
 obtain⟨i,hi,Hw,By,C5⟩:=info_parts hinfo;have hb:=Nat.mul_le_mul (show n+1<=1000001 by omega) hby;exact step_append_lies (P:=P) W hgd s x t ho base e i z size bytes ht hi Hw By C5 hzs hsz v n xs hs hown ⟨B,0,none⟩ 1 1 cs.toList hx (by simp[hl])
  (World.news_of_block hB) h1 z4va (by simp only[maxLen];omega) z4va hbase W.heap.size rfl h
end
section
open Go.RowKit
theorem z2aa {P:Prop} (h:P:=by
  have hw:Region.wanted o (yielded ops a.tmps)=true:=by simp[Region.wanted,hg]
  rw[if_pos hw];unfold Oper.wp;rw[hrun,Oper.upon_enter];refine hC.mono ?_;intro e w' hR;obtain⟨u,rfl,hK⟩:=h e w' hR;exact hK):P:=h
theorem Eo{P:Program}{ops:Array Oper}{o:Oper}{a:Act}{w:World}{K:Act->World->Prop}{Q:Exit->Act->World->Prop}{E:Prop}(hg:o.guard=none)(f:FuncId)(xs:Array Operand)(ts:Array TypeId)(_:o.op=.call { callee:=.value (.func f),args:=xs,argTypes:=ts })(args:Array Value)
  (hrun:(execOp a.eval o).run P w=.ok (.enter f args) w) {R:Ending->World->Prop} (hC:Calls P f args w R)
  (h:∀e w',R e w'->∃u,e=.returned u/\K (a.put o.dst u) w'):if Region.wanted o (yielded ops a.tmps)=true then Oper.wp P o a w K Q else E:=by
 exact z2aa
structure Tn (P : Program) (ops : Array Oper) (w : World) (Q : Act -> Prop) (l : List Oper) (a : Act) : Prop where
 out:wpStill P ops w Q l a
theorem Ih{P:Program}{id:Nat}{Q:Exit->Act->World->Prop}{a:Act}{w:World}{l:List Oper}(n:Nat)(hm:P.follows .mixedOrders=true)(hB:Region.lexTailB .any l.toArray n=true)
  (h:Tn P l.toArray { w with drawn:=w.drawn+1 } (fun a'=>wpList P l.toArray Q (l.drop n) a' { w with drawn:=w.drawn+1 }) (l.take n) a):(Code.region id l.toArray true).wp P Q a w:=wp_region_still_tail n hm hB h.out
theorem Ig{P:Program}{ops:Array Oper}{w:World}{Q:Act->Prop}{a:Act}(h:Q a):Tn P ops w Q [] a:=⟨wpStill_nil h⟩
theorem Ez{P:Program}{ops:Array Oper}{w:World}{Q:Act->Prop}{a:Act}{o:Oper}{rest:List Oper}
  (h:∀K:Act->Prop,(∀a,Tn P ops w Q rest a->K a)->if Region.wanted o (yielded ops a.tmps) then o.still P a w K else K (a.put o.dst undef)):Tn P ops w Q (o::rest) a:=
 ⟨wpStill_step (fun K hK=>h K (fun a hb=>hK a hb.out))⟩
def Hz(k:Nat)(s:PS):PS:=if kT s=k then As s else s
end
section
open Go.RowKit
open Go.Deep (BT)
theorem A9.drewN{b:Nat}{x w:World}(h:A9 b x w)(n:Nat):A9 b x (w.drewN n):=⟨h.os,h.tape,h.output,h.size,h.block⟩
theorem P6(D:Nat->Prop)(w:World)(e:TypeId)(size:Nat):Cw D w e size (.slice none 0 0) 0 []:=⟨World.ownsRow_nil _ _ _ _,fun g hg=>by simp[Value.ownBlock]at hg⟩
def N1(t:Tk):List Value:=[.int .i64 (t.k:Nat),.int .i64 (t.line:Nat),.string ⟨t.s.toArray⟩,.int .i64 t.n]
def L8(ts:List Tk):List Value:=ts.flatMap N1
theorem j7(xs:List Tk):∀(i j:Nat) (h:i<xs.length),j<4->(L8 xs)[i*4+j]?=(N1 xs[i])[j]?:=by
 induction xs with
 | nil=>intro i j h;simp at h
 | cons x r ih=>
  intro i j h hj;have e:L8 (x::r)=N1 x++L8 r:=by simp[L8]
  rw[e];have hl:(N1 x).length=4:=rfl;cases i with
  | zero=>rw[List.getElem?_append_left z4va];simp
  | succ i=>
   rw[List.getElem?_append_right z4va,hl,show(i+1)*4+j-4=i*4+j by omega];exact ih i j z60a hj
structure Vf (ts : List Tk) : Prop where
 Br:ts.length<=100000
 last:∀i (h:i<ts.length),ts[i].k=0↔i+1=ts.length
 line:∀x∈ts,1<=x.line/\x.line<=100000/\x.k<=40
def Oh(n:Nat):Nat:=if n=0 then 0 else 2
structure Gh (b tb cap te : Nat) (ts : List Tk) (w : World) (s : PS) (pl : Nat) : Prop where
 toks:Vf ts
 rd:w.heap[b]?=some (.cells #[.slice (some ⟨tb,0,none⟩) ts.length cap,.int .i64 (pl:Nat),.int .i64 (Oh s.bad:Nat),.int .i64 (s.bad:Nat)] te (0,0))
 tok:∃cur,w.heap[tb]?=some (.cells cur 198 (0,0))/\cur.toList.take (ts.length*4)=L8 ts
 ne:tb≠b
 lt:pl<ts.length
 cap:ts.length<=cap
 good:s.bad=0->s.ts=ts.drop pl
 bad:s.bad≠0->s.ts=[Ij]/\s.bad<=100000/\pl+1=ts.length
variable {b tb cap te:Nat} {ts:List Tk} {w w':World} {s:PS} {pl:Nat}
theorem z2ra {P:Prop} (h:P:=by
  obtain⟨cur,h1,h2⟩:=h.tok;rw[cell_of_row w tb (i*4+j) cur _ _ h1,←j7 ts i j hi hj,←h2,List.getElem?_take,if_pos z4va,Array.getElem?_toList]):P:=h
theorem Gh.Rf(h:Gh b tb cap te ts w s pl)(i j:Nat)(hi:i<ts.length)(hj:j<4):w.cell? ⟨tb,i*4+j,none⟩=(N1 ts[i])[j]?:=by
 exact z2ra
theorem Gh.of_heap(h:Gh b tb cap te ts w s pl)(h1:w'.heap[b]?=w.heap[b]?)(h2:w'.heap[tb]?=w.heap[tb]?):Gh b tb cap te ts w' s pl:=by
 obtain⟨cur,k1,k2⟩:=h.tok;exact⟨h.toks,h1.trans h.rd,⟨cur,h2.trans k1,k2⟩,h.ne,h.lt,h.cap,h.good,h.bad⟩
theorem Gh.T9(h:Gh b tb cap te ts w s pl):tb<w.heap.size:=by
 obtain⟨cur,k1,_⟩:=h.tok;exact A5 k1
theorem Gh.below(h:Gh b tb cap te ts w s pl)(hb:Below w.heap.size w w'):Gh b tb cap te ts w' s pl:=
 h.of_heap (hb.block b (A5 h.rd)) (hb.block tb h.T9)
theorem Gh.hd(h:Gh b tb cap te ts w s pl)(h0:s.bad=0):B6 s=(ts[pl]'h.lt):=by
 unfold B6;rw[h.good h0,List.drop_eq_getElem_cons h.lt];rfl
theorem Gh.kd(h:Gh b tb cap te ts w s pl):kT s=(ts[pl]'h.lt).k:=by
 by_cases h0:s.bad=0
 ·unfold kT;rw[h.hd h0]
 ·have h1:=h.bad h0;rw[((h.toks.last pl h.lt).2 h1.2.2)];unfold kT B6;rw[h1.1];rfl
theorem Gh.Sh(h:Gh b tb cap te ts w s pl):kT s<=40:=by
 rw[h.kd];exact(h.toks.line _ (List.getElem_mem h.lt)).2.2
theorem Gh.Gx(h:Gh b tb cap te ts w s pl)(hk:kT s≠0):s.bad=0/\pl+1<ts.length:=by
 by_cases h0:s.bad=0
 ·refine⟨h0,?_⟩;have:=h.toks.last pl h.lt;unfold kT at hk;rw[h.hd h0]at hk;have hlt:=h.lt;have hne:pl+1≠ts.length:=fun e=>hk (this.2 e);omega
 ·exfalso;apply hk;unfold kT B6;rw[(h.bad h0).1];rfl
theorem Gh.move(h:Gh b tb cap te ts w s pl)(hk:kT s≠0)(q:Int)(hq:q=(pl:Int)+1) :
  Gh b tb cap te ts (w.setCell ⟨b,1,none⟩ (.int .i64 q)) (As s) (pl+1):=by
 obtain⟨cur,k1,k2⟩:=h.tok;obtain⟨h0,hlt⟩:=h.Gx hk;subst hq;have ht:As s=⟨s.ts.tail,s.bad⟩:=by unfold As;rw[if_neg hk]
 rw[ht];refine⟨h.toks,?_,⟨cur,(Below.heap_setCell _ _ _ _ h.ne).trans k1,k2⟩,h.ne,hlt,h.cap,(fun _=>?_),(fun e=>absurd h0 e)⟩
 ·rw[heap_set h.rd];simp
 ·show s.ts.tail=_;rw[h.good h0,List.drop_eq_getElem_cons h.lt];rfl
theorem Gh.failed(h:Gh b tb cap te ts w s pl)(h0:s.bad=0)(q:Int)(hq:q=(ts.length:Int)-1)(ln:Nat)(hl:ln=(B6 s).line) :
  Gh b tb cap te ts (((w.setCell ⟨b,2,none⟩ (.int .i64 2)).setCell ⟨b,3,none⟩ (.int .i64 (ln:Nat))).setCell ⟨b,1,none⟩ (.int .i64 q)) (Eg s) (ts.length-1):=by
 obtain⟨cur,k1,k2⟩:=h.tok;subst hl hq;have hlt:=h.lt;have hline:=h.toks.line _ (List.getElem_mem h.lt);rw[←h.hd h0]at hline;have hf:Eg s=⟨[Ij],(B6 s).line⟩:=by unfold Eg;rw[if_pos h0]
 rw[hf];refine⟨h.toks,?_,⟨cur,?_,k2⟩,h.ne,by omega,h.cap,(fun e=>by simp only at e;omega),(fun _=>⟨rfl,hline.2.1,by omega⟩)⟩
 ·have:=heap_set (j:=1) (heap_set (j:=3) (heap_set (j:=2) h.rd (.int .i64 2)) (.int .i64 ((B6 s).line:Nat))) (.int .i64 ((ts.length:Int)-1));rw[this];have e:((ts.length-1:Nat):Int)=(ts.length:Int)-1:=by omega
  simp only[e,Oh,if_neg (show(B6 s).line≠0 by omega)];simp
 ·rw[Below.heap_setCell _ _ _ _ (by exact h.ne),Below.heap_setCell _ _ _ _ (by exact h.ne),Below.heap_setCell _ _ _ _ (by exact h.ne)];exact k1
theorem Gh.stay(h:Gh b tb cap te ts w s pl)(h0:s.bad≠0)(q:Int)(hq:q=(ts.length:Int)-1) :
  Gh b tb cap te ts (w.setCell ⟨b,1,none⟩ (.int .i64 q)) s pl:=by
 obtain⟨cur,k1,k2⟩:=h.tok;obtain⟨e1,e2,e3⟩:=h.bad h0;subst hq;refine⟨h.toks,?_,⟨cur,(Below.heap_setCell _ _ _ _ h.ne).trans k1,k2⟩,h.ne,h.lt,h.cap,h.good,h.bad⟩;rw[heap_set h.rd,show(ts.length:Int)-1=(pl:Int) by omega];simp
def PR(b tb cap te:Nat)(ts:List Tk)(w:World)(s:PS):Prop:=∃pl,Gh b tb cap te ts w s pl
theorem PR.below(h:PR b tb cap te ts w s)(hb:Below w.heap.size w w'):PR b tb cap te ts w' s:=by
 obtain⟨pl,h⟩:=h;exact⟨pl,h.below hb⟩
theorem PR.keep(h:PR b tb cap te ts w s)(h1:w'.heap[b]?=w.heap[b]?)(h2:w'.heap[tb]?=w.heap[tb]?):PR b tb cap te ts w' s:=by
 obtain⟨pl,h⟩:=h;exact⟨pl,h.of_heap h1 h2⟩
theorem PR.alloc(h:PR b tb cap te ts w s)(o:Obj):PR b tb cap te ts (w.alloc o) s:=h.below ((Below.refl _ _).alloc (Nat.le_refl _) _)
theorem PR.drew(h:PR b tb cap te ts w s):PR b tb cap te ts w.drew s:=h.keep rfl rfl
theorem PR.lt(h:PR b tb cap te ts w s):b<w.heap.size/\tb<w.heap.size/\tb≠b:=by
 obtain⟨pl,h⟩:=h;exact⟨A5 h.rd,h.T9,h.ne⟩
theorem PR.Sh(h:PR b tb cap te ts w s):kT s<=40:=by
 obtain⟨pl,h⟩:=h;exact h.Sh
theorem PR.other(h:PR b tb cap te ts w s){p:Addr}(h1:b≠p.block)(h2:tb≠p.block)(u:Value):PR b tb cap te ts (w.setCell p u) s:=
 h.keep (Below.heap_setCell _ _ _ _ h1) (Below.heap_setCell _ _ _ _ h2)
theorem PR.Ml(h:PR b tb cap te ts w s)(h0:s.bad≠0):s.ts=[Ij]:=by
 obtain⟨pl,h⟩:=h;exact(h.bad h0).1
theorem PR.A8r(h:PR b tb cap te ts w s):s.bad<=100000:=by
 obtain⟨pl,h⟩:=h;by_cases h0:s.bad=0
 ·omega
 ·exact(h.bad h0).2.1
theorem PR.Gx(h:PR b tb cap te ts w s)(hk:kT s≠0):s.bad=0:=by
 obtain⟨pl,h⟩:=h;exact(h.Gx hk).1
theorem PR.lines(h:PR b tb cap te ts w s)(h0:s.bad=0):1<=(B6 s).line/\(B6 s).line<=100000:=by
 obtain⟨pl,h⟩:=h;rw[h.hd h0];have:=h.toks.line _ (List.getElem_mem h.lt);exact⟨this.1,this.2.1⟩
end
section
set_option maxRecDepth 100000
open Go.RowKit
variable {b tb cap te:Nat}{ts:List Tk}{w:World}{s:PS}
theorem Ds(h:PR b tb cap te ts w s) :
  Calls Tryz.prog 130 #[.pointer (some ⟨b,0,none⟩)] w fun e w'=>e=.returned (.int .i64 (kT s:Nat))/\PR b tb cap te ts w' s/\Below w.heap.size w w':=by
 obtain⟨pl,h⟩:=h;have c0:=A2 h.rd 0 _ rfl;have c1:=A2 h.rd 1 _ rfl;have lb:=A5 h.rd;have lt:=h.T9;have hlt:=h.lt;have d0:=h.Rf pl 0 hlt z4va;rw[N1]at d0;simp only[List.getElem?_cons_zero,Nat.add_zero]at d0;rw[←h.kd]at d0;have hfew:=h.toks.Br;have hcap:=h.cap;have HH:=A0 h;clear h;go_enter Tryz.func130,Tryz.ntmps130;go_wp2;go_quiet (fail)
 go_wp2;go_ret;exact⟨rfl,⟨pl,HH.o.of_heap rfl rfl⟩,⟨rfl,rfl,rfl,Nat.le_refl _,fun _ _=>rfl⟩⟩
def Vl(s:PS)(ln nn:Int)(S:List UInt8):Prop:=s.bad=0->ln=(B6 s).line/\S=(B6 s).s/\nn=(B6 s).n
theorem Hg(h:PR b tb cap te ts w s) :
  Calls Tryz.prog 188 #[.pointer (some ⟨b,0,none⟩)] w fun e w'=>∃ln nn S,e=.returned (.agg #[.int .i64 (kT s:Nat),.int .i64 ln,.string ⟨S.toArray⟩,.int .i64 nn])/\Vl s ln nn S/\PR b tb cap te ts w' (As s)/\A9 b w w':=by
 obtain⟨pl,h⟩:=h;have c0:=A2 h.rd 0 _ rfl;have c1:=A2 h.rd 1 _ rfl;have fz:=Bd h.rd;have lb:=A5 h.rd;have lt:=h.T9;have hlt:=h.lt;have d0:=h.Rf pl 0 hlt z4va;have d1:=h.Rf pl 1 hlt z4va;have d2:=h.Rf pl 2 hlt z4va;have d3:=h.Rf pl 3 hlt z4va;rw[N1]at d0 d1 d2 d3;simp only[List.getElem?_cons_zero,List.getElem?_cons_succ,Nat.add_zero]at d0 d1 d2 d3;rw[←h.kd]at d0;have hfew:=h.toks.Br;have hcap:=h.cap;have HTk:Hid (Vl s (ts[pl].line:Nat) ts[pl].n ts[pl].s):=fun h0=>by rw[h.hd h0];exact⟨rfl,rfl,rfl⟩
 have HH:=A0 h;have hne:=h.ne;clear h;generalize ts[pl].line=ln at *;generalize ts[pl].s=S at *;generalize ts[pl].n=nn at *;by_cases hk:kT s=0
 ·have t:((kT s:Int) !=0)=false:=by rw[hk];rfl
  have HE:Hid (As s=s):=by show _=_;unfold As;rw[if_pos hk]
  clear hk;go_enter Tryz.func188,Tryz.ntmps188;go_wp2;go_region
  all_goals go_wp2
  all_goals refine bodyPost_ret (v:=.agg #[.int .i64 (kT s:Nat),.int .i64 (ln:Nat),.string ⟨S.toArray⟩,.int .i64 nn]) (by simp[results,Tryz.results188,go_sem]) rfl ⟨_,_,_,rfl,HTk.o,?_,?_⟩
  all_goals first
   | exact((((PR.alloc (PR.alloc ⟨pl,HE.o.symm ▸ HH.o⟩ _) _)).drew))
   | exact(((A9.refl b w).alloc _).alloc _).drew
 ·have t:((kT s:Int) !=0)=true:=by simpa using hk
  have HK:=A0 hk;clear hk;go_enter Tryz.func188,Tryz.ntmps188;go_wp2;go_region
  all_goals go_wp2
  all_goals refine bodyPost_ret (v:=.agg #[.int .i64 (kT s:Nat),.int .i64 (ln:Nat),.string ⟨S.toArray⟩,.int .i64 nn]) (by simp[results,Tryz.results188,go_sem]) rfl ⟨_,_,_,rfl,HTk.o,?_,?_⟩
  all_goals first
   | exact((((PR.alloc (PR.alloc ⟨pl+1,HH.o.move HK.o _ rfl⟩ _) _)).drew))
   | exact(((A9.set (p:=⟨b,1,none⟩) (A9.refl b w) (.inl rfl) _).alloc _).alloc _).drew
theorem A0n(h:PR b tb cap te ts w s) :
  Calls Tryz.prog 230 #[.pointer (some ⟨b,0,none⟩)] w fun e w'=>e=.returned (.tuple #[])/\PR b tb cap te ts w' (Eg s)/\A9 b w w':=by
 obtain⟨pl,h⟩:=h;have c0:=A2 h.rd 0 _ rfl;have c1:=A2 h.rd 1 _ rfl;have c2:=A2 h.rd 2 _ rfl;have c3:=A2 h.rd 3 _ rfl;have fz:=Bd h.rd;have lb:=A5 h.rd;have lt:=h.T9;have hlt:=h.lt;have d1:=h.Rf pl 1 hlt z4va;rw[N1]at d1;simp only[List.getElem?_cons_zero,List.getElem?_cons_succ]at d1;have hfew:=h.toks.Br;have hcap:=h.cap;have HH:=A0 h;have hne:=h.ne;by_cases h0:s.bad=0
 ·have HD:Hid (ts[pl].line=(B6 s).line):=by show _=_;rw[h.hd h0]
  have HB:=A0 (fun(w1:World) (e:w1.heap=w.heap)=>(h.of_heap (w':=w1) (by rw[e]) (by rw[e])).failed h0 _ rfl _ HD.o);replace c2:w.cell? ⟨b,2,none⟩=some (.int .i64 0):=by rw[c2,h0];rfl
  clear h h0;generalize ts[pl].line=ln at *;go_enter Tryz.func230,Tryz.ntmps230;go_wp2;go_region
  all_goals go_wp2
  all_goals go_end0
  all_goals exact⟨rfl,PR.drew ⟨_,HB.o w rfl⟩,(A9.set (p:=⟨b,1,none⟩) (A9.set (p:=⟨b,3,none⟩) (A9.set (p:=⟨b,2,none⟩) (A9.refl b w) (.inl rfl) _) (.inl rfl) _) (.inl rfl) _).drew⟩
 ·have h2:Oh s.bad=2:=by unfold Oh;rw[if_neg h0]
  replace c2:w.cell? ⟨b,2,none⟩=some (.int .i64 2):=by rw[c2];show some (Value.int .i64 ((Oh s.bad:Nat):Int))=_;rw[h2];rfl
  have HF:Hid (Eg s=s):=by show _=_;unfold Eg;rw[if_neg h0]
  have HB:=A0 (h.stay h0 _ rfl);clear h h0 h2;go_enter Tryz.func230,Tryz.ntmps230;go_wp2;go_end0;exact⟨rfl,⟨pl,by rw[HF.o];exact HB.o⟩,A9.set (p:=⟨b,1,none⟩) (A9.refl b w) (.inl rfl) _⟩
theorem Aob{s:PS}(h:kT s=0):As s=s:=by unfold As;rw[if_pos h]
theorem Ad2(s:PS)(h:s.bad≠0->s.ts=[Ij]):kT (Eg s)=0:=by
 unfold Eg;split
 ·rfl
 ·rename_i h0;unfold kT B6;rw[h h0];rfl
theorem J0(h:PR b tb cap te ts w s)(k:Nat) :
  Calls Tryz.prog 182 #[.pointer (some ⟨b,0,none⟩),.int .i64 (k:Nat)] w fun e w'=>∃kk ln nn S,e=.returned (.agg #[.int .i64 kk,.int .i64 ln,.string ⟨S.toArray⟩,.int .i64 nn])/\((Be k s).bad=0->Vl s ln nn S/\kT s=k)/\PR b tb cap te ts w' (Be k s)/\A9 b w w':=by
 have HH:=A0 h;have hk40:=h.Sh;have HSt:Hid (s.bad≠0->s.ts=[Ij]):=h.Ml;have HFb:Hid (s.bad=0->1<=(B6 s).line):=fun e=>(h.lines e).1;clear h;by_cases hc:kT s=k
 ·have t:((kT s:Int) !=(k:Int))=false:=by rw[hc];simp
  have HW:Hid (Be k s=As s):=by show _=_;unfold Be;rw[if_pos hc]
  have HC:=A0 hc;clear hc;go_enter Tryz.func182,Tryz.ntmps182;go_wp2_with fail
  refine(Ds (HH.o.alloc _)).mono ?_;rintro e w1 ⟨rfl,h1,A1⟩;have H1:=A0 h1;have hR:=Fq A1 (heap_alloc_new w (.cells #[.int .i64 0,.int .i64 0,.string ⟨#[]⟩,.int .i64 0] 198));have HR:=A0 hR;have Dt:=A5 hR;have B3:Hid (A9 b w w1):=((A9.refl b w).alloc _).trans (Below.only A1);have lb:=HH.o.lt;clear h1 A1 hR;go_wp2_with fail
  refine(Hg H1.o).mono ?_;rintro e w2 ⟨ln,nn,S,rfl,htk,h2,Bb⟩;have Ei:=Bb.blk HR.o z4va;obtain⟨x0,x1,x2,x3,fx,lx⟩:=E5 Ei;have Bh:Hid (A9 b w w2):=B3.o.trans Bb;have H2:=A0 h2;have HTk:=A0 htk;clear h2 htk Ei Bb;go_wp2;refine bodyPost_ret (v:=.agg #[.int .i64 (kT s:Nat),.int .i64 ln,.string ⟨S.toArray⟩,.int .i64 nn]) (by simp[results,Tryz.results182,go_sem,x0,x1,x2,x3]) rfl ?_;rw[HW.o];refine⟨_,_,_,_,rfl,fun _=>⟨HTk.o,HC.o⟩,?_,A9.I9 Bh.o (Nat.le_refl _) _ _ _ _⟩;exact PR.keep H2.o (Hf z4va _ _ _ _) (Hf z4va _ _ _ _)
 ·have t:((kT s:Int) !=(k:Int))=true:=by simp;omega
  have HW:Hid (Be k s=Eg s):=by show _=_;unfold Be;rw[if_neg hc]
  have HZ:Hid (As (Eg s)=Eg s):=Aob (Ad2 s HSt.o);have HN:Hid ((Eg s).bad≠0):=by
   show _≠_;unfold Eg;split
   ·have:=HFb.o (by assumption);simp only;omega
   ·assumption
  clear hc;go_enter Tryz.func182,Tryz.ntmps182;go_wp2_with fail
  refine(Ds (HH.o.alloc _)).mono ?_;rintro e w1 ⟨rfl,h1,A1⟩;have H1:=A0 h1;have hR:=Fq A1 (heap_alloc_new w (.cells #[.int .i64 0,.int .i64 0,.string ⟨#[]⟩,.int .i64 0] 198));have HR:=A0 hR;have Dt:=A5 hR;have B3:Hid (A9 b w w1):=((A9.refl b w).alloc _).trans (Below.only A1);have lb:=HH.o.lt;clear h1 A1 hR;go_wp2_with fail
  refine(A0n H1.o).mono ?_;rintro e w3 ⟨rfl,h3,Cs⟩;have C3:=A0 (Cs.blk HR.o z4va);have Ck:Hid (A9 b w w3):=B3.o.trans Cs;have H3:=A0 h3;clear h3 Cs;go_wp2_with fail
  refine(Hg H3.o).mono ?_;rintro e w2 ⟨ln,nn,S,rfl,htk,h2,Bb⟩;rw[HZ.o]at h2;have Ei:=Bb.blk C3.o z4va;obtain⟨x0,x1,x2,x3,fx,lx⟩:=E5 Ei;have Bh:Hid (A9 b w w2):=Ck.o.trans Bb;have H2:=A0 h2;clear h2 htk Ei Bb;go_wp2;refine bodyPost_ret (v:=.agg #[.int .i64 (kT (Eg s):Nat),.int .i64 ln,.string ⟨S.toArray⟩,.int .i64 nn]) (by simp[results,Tryz.results182,go_sem,x0,x1,x2,x3]) rfl ?_;rw[HW.o];refine⟨_,_,_,_,rfl,fun e=>absurd e HN.o,?_,A9.I9 Bh.o (Nat.le_refl _) _ _ _ _⟩;exact PR.keep H2.o (Hf z4va _ _ _ _) (Hf z4va _ _ _ _)
theorem Mw(h:PR b tb cap te ts w s)(k:Nat) :
  Calls Tryz.prog 231 #[.pointer (some ⟨b,0,none⟩),.int .i64 (k:Nat)] w fun e w'=>e=.returned (.bool (kT s==k))/\PR b tb cap te ts w' (Hz k s)/\A9 b w w':=by
 have HH:=A0 h;have hk40:=h.Sh;clear h;by_cases hc:kT s=k
 ·have t:((kT s:Int) !=(k:Int))=false:=by rw[hc];simp
  have HW:Hid (Hz k s=As s):=by show _=_;unfold Hz;rw[if_pos hc]
  have HC:Hid ((kT s==k)=true):=by show _=_;simpa using hc
  clear hc;go_enter Tryz.func231,Tryz.ntmps231;go_wp2_with fail
  refine(Ds HH.o).mono ?_;rintro e w1 ⟨rfl,h1,A1⟩;have H1:=A0 h1;have B3:Hid (A9 b w w1):=Below.only A1;clear h1 A1;go_wp2_with fail
  refine(Hg H1.o).mono ?_;rintro e w2 ⟨ln,nn,S,rfl,htk,h2,Bb⟩;have Bh:Hid (A9 b w w2):=B3.o.trans Bb;have H2:=A0 h2;clear h2 htk Bb;go_wp2;go_ret;exact⟨Sy HC.o.symm,by rw[HW.o];exact H2.o,Bh.o⟩
 ·have t:((kT s:Int) !=(k:Int))=true:=by simp;omega
  have HW:Hid (Hz k s=s):=by show _=_;unfold Hz;rw[if_neg hc]
  have HC:Hid ((kT s==k)=false):=by show _=_;simpa using hc
  clear hc;go_enter Tryz.func231,Tryz.ntmps231;go_wp2_with fail
  refine(Ds HH.o).mono ?_;rintro e w1 ⟨rfl,h1,A1⟩;have H1:=A0 h1;have B3:Hid (A9 b w w1):=Below.only A1;clear h1 A1;go_wp2;go_ret;exact⟨Sy HC.o.symm,by rw[HW.o];exact H1.o,B3.o⟩
theorem Ue(h:PR b tb cap te ts w s) :
  Calls Tryz.prog 183 #[.pointer (some ⟨b,0,none⟩)] w fun e w'=>∃ln S,e=.returned (.agg #[.int .i64 ln,.string ⟨S.toArray⟩])/\((Be 1 s).bad=0->ln=(B6 s).line/\S=(B6 s).s)/\PR b tb cap te ts w' (Be 1 s)/\A9 b w w':=by
 have HH:=A0 h;have lb:=h.lt;have HG:Hid ((Be 1 s).bad=0->s.bad=0):=by
  intro e;by_cases h0:s.bad=0
  ·exact h0
  ·exfalso;apply h0;have hk:kT s≠1:=by unfold kT B6;rw[h.Ml h0];decide
   unfold Be at e;rw[if_neg hk]at e;unfold Eg at e;rw[if_neg h0]at e;exact e
 clear h;go_enter Tryz.func183,Tryz.ntmps183;go_wp2_with fail
 refine(J0 (HH.o.alloc _) 1).mono ?_;rintro e w1 ⟨kk,ln,nn,S,rfl,htk,h1,Bx⟩;have hR:=Bx.blk (heap_alloc_new w (.cells #[.int .i64 0,.string ⟨#[]⟩] 148)) z4va;have x0:=A2 hR 0 _ rfl;have x1:=A2 hR 1 _ rfl;have fx:=Bd hR;have lx:=A5 hR;have B3:Hid (A9 b w w1):=((A9.refl b w).alloc _).trans Bx;have H1:=A0 h1;have HTk:=A0 htk;clear h1 htk hR Bx;go_wp2;refine bodyPost_ret (v:=.agg #[.int .i64 ln,.string ⟨S.toArray⟩]) (by simp[results,Tryz.results183,go_sem,x0,x1,lx]) rfl ?_;refine⟨_,_,rfl,fun e=>?_,PR.alloc (PR.keep H1.o ?_ ?_) _,A9.alloc (A9.set (p:=⟨w.heap.size,1,none⟩) (A9.set (p:=⟨w.heap.size,0,none⟩) B3.o (.inr (Nat.le_refl _)) _) (.inr (Nat.le_refl _)) _) _⟩
 ·have:=(HTk.o e).1 (HG.o e);exact⟨this.1,this.2.1⟩
 ·rw[Below.heap_setCell _ _ _ _ (by show b≠w.heap.size;omega),Below.heap_setCell _ _ _ _ (by show b≠w.heap.size;omega)]
 ·rw[Below.heap_setCell _ _ _ _ (by show tb≠w.heap.size;omega),Below.heap_setCell _ _ _ _ (by show tb≠w.heap.size;omega)]
end
end Go.Proofs.YtjdlndhfaaolaaaGreatDoor
