import Derived.BigQuiet
import Derived.Deep.RegionLaw
import Derived.StillTailTactics
import Derived.Test.YtjdlndhfaaolaaaGreatDoorT08
set_option maxHeartbeats 20000000
namespace Go.Proofs.YtjdlndhfaaolaaaGreatDoor
section
open Go.RowKit
variable {P:Program}{ops:Array Oper}{o:Oper}{a:Act}{K:Act->World->Prop}{Q:Exit->Act->World->Prop}{E:Prop}
theorem Arc(W:World)(cs:Array Value)(e:TypeId)(hgd:o.guard=none)(s x:Operand)(t:TypeId)
  (ho:o.op=.call { callee:=.builtin .append,args:=#[s,x],argTypes:=#[t,t] })
  (base size bytes:Nat) (z:Value) (ht:P.underlying t=some (.slice e)) (hinfo:(P.info? e).map (fun i=>(i.zero,i.size,i.bytes))=some (some z,size,bytes))
  (hzs:z.cells.size=size) (hsz:0<size)
  (v:Value) (n:Nat) (xs:List Value) (hs:a.eval s=v) (hx:a.eval x=.slice (some ⟨W.heap.size,0,none⟩) 1 1)
  (hown:W.ownsRow base e size v n xs) (hl:cs.size=size) (h1:∀u∈cs.toList,u.oneCell'=true)
  (hn:n<=1000000) (hby:bytes<=1000) (hbase:base<=W.heap.size)
  (h:∀g cap w',w'.ownsRow base e size (.slice (some ⟨g,0,none⟩) (n+1) cap) (n+1) (xs++cs.toList)->W.grownBy w' v.ownBlock->(v.ownBlock=some g\/g=W.heap.size+1)->g<w'.heap.size->
   K (a.put o.dst (.slice (some ⟨g,0,none⟩) (n+1) cap)) w') :
  if Region.wanted o (yielded ops a.tmps)=true then Oper.wp P o a (W.alloc (.cells cs e)) K Q else E:=by
 obtain⟨i,hi,Hu,C1,C9⟩:=info_parts hinfo;have hb:=Nat.mul_le_mul (show n+1<=1000001 by omega) hby;refine step_append_lies (P:=P) (W.alloc (.cells cs e)) hgd s x t ho base e i z size bytes ht hi Hu C1 C9 hzs hsz v n xs hs (hown.alloc _) ⟨W.heap.size,0,none⟩ 1 1 cs.toList hx (by simp[hl])
  (World.news_of_block (heap_alloc_new W _)) h1 z51a (by simp only[maxLen];omega) z51a z54a (W.heap.size+1) z56a ?_
 exact z47a
theorem N6(W:World)(B:Nat)(cs:Array Value)(e:TypeId)(hB:W.heap[B]?=some (.cells cs e (0,0)))(hgd:o.guard=none)(s x:Operand)(t:TypeId)
  (ho:o.op=.call { callee:=.builtin .append,args:=#[s,x],argTypes:=#[t,t] })
  (base size bytes:Nat) (z:Value) (ht:P.underlying t=some (.slice e)) (hinfo:(P.info? e).map (fun i=>(i.zero,i.size,i.bytes))=some (some z,size,bytes))
  (hzs:z.cells.size=size) (hsz:0<size)
  (v:Value) (n:Nat) (xs:List Value) (hs:a.eval s=v) (hx:a.eval x=.slice (some ⟨B,0,none⟩) 1 1)
  (hown:W.ownsRow base e size v n xs) (hl:cs.size=size) (h1:∀u∈cs.toList,u.oneCell'=true)
  (hn:n<=1000000) (hby:bytes<=1000) (hbase:base<=W.heap.size)
  (h:∀g cap w',w'.ownsRow base e size (.slice (some ⟨g,0,none⟩) (n+1) cap) (n+1) (xs++cs.toList)->W.grownBy w' v.ownBlock->(v.ownBlock=some g\/g=W.heap.size)->g<w'.heap.size->
   K (a.put o.dst (.slice (some ⟨g,0,none⟩) (n+1) cap)) w') :
  if Region.wanted o (yielded ops a.tmps)=true then Oper.wp P o a W K Q else E:=by
 obtain⟨i,hi,Hu,C1,C9⟩:=info_parts hinfo;have hb:=Nat.mul_le_mul (show n+1<=1000001 by omega) hby;exact step_append_lies (P:=P) W hgd s x t ho base e i z size bytes ht hi Hu C1 C9 hzs hsz v n xs hs hown ⟨B,0,none⟩ 1 1 cs.toList hx (by simp[hl])
  (World.news_of_block hB) h1 z51a (by simp only[maxLen];omega) z51a hbase W.heap.size rfl h
end
section
open Go.RowKit
theorem z2ba {P:Prop} (h:P:=by
  have hw:Region.wanted o (yielded ops a.tmps)=true:=by simp[Region.wanted,hg]
  rw[if_pos hw];unfold Oper.wp;rw[hrun,Oper.upon_enter];refine hC.mono ?_;intro e w' hR;obtain⟨u,rfl,hK⟩:=h e w' hR;exact hK):P:=h
theorem F2{P:Program}{ops:Array Oper}{o:Oper}{a:Act}{w:World}{K:Act->World->Prop}{Q:Exit->Act->World->Prop}{E:Prop}(hg:o.guard=none)(f:FuncId)(xs:Array Operand)(ts:Array TypeId)(_:o.op=.call { callee:=.value (.func f),args:=xs,argTypes:=ts })(args:Array Value)
  (hrun:(execOp a.eval o).run P w=.ok (.enter f args) w) {R:Ending->World->Prop} (hC:Calls P f args w R)
  (h:∀e w',R e w'->∃u,e=.returned u/\K (a.put o.dst u) w'):if Region.wanted o (yielded ops a.tmps)=true then Oper.wp P o a w K Q else E:=by
 exact z2ba
structure T0 (P : Program) (ops : Array Oper) (w : World) (Q : Act -> Prop) (l : List Oper) (a : Act) : Prop where
 out:wpStill P ops w Q l a
theorem Ic{P:Program}{id:Nat}{Q:Exit->Act->World->Prop}{a:Act}{w:World}{l:List Oper}(n:Nat)(hm:P.follows .mixedOrders=true)(hB:Region.lexTailB .any l.toArray n=true)
  (h:T0 P l.toArray { w with drawn:=w.drawn+1 } (fun a'=>wpList P l.toArray Q (l.drop n) a' { w with drawn:=w.drawn+1 }) (l.take n) a):(Code.region id l.toArray true).wp P Q a w:=wp_region_still_tail n hm hB h.out
theorem Ib{P:Program}{ops:Array Oper}{w:World}{Q:Act->Prop}{a:Act}(h:Q a):T0 P ops w Q [] a:=⟨wpStill_nil h⟩
theorem Ez{P:Program}{ops:Array Oper}{w:World}{Q:Act->Prop}{a:Act}{o:Oper}{rest:List Oper}
  (h:∀K:Act->Prop,(∀a,T0 P ops w Q rest a->K a)->if Region.wanted o (yielded ops a.tmps) then o.still P a w K else K (a.put o.dst undef)):T0 P ops w Q (o::rest) a:=
 ⟨wpStill_step (fun K hK=>h K (fun a hb=>hK a hb.out))⟩
def Hw(k:Nat)(s:PS):PS:=if kT s=k then At s else s
end
section
open Go.RowKit
open Go.Deep (BT)
theorem A9.drewN{b:Nat}{x w:World}(h:A9 b x w)(n:Nat):A9 b x (w.drewN n):=⟨h.os,h.tape,h.output,h.size,h.block⟩
theorem Oq(D:Nat->Prop)(w:World)(e:TypeId)(size:Nat):Cz D w e size (.slice none 0 0) 0 []:=⟨World.ownsRow_nil _ _ _ _,fun g hg=>by simp[Value.ownBlock]at hg⟩
def Mw(t:Tk):List Value:=[.int .i64 (t.k:Nat),.int .i64 (t.line:Nat),.string ⟨t.s.toArray⟩,.int .i64 t.n]
def Kv(ts:List Tk):List Value:=ts.flatMap Mw
theorem Zw(xs:List Tk):∀(i j:Nat) (h:i<xs.length),j<4->(Kv xs)[i*4+j]?=(Mw xs[i])[j]?:=by
 induction xs with
 | nil=>intro i j h;simp at h
 | cons x r ih=>
  intro i j h hj;have e:Kv (x::r)=Mw x++Kv r:=by simp[Kv]
  rw[e];have hl:(Mw x).length=4:=rfl;cases i with
  | zero=>rw[List.getElem?_append_left z51a];simp
  | succ i=>
   rw[List.getElem?_append_right z51a,hl,show(i+1)*4+j-4=i*4+j by omega];exact ih i j z68a hj
structure V8 (ts : List Tk) : Prop where
 Bw:ts.length<=100000
 last:∀i (h:i<ts.length),ts[i].k=0↔i+1=ts.length
 line:∀x∈ts,1<=x.line/\x.line<=100000/\x.k<=40
def O6(n:Nat):Nat:=if n=0 then 0 else 2
structure Gi (b tb cap te : Nat) (ts : List Tk) (w : World) (s : PS) (pl : Nat) : Prop where
 toks:V8 ts
 rd:w.heap[b]?=some (.cells #[.slice (some ⟨tb,0,none⟩) ts.length cap,.int .i64 (pl:Nat),.int .i64 (O6 s.bad:Nat),.int .i64 (s.bad:Nat)] te (0,0))
 tok:∃cur,w.heap[tb]?=some (.cells cur 198 (0,0))/\cur.toList.take (ts.length*4)=Kv ts
 ne:tb≠b
 lt:pl<ts.length
 cap:ts.length<=cap
 good:s.bad=0->s.ts=ts.drop pl
 bad:s.bad≠0->s.ts=[Ig]/\s.bad<=100000/\pl+1=ts.length
variable {b tb cap te:Nat} {ts:List Tk} {w w':World} {s:PS} {pl:Nat}
theorem z2ra {P:Prop} (h:P:=by
  obtain⟨cur,h1,h2⟩:=h.tok;rw[cell_of_row w tb (i*4+j) cur _ _ h1,←Zw ts i j hi hj,←h2,List.getElem?_take,if_pos z51a,Array.getElem?_toList]):P:=h
theorem Gi.R1(h:Gi b tb cap te ts w s pl)(i j:Nat)(hi:i<ts.length)(hj:j<4):w.cell? ⟨tb,i*4+j,none⟩=(Mw ts[i])[j]?:=by
 exact z2ra
theorem Gi.of_heap(h:Gi b tb cap te ts w s pl)(h1:w'.heap[b]?=w.heap[b]?)(h2:w'.heap[tb]?=w.heap[tb]?):Gi b tb cap te ts w' s pl:=by
 obtain⟨cur,k1,k2⟩:=h.tok;exact⟨h.toks,h1.trans h.rd,⟨cur,h2.trans k1,k2⟩,h.ne,h.lt,h.cap,h.good,h.bad⟩
theorem Gi.Sl(h:Gi b tb cap te ts w s pl):tb<w.heap.size:=by
 obtain⟨cur,k1,_⟩:=h.tok;exact A5 k1
theorem Gi.below(h:Gi b tb cap te ts w s pl)(hb:Below w.heap.size w w'):Gi b tb cap te ts w' s pl:=
 h.of_heap (hb.block b (A5 h.rd)) (hb.block tb h.Sl)
theorem Gi.hd(h:Gi b tb cap te ts w s pl)(h0:s.bad=0):B9 s=(ts[pl]'h.lt):=by
 unfold B9;rw[h.good h0,List.drop_eq_getElem_cons h.lt];rfl
theorem Gi.kd(h:Gi b tb cap te ts w s pl):kT s=(ts[pl]'h.lt).k:=by
 by_cases h0:s.bad=0
 ·unfold kT;rw[h.hd h0]
 ·have h1:=h.bad h0;rw[((h.toks.last pl h.lt).2 h1.2.2)];unfold kT B9;rw[h1.1];rfl
theorem Gi.Rq(h:Gi b tb cap te ts w s pl):kT s<=40:=by
 rw[h.kd];exact(h.toks.line _ (List.getElem_mem h.lt)).2.2
theorem Gi.Gx(h:Gi b tb cap te ts w s pl)(hk:kT s≠0):s.bad=0/\pl+1<ts.length:=by
 by_cases h0:s.bad=0
 ·refine⟨h0,?_⟩;have:=h.toks.last pl h.lt;unfold kT at hk;rw[h.hd h0]at hk;have hlt:=h.lt;have hne:pl+1≠ts.length:=fun e=>hk (this.2 e);omega
 ·exfalso;apply hk;unfold kT B9;rw[(h.bad h0).1];rfl
theorem Gi.move(h:Gi b tb cap te ts w s pl)(hk:kT s≠0)(q:Int)(hq:q=(pl:Int)+1) :
  Gi b tb cap te ts (w.setCell ⟨b,1,none⟩ (.int .i64 q)) (At s) (pl+1):=by
 obtain⟨cur,k1,k2⟩:=h.tok;obtain⟨h0,hlt⟩:=h.Gx hk;subst hq;have ht:At s=⟨s.ts.tail,s.bad⟩:=by unfold At;rw[if_neg hk]
 rw[ht];refine⟨h.toks,?_,⟨cur,(Below.heap_setCell _ _ _ _ h.ne).trans k1,k2⟩,h.ne,hlt,h.cap,(fun _=>?_),(fun e=>absurd h0 e)⟩
 ·rw[heap_set h.rd];simp
 ·show s.ts.tail=_;rw[h.good h0,List.drop_eq_getElem_cons h.lt];rfl
theorem Gi.failed(h:Gi b tb cap te ts w s pl)(h0:s.bad=0)(q:Int)(hq:q=(ts.length:Int)-1)(ln:Nat)(hl:ln=(B9 s).line) :
  Gi b tb cap te ts (((w.setCell ⟨b,2,none⟩ (.int .i64 2)).setCell ⟨b,3,none⟩ (.int .i64 (ln:Nat))).setCell ⟨b,1,none⟩ (.int .i64 q)) (Eh s) (ts.length-1):=by
 obtain⟨cur,k1,k2⟩:=h.tok;subst hl hq;have hlt:=h.lt;have hline:=h.toks.line _ (List.getElem_mem h.lt);rw[←h.hd h0]at hline;have hf:Eh s=⟨[Ig],(B9 s).line⟩:=by unfold Eh;rw[if_pos h0]
 rw[hf];refine⟨h.toks,?_,⟨cur,?_,k2⟩,h.ne,by omega,h.cap,(fun e=>by simp only at e;omega),(fun _=>⟨rfl,hline.2.1,by omega⟩)⟩
 ·have:=heap_set (j:=1) (heap_set (j:=3) (heap_set (j:=2) h.rd (.int .i64 2)) (.int .i64 ((B9 s).line:Nat))) (.int .i64 ((ts.length:Int)-1));rw[this];have e:((ts.length-1:Nat):Int)=(ts.length:Int)-1:=by omega
  simp only[e,O6,if_neg (show(B9 s).line≠0 by omega)];simp
 ·rw[Below.heap_setCell _ _ _ _ (by exact h.ne),Below.heap_setCell _ _ _ _ (by exact h.ne),Below.heap_setCell _ _ _ _ (by exact h.ne)];exact k1
theorem Gi.stay(h:Gi b tb cap te ts w s pl)(h0:s.bad≠0)(q:Int)(hq:q=(ts.length:Int)-1) :
  Gi b tb cap te ts (w.setCell ⟨b,1,none⟩ (.int .i64 q)) s pl:=by
 obtain⟨cur,k1,k2⟩:=h.tok;obtain⟨e1,e2,e3⟩:=h.bad h0;subst hq;refine⟨h.toks,?_,⟨cur,(Below.heap_setCell _ _ _ _ h.ne).trans k1,k2⟩,h.ne,h.lt,h.cap,h.good,h.bad⟩;rw[heap_set h.rd,show(ts.length:Int)-1=(pl:Int) by omega];simp
def PR(b tb cap te:Nat)(ts:List Tk)(w:World)(s:PS):Prop:=∃pl,Gi b tb cap te ts w s pl
theorem PR.below(h:PR b tb cap te ts w s)(hb:Below w.heap.size w w'):PR b tb cap te ts w' s:=by
 obtain⟨pl,h⟩:=h;exact⟨pl,h.below hb⟩
theorem PR.keep(h:PR b tb cap te ts w s)(h1:w'.heap[b]?=w.heap[b]?)(h2:w'.heap[tb]?=w.heap[tb]?):PR b tb cap te ts w' s:=by
 obtain⟨pl,h⟩:=h;exact⟨pl,h.of_heap h1 h2⟩
theorem PR.alloc(h:PR b tb cap te ts w s)(o:Obj):PR b tb cap te ts (w.alloc o) s:=h.below ((Below.refl _ _).alloc (Nat.le_refl _) _)
theorem PR.drew(h:PR b tb cap te ts w s):PR b tb cap te ts w.drew s:=h.keep rfl rfl
theorem PR.lt(h:PR b tb cap te ts w s):b<w.heap.size/\tb<w.heap.size/\tb≠b:=by
 obtain⟨pl,h⟩:=h;exact⟨A5 h.rd,h.Sl,h.ne⟩
theorem PR.Rq(h:PR b tb cap te ts w s):kT s<=40:=by
 obtain⟨pl,h⟩:=h;exact h.Rq
theorem PR.other(h:PR b tb cap te ts w s){p:Addr}(h1:b≠p.block)(h2:tb≠p.block)(u:Value):PR b tb cap te ts (w.setCell p u) s:=
 h.keep (Below.heap_setCell _ _ _ _ h1) (Below.heap_setCell _ _ _ _ h2)
theorem PR.Mf(h:PR b tb cap te ts w s)(h0:s.bad≠0):s.ts=[Ig]:=by
 obtain⟨pl,h⟩:=h;exact(h.bad h0).1
theorem PR.A8k(h:PR b tb cap te ts w s):s.bad<=100000:=by
 obtain⟨pl,h⟩:=h;by_cases h0:s.bad=0
 ·omega
 ·exact(h.bad h0).2.1
theorem PR.Gx(h:PR b tb cap te ts w s)(hk:kT s≠0):s.bad=0:=by
 obtain⟨pl,h⟩:=h;exact(h.Gx hk).1
theorem PR.lines(h:PR b tb cap te ts w s)(h0:s.bad=0):1<=(B9 s).line/\(B9 s).line<=100000:=by
 obtain⟨pl,h⟩:=h;rw[h.hd h0];have:=h.toks.line _ (List.getElem_mem h.lt);exact⟨this.1,this.2.1⟩
end
section
set_option maxRecDepth 100000
open Go.RowKit
variable {b tb cap te:Nat}{ts:List Tk}{w:World}{s:PS}
theorem Dt(h:PR b tb cap te ts w s) :
  Calls Tryz.prog 130 #[.pointer (some ⟨b,0,none⟩)] w fun e w'=>e=.returned (.int .i64 (kT s:Nat))/\PR b tb cap te ts w' s/\Below w.heap.size w w':=by
 obtain⟨pl,h⟩:=h;have c0:=A2 h.rd 0 _ rfl;have c1:=A2 h.rd 1 _ rfl;have lb:=A5 h.rd;have lt:=h.Sl;have hlt:=h.lt;have d0:=h.R1 pl 0 hlt z51a;rw[Mw]at d0;simp only[List.getElem?_cons_zero,Nat.add_zero]at d0;rw[←h.kd]at d0;have hfew:=h.toks.Bw;have hcap:=h.cap;have HH:=A0 h;clear h;go_enter Tryz.func130,Tryz.ntmps130;go_wp2;go_quiet (fail)
 go_wp2;go_ret;exact⟨rfl,⟨pl,HH.o.of_heap rfl rfl⟩,⟨rfl,rfl,rfl,Nat.le_refl _,fun _ _=>rfl⟩⟩
def Vc(s:PS)(ln nn:Int)(S:List UInt8):Prop:=s.bad=0->ln=(B9 s).line/\S=(B9 s).s/\nn=(B9 s).n
theorem Hf(h:PR b tb cap te ts w s) :
  Calls Tryz.prog 188 #[.pointer (some ⟨b,0,none⟩)] w fun e w'=>∃ln nn S,e=.returned (.agg #[.int .i64 (kT s:Nat),.int .i64 ln,.string ⟨S.toArray⟩,.int .i64 nn])/\Vc s ln nn S/\PR b tb cap te ts w' (At s)/\A9 b w w':=by
 obtain⟨pl,h⟩:=h;have c0:=A2 h.rd 0 _ rfl;have c1:=A2 h.rd 1 _ rfl;have fz:=Bh h.rd;have lb:=A5 h.rd;have lt:=h.Sl;have hlt:=h.lt;have d0:=h.R1 pl 0 hlt z51a;have d1:=h.R1 pl 1 hlt z51a;have d2:=h.R1 pl 2 hlt z51a;have d3:=h.R1 pl 3 hlt z51a;rw[Mw]at d0 d1 d2 d3;simp only[List.getElem?_cons_zero,List.getElem?_cons_succ,Nat.add_zero]at d0 d1 d2 d3;rw[←h.kd]at d0;have hfew:=h.toks.Bw;have hcap:=h.cap;have HTk:Hid (Vc s (ts[pl].line:Nat) ts[pl].n ts[pl].s):=fun h0=>by rw[h.hd h0];exact⟨rfl,rfl,rfl⟩
 have HH:=A0 h;have hne:=h.ne;clear h;generalize ts[pl].line=ln at *;generalize ts[pl].s=S at *;generalize ts[pl].n=nn at *;by_cases hk:kT s=0
 ·have t:((kT s:Int) !=0)=false:=by rw[hk];rfl
  have HE:Hid (At s=s):=by show _=_;unfold At;rw[if_pos hk]
  clear hk;go_enter Tryz.func188,Tryz.ntmps188;go_wp2;go_region
  all_goals go_wp2
  all_goals refine bodyPost_ret (v:=.agg #[.int .i64 (kT s:Nat),.int .i64 (ln:Nat),.string ⟨S.toArray⟩,.int .i64 nn]) (by simp[results,Tryz.results188,go_sem]) rfl ⟨_,_,_,rfl,HTk.o,?_,?_⟩
  all_goals first
   | exact((((PR.alloc (PR.alloc ⟨pl,HE.o.symm ▸ HH.o⟩ _) _)).drew))
   | exact(((A9.refl b w).alloc _).alloc _).drew
 ·have t:((kT s:Int) !=0)=true:=by simpa using hk
  have HK:=A0 hk;clear hk;go_enter Tryz.func188,Tryz.ntmps188;go_wp2;go_region
  all_goals go_wp2
  all_goals refine bodyPost_ret (v:=.agg #[.int .i64 (kT s:Nat),.int .i64 (ln:Nat),.string ⟨S.toArray⟩,.int .i64 nn]) (by simp[results,Tryz.results188,go_sem]) rfl ⟨_,_,_,rfl,HTk.o,?_,?_⟩
  all_goals first
   | exact((((PR.alloc (PR.alloc ⟨pl+1,HH.o.move HK.o _ rfl⟩ _) _)).drew))
   | exact(((A9.set (p:=⟨b,1,none⟩) (A9.refl b w) (.inl rfl) _).alloc _).alloc _).drew
theorem A0b(h:PR b tb cap te ts w s) :
  Calls Tryz.prog 230 #[.pointer (some ⟨b,0,none⟩)] w fun e w'=>e=.returned (.tuple #[])/\PR b tb cap te ts w' (Eh s)/\A9 b w w':=by
 obtain⟨pl,h⟩:=h;have c0:=A2 h.rd 0 _ rfl;have c1:=A2 h.rd 1 _ rfl;have c2:=A2 h.rd 2 _ rfl;have c3:=A2 h.rd 3 _ rfl;have fz:=Bh h.rd;have lb:=A5 h.rd;have lt:=h.Sl;have hlt:=h.lt;have d1:=h.R1 pl 1 hlt z51a;rw[Mw]at d1;simp only[List.getElem?_cons_zero,List.getElem?_cons_succ]at d1;have hfew:=h.toks.Bw;have hcap:=h.cap;have HH:=A0 h;have hne:=h.ne;by_cases h0:s.bad=0
 ·have HD:Hid (ts[pl].line=(B9 s).line):=by show _=_;rw[h.hd h0]
  have HB:=A0 (fun(w1:World) (e:w1.heap=w.heap)=>(h.of_heap (w':=w1) (by rw[e]) (by rw[e])).failed h0 _ rfl _ HD.o);replace c2:w.cell? ⟨b,2,none⟩=some (.int .i64 0):=by rw[c2,h0];rfl
  clear h h0;generalize ts[pl].line=ln at *;go_enter Tryz.func230,Tryz.ntmps230;go_wp2;go_region
  all_goals go_wp2
  all_goals go_end0
  all_goals exact⟨rfl,PR.drew ⟨_,HB.o w rfl⟩,(A9.set (p:=⟨b,1,none⟩) (A9.set (p:=⟨b,3,none⟩) (A9.set (p:=⟨b,2,none⟩) (A9.refl b w) (.inl rfl) _) (.inl rfl) _) (.inl rfl) _).drew⟩
 ·have h2:O6 s.bad=2:=by unfold O6;rw[if_neg h0]
  replace c2:w.cell? ⟨b,2,none⟩=some (.int .i64 2):=by rw[c2];show some (Value.int .i64 ((O6 s.bad:Nat):Int))=_;rw[h2];rfl
  have HF:Hid (Eh s=s):=by show _=_;unfold Eh;rw[if_neg h0]
  have HB:=A0 (h.stay h0 _ rfl);clear h h0 h2;go_enter Tryz.func230,Tryz.ntmps230;go_wp2;go_end0;exact⟨rfl,⟨pl,by rw[HF.o];exact HB.o⟩,A9.set (p:=⟨b,1,none⟩) (A9.refl b w) (.inl rfl) _⟩
end
end Go.Proofs.YtjdlndhfaaolaaaGreatDoor
