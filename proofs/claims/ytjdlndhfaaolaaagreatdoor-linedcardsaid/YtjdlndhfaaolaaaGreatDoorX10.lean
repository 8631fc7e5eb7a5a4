import Derived.BigQuiet
import Derived.Deep.RegionLaw
import Derived.StillTailTactics
import Derived.Test.YtjdlndhfaaolaaaGreatDoorX09
set_option maxHeartbeats 20000000
namespace Go.Proofs.YtjdlndhfaaolaaaGreatDoor
section
open Go.RowKit
variable {P:Program}{ops:Array Oper}{o:Oper}{a:Act}{K:Act->World->Prop}{Q:Exit->Act->World->Prop}{E:Prop}
theorem Ap6(W:World)(cs:Array Value)(e:TypeId)(hgd:o.guard=none)(s x:Operand)(t:TypeId)
  (ho:o.op=.call { callee:=.builtin .append,args:=#[s,x],argTypes:=#[t,t] })
  (base size bytes:Nat) (z:Value) (ht:P.underlying t=some (.slice e)) (hinfo:(P.info? e).map (fun i=>(i.zero,i.size,i.bytes))=some (some z,size,bytes))
  (hzs:z.cells.size=size) (hsz:0<size)
  (v:Value) (n:Nat) (xs:List Value) (hs:a.eval s=v) (hx:a.eval x=.slice (some ⟨W.heap.size,0,none⟩) 1 1)
  (hown:W.ownsRow base e size v n xs) (hl:cs.size=size) (h1:∀u∈cs.toList,u.oneCell'=true)
  (hn:n<=1000000) (hby:bytes<=1000) (hbase:base<=W.heap.size)
  (h:∀g cap w',w'.ownsRow base e size (.slice (some ⟨g,0,none⟩) (n+1) cap) (n+1) (xs++cs.toList)->W.grownBy w' v.ownBlock->(v.ownBlock=some g\/g=W.heap.size+1)->g<w'.heap.size->
   K (a.put o.dst (.slice (some ⟨g,0,none⟩) (n+1) cap)) w') :
  if Region.wanted o (yielded ops a.tmps)=true then Oper.wp P o a (W.alloc (.cells cs e)) K Q else E:=by
 obtain⟨i,hi,Gt,Bq,Bw⟩:=info_parts hinfo;have hb:=Nat.mul_le_mul (show n+1<=1000001 by omega) hby;refine step_append_lies (P:=P) (W.alloc (.cells cs e)) hgd s x t ho base e i z size bytes ht hi Gt Bq Bw hzs hsz v n xs hs (hown.alloc _) ⟨W.heap.size,0,none⟩ 1 1 cs.toList hx (by simp[hl])
  (World.news_of_block (heap_alloc_new W _)) h1 z4sa (by simp only[maxLen];omega) z4sa z4za (W.heap.size+1) z4wa ?_
 exact z3sa
theorem Nw(W:World)(B:Nat)(cs:Array Value)(e:TypeId)(hB:W.heap[B]?=some (.cells cs e (0,0)))(hgd:o.guard=none)(s x:Operand)(t:TypeId)
  (ho:o.op=.call { callee:=.builtin .append,args:=#[s,x],argTypes:=#[t,t] })
  (base size bytes:Nat) (z:Value) (ht:P.underlying t=some (.slice e)) (hinfo:(P.info? e).map (fun i=>(i.zero,i.size,i.bytes))=some (some z,size,bytes))
  (hzs:z.cells.size=size) (hsz:0<size)
  (v:Value) (n:Nat) (xs:List Value) (hs:a.eval s=v) (hx:a.eval x=.slice (some ⟨B,0,none⟩) 1 1)
  (hown:W.ownsRow base e size v n xs) (hl:cs.size=size) (h1:∀u∈cs.toList,u.oneCell'=true)
  (hn:n<=100000000000) (hby:bytes<=1000) (hbase:base<=W.heap.size)
  (h:∀g cap w',w'.ownsRow base e size (.slice (some ⟨g,0,none⟩) (n+1) cap) (n+1) (xs++cs.toList)->W.grownBy w' v.ownBlock->(v.ownBlock=some g\/g=W.heap.size)->g<w'.heap.size->
   K (a.put o.dst (.slice (some ⟨g,0,none⟩) (n+1) cap)) w') :
  if Region.wanted o (yielded ops a.tmps)=true then Oper.wp P o a W K Q else E:=by
 obtain⟨i,hi,Gt,Bq,Bw⟩:=info_parts hinfo;have hb:=Nat.mul_le_mul (show n+1<=100000000001 by omega) hby;exact step_append_lies (P:=P) W hgd s x t ho base e i z size bytes ht hi Gt Bq Bw hzs hsz v n xs hs hown ⟨B,0,none⟩ 1 1 cs.toList hx (by simp[hl])
  (World.news_of_block hB) h1 z4sa (by simp only[maxLen];omega) z4sa hbase W.heap.size rfl h
end
section
open Go.RowKit
theorem z20a {P:Prop} (h:P:=by
  have hw:Region.wanted o (yielded ops a.tmps)=true:=by simp[Region.wanted,hg]
  rw[if_pos hw];unfold Oper.wp;rw[hrun,Oper.upon_enter];refine hC.mono ?_;intro e w' hR;obtain⟨u,rfl,hK⟩:=h e w' hR;exact hK):P:=h
theorem Fg{P:Program}{ops:Array Oper}{o:Oper}{a:Act}{w:World}{K:Act->World->Prop}{Q:Exit->Act->World->Prop}{E:Prop}(hg:o.guard=none)(f:FuncId)(xs:Array Operand)(ts:Array TypeId)(_:o.op=.call { callee:=.value (.func f),args:=xs,argTypes:=ts })(args:Array Value)
  (hrun:(execOp a.eval o).run P w=.ok (.enter f args) w) {R:Ending->World->Prop} (hC:Calls P f args w R)
  (h:∀e w',R e w'->∃u,e=.returned u/\K (a.put o.dst u) w'):if Region.wanted o (yielded ops a.tmps)=true then Oper.wp P o a w K Q else E:=by
 exact z20a
structure T0 (P : Program) (ops : Array Oper) (w : World) (Q : Act -> Prop) (l : List Oper) (a : Act) : Prop where
 out:wpStill P ops w Q l a
theorem Jr{P:Program}{id:Nat}{Q:Exit->Act->World->Prop}{a:Act}{w:World}{l:List Oper}(n:Nat)(hm:P.follows .mixedOrders=true)(hB:Region.lexTailB .any l.toArray n=true)
  (h:T0 P l.toArray { w with drawn:=w.drawn+1 } (fun a'=>wpList P l.toArray Q (l.drop n) a' { w with drawn:=w.drawn+1 }) (l.take n) a):(Code.region id l.toArray true).wp P Q a w:=wp_region_still_tail n hm hB h.out
theorem Jq{P:Program}{ops:Array Oper}{w:World}{Q:Act->Prop}{a:Act}(h:Q a):T0 P ops w Q [] a:=⟨wpStill_nil h⟩
theorem F4{P:Program}{ops:Array Oper}{w:World}{Q:Act->Prop}{a:Act}{o:Oper}{rest:List Oper}
  (h:∀K:Act->Prop,(∀a,T0 P ops w Q rest a->K a)->if Region.wanted o (yielded ops a.tmps) then o.still P a w K else K (a.put o.dst undef)):T0 P ops w Q (o::rest) a:=
 ⟨wpStill_step (fun K hK=>h K (fun a hb=>hK a hb.out))⟩
def I5(k:Nat)(s:PS):PS:=if kT s=k then Aj s else s
end
section
open Go.RowKit
open Go.Deep (BT)
theorem A5.drewN{b:Nat}{x w:World}(h:A5 b x w)(n:Nat):A5 b x (w.drewN n):=⟨h.os,h.tape,h.output,h.size,h.block⟩
theorem Om(D:Nat->Prop)(w:World)(e:TypeId)(size:Nat):Cr D w e size (.slice none 0 0) 0 []:=⟨World.ownsRow_nil _ _ _ _,fun g hg=>by simp[Value.ownBlock]at hg⟩
def Mx(t:Tk):List Value:=[.int .i64 (t.k:Nat),.int .i64 (t.line:Nat),.string ⟨t.s.toArray⟩,.int .i64 t.n]
def L0(ts:List Tk):List Value:=ts.flatMap Mx
theorem y8(xs:List Tk):∀(i j:Nat) (h:i<xs.length),j<4->(L0 xs)[i*4+j]?=(Mx xs[i])[j]?:=by
 induction xs with
 | nil=>intro i j h;simp at h
 | cons x r ih=>
  intro i j h hj;have e:L0 (x::r)=Mx x++L0 r:=by simp[L0]
  rw[e];have hl:(Mx x).length=4:=rfl;cases i with
  | zero=>rw[List.getElem?_append_left z4sa];simp
  | succ i=>
   rw[List.getElem?_append_right z4sa,hl,show(i+1)*4+j-4=i*4+j by omega];exact ih i j z5ta hj
structure V4 (ts : List Tk) : Prop where
 Bz:ts.length<=100000
 last:∀i (h:i<ts.length),ts[i].k=0↔i+1=ts.length
 line:∀x∈ts,1<=x.line/\x.line<=100000/\x.k<=40
def O4(n:Nat):Nat:=if n=0 then 0 else 2
structure Gf (b tb cap te : Nat) (ts : List Tk) (w : World) (s : PS) (pl : Nat) : Prop where
 toks:V4 ts
 rd:w.heap[b]?=some (.cells #[.slice (some ⟨tb,0,none⟩) ts.length cap,.int .i64 (pl:Nat),.int .i64 (O4 s.bad:Nat),.int .i64 (s.bad:Nat)] te (0,0))
 tok:∃cur,w.heap[tb]?=some (.cells cur 198 (0,0))/\cur.toList.take (ts.length*4)=L0 ts
 ne:tb≠b
 lt:pl<ts.length
 cap:ts.length<=cap
 good:s.bad=0->s.ts=ts.drop pl
 bad:s.bad≠0->s.ts=[J0]/\s.bad<=100000/\pl+1=ts.length
variable {b tb cap te:Nat} {ts:List Tk} {w w':World} {s:PS} {pl:Nat}
theorem z2ja {P:Prop} (h:P:=by
  obtain⟨cur,h1,h2⟩:=h.tok;rw[cell_of_row w tb (i*4+j) cur _ _ h1,←y8 ts i j hi hj,←h2,List.getElem?_take,if_pos z4sa,Array.getElem?_toList]):P:=h
theorem Gf.Qw(h:Gf b tb cap te ts w s pl)(i j:Nat)(hi:i<ts.length)(hj:j<4):w.cell? ⟨tb,i*4+j,none⟩=(Mx ts[i])[j]?:=by
 exact z2ja
theorem Gf.of_heap(h:Gf b tb cap te ts w s pl)(h1:w'.heap[b]?=w.heap[b]?)(h2:w'.heap[tb]?=w.heap[tb]?):Gf b tb cap te ts w' s pl:=by
 obtain⟨cur,k1,k2⟩:=h.tok;exact⟨h.toks,h1.trans h.rd,⟨cur,h2.trans k1,k2⟩,h.ne,h.lt,h.cap,h.good,h.bad⟩
theorem Gf.Sl(h:Gf b tb cap te ts w s pl):tb<w.heap.size:=by
 obtain⟨cur,k1,_⟩:=h.tok;exact A6 k1
theorem Gf.below(h:Gf b tb cap te ts w s pl)(hb:Below w.heap.size w w'):Gf b tb cap te ts w' s pl:=
 h.of_heap (hb.block b (A6 h.rd)) (hb.block tb h.Sl)
theorem Gf.hd(h:Gf b tb cap te ts w s pl)(h0:s.bad=0):An s=(ts[pl]'h.lt):=by
 unfold An;rw[h.good h0,List.drop_eq_getElem_cons h.lt];rfl
theorem Gf.kd(h:Gf b tb cap te ts w s pl):kT s=(ts[pl]'h.lt).k:=by
 by_cases h0:s.bad=0
 ·unfold kT;rw[h.hd h0]
 ·have h1:=h.bad h0;rw[((h.toks.last pl h.lt).2 h1.2.2)];unfold kT An;rw[h1.1];rfl
theorem Gf.Rn(h:Gf b tb cap te ts w s pl):kT s<=40:=by
 rw[h.kd];exact(h.toks.line _ (List.getElem_mem h.lt)).2.2
theorem Gf.Gv(h:Gf b tb cap te ts w s pl)(hk:kT s≠0):s.bad=0/\pl+1<ts.length:=by
 by_cases h0:s.bad=0
 ·refine⟨h0,?_⟩;have:=h.toks.last pl h.lt;unfold kT at hk;rw[h.hd h0]at hk;have hlt:=h.lt;have hne:pl+1≠ts.length:=fun e=>hk (this.2 e);omega
 ·exfalso;apply hk;unfold kT An;rw[(h.bad h0).1];rfl
theorem Gf.move(h:Gf b tb cap te ts w s pl)(hk:kT s≠0)(q:Int)(hq:q=(pl:Int)+1) :
  Gf b tb cap te ts (w.setCell ⟨b,1,none⟩ (.int .i64 q)) (Aj s) (pl+1):=by
 obtain⟨cur,k1,k2⟩:=h.tok;obtain⟨h0,hlt⟩:=h.Gv hk;subst hq;have ht:Aj s=⟨s.ts.tail,s.bad⟩:=by unfold Aj;rw[if_neg hk]
 rw[ht];refine⟨h.toks,?_,⟨cur,(Below.heap_setCell _ _ _ _ h.ne).trans k1,k2⟩,h.ne,hlt,h.cap,(fun _=>?_),(fun e=>absurd h0 e)⟩
 ·rw[heap_set h.rd];simp
 ·show s.ts.tail=_;rw[h.good h0,List.drop_eq_getElem_cons h.lt];rfl
theorem Gf.failed(h:Gf b tb cap te ts w s pl)(h0:s.bad=0)(q:Int)(hq:q=(ts.length:Int)-1)(ln:Nat)(hl:ln=(An s).line) :
  Gf b tb cap te ts (((w.setCell ⟨b,2,none⟩ (.int .i64 2)).setCell ⟨b,3,none⟩ (.int .i64 (ln:Nat))).setCell ⟨b,1,none⟩ (.int .i64 q)) (Dh s) (ts.length-1):=by
 obtain⟨cur,k1,k2⟩:=h.tok;subst hl hq;have hlt:=h.lt;have hline:=h.toks.line _ (List.getElem_mem h.lt);rw[←h.hd h0]at hline;have hf:Dh s=⟨[J0],(An s).line⟩:=by unfold Dh;rw[if_pos h0]
 rw[hf];refine⟨h.toks,?_,⟨cur,?_,k2⟩,h.ne,by omega,h.cap,(fun e=>by simp only at e;omega),(fun _=>⟨rfl,hline.2.1,by omega⟩)⟩
 ·have:=heap_set (j:=1) (heap_set (j:=3) (heap_set (j:=2) h.rd (.int .i64 2)) (.int .i64 ((An s).line:Nat))) (.int .i64 ((ts.length:Int)-1));rw[this];have e:((ts.length-1:Nat):Int)=(ts.length:Int)-1:=by omega
  simp only[e,O4,if_neg (show(An s).line≠0 by omega)];simp
 ·rw[Below.heap_setCell _ _ _ _ (by exact h.ne),Below.heap_setCell _ _ _ _ (by exact h.ne),Below.heap_setCell _ _ _ _ (by exact h.ne)];exact k1
theorem Gf.stay(h:Gf b tb cap te ts w s pl)(h0:s.bad≠0)(q:Int)(hq:q=(ts.length:Int)-1) :
  Gf b tb cap te ts (w.setCell ⟨b,1,none⟩ (.int .i64 q)) s pl:=by
 obtain⟨cur,k1,k2⟩:=h.tok;obtain⟨e1,e2,e3⟩:=h.bad h0;subst hq;refine⟨h.toks,?_,⟨cur,(Below.heap_setCell _ _ _ _ h.ne).trans k1,k2⟩,h.ne,h.lt,h.cap,h.good,h.bad⟩;rw[heap_set h.rd,show(ts.length:Int)-1=(pl:Int) by omega];simp
def PR(b tb cap te:Nat)(ts:List Tk)(w:World)(s:PS):Prop:=∃pl,Gf b tb cap te ts w s pl
theorem PR.below(h:PR b tb cap te ts w s)(hb:Below w.heap.size w w'):PR b tb cap te ts w' s:=by
 obtain⟨pl,h⟩:=h;exact⟨pl,h.below hb⟩
theorem PR.keep(h:PR b tb cap te ts w s)(h1:w'.heap[b]?=w.heap[b]?)(h2:w'.heap[tb]?=w.heap[tb]?):PR b tb cap te ts w' s:=by
 obtain⟨pl,h⟩:=h;exact⟨pl,h.of_heap h1 h2⟩
theorem PR.alloc(h:PR b tb cap te ts w s)(o:Obj):PR b tb cap te ts (w.alloc o) s:=h.below ((Below.refl _ _).alloc (Nat.le_refl _) _)
theorem PR.drew(h:PR b tb cap te ts w s):PR b tb cap te ts w.drew s:=h.keep rfl rfl
theorem PR.lt(h:PR b tb cap te ts w s):b<w.heap.size/\tb<w.heap.size/\tb≠b:=by
 obtain⟨pl,h⟩:=h;exact⟨A6 h.rd,h.Sl,h.ne⟩
theorem PR.Rn(h:PR b tb cap te ts w s):kT s<=40:=by
 obtain⟨pl,h⟩:=h;exact h.Rn
theorem PR.other(h:PR b tb cap te ts w s){p:Addr}(h1:b≠p.block)(h2:tb≠p.block)(u:Value):PR b tb cap te ts (w.setCell p u) s:=
 h.keep (Below.heap_setCell _ _ _ _ h1) (Below.heap_setCell _ _ _ _ h2)
theorem PR.Mi(h:PR b tb cap te ts w s)(h0:s.bad≠0):s.ts=[J0]:=by
 obtain⟨pl,h⟩:=h;exact(h.bad h0).1
theorem PR.A8h(h:PR b tb cap te ts w s):s.bad<=100000:=by
 obtain⟨pl,h⟩:=h;by_cases h0:s.bad=0
 ·omega
 ·exact(h.bad h0).2.1
theorem PR.Gv(h:PR b tb cap te ts w s)(hk:kT s≠0):s.bad=0:=by
 obtain⟨pl,h⟩:=h;exact(h.Gv hk).1
theorem PR.lines(h:PR b tb cap te ts w s)(h0:s.bad=0):1<=(An s).line/\(An s).line<=100000:=by
 obtain⟨pl,h⟩:=h;rw[h.hd h0];have:=h.toks.line _ (List.getElem_mem h.lt);exact⟨this.1,this.2.1⟩
end
section
set_option maxRecDepth 100000
open Go.RowKit
variable {b tb cap te:Nat}{ts:List Tk}{w:World}{s:PS}
theorem De(h:PR b tb cap te ts w s) :
  Calls Tryz.prog 130 #[.pointer (some ⟨b,0,none⟩)] w fun e w'=>e=.returned (.int .i64 (kT s:Nat))/\PR b tb cap te ts w' s/\Below w.heap.size w w':=by
 obtain⟨pl,h⟩:=h;have c0:=A7 h.rd 0 _ rfl;have c1:=A7 h.rd 1 _ rfl;have lb:=A6 h.rd;have lt:=h.Sl;have hlt:=h.lt;have d0:=h.Qw pl 0 hlt z4sa;rw[Mx]at d0;simp only[List.getElem?_cons_zero,Nat.add_zero]at d0;rw[←h.kd]at d0;have hfew:=h.toks.Bz;have hcap:=h.cap;have HH:=A0 h;clear h;go_enter Tryz.func130,Tryz.ntmps130;go_wp2;go_quiet (fail)
 go_wp2;go_ret;exact⟨rfl,⟨pl,HH.o.of_heap rfl rfl⟩,⟨rfl,rfl,rfl,Nat.le_refl _,fun _ _=>rfl⟩⟩
def Vc(s:PS)(ln nn:Int)(S:List UInt8):Prop:=s.bad=0->ln=(An s).line/\S=(An s).s/\nn=(An s).n
theorem Hl(h:PR b tb cap te ts w s) :
  Calls Tryz.prog 188 #[.pointer (some ⟨b,0,none⟩)] w fun e w'=>∃ln nn S,e=.returned (.agg #[.int .i64 (kT s:Nat),.int .i64 ln,.string ⟨S.toArray⟩,.int .i64 nn])/\Vc s ln nn S/\PR b tb cap te ts w' (Aj s)/\A5 b w w':=by
 obtain⟨pl,h⟩:=h;have c0:=A7 h.rd 0 _ rfl;have c1:=A7 h.rd 1 _ rfl;have fz:=Ci h.rd;have lb:=A6 h.rd;have lt:=h.Sl;have hlt:=h.lt;have d0:=h.Qw pl 0 hlt z4sa;have d1:=h.Qw pl 1 hlt z4sa;have d2:=h.Qw pl 2 hlt z4sa;have d3:=h.Qw pl 3 hlt z4sa;rw[Mx]at d0 d1 d2 d3;simp only[List.getElem?_cons_zero,List.getElem?_cons_succ,Nat.add_zero]at d0 d1 d2 d3;rw[←h.kd]at d0;have hfew:=h.toks.Bz;have hcap:=h.cap;have HTk:Hid (Vc s (ts[pl].line:Nat) ts[pl].n ts[pl].s):=fun h0=>by rw[h.hd h0];exact⟨rfl,rfl,rfl⟩
 have HH:=A0 h;have hne:=h.ne;clear h;generalize ts[pl].line=ln at *;generalize ts[pl].s=S at *;generalize ts[pl].n=nn at *;by_cases hk:kT s=0
 ·have t:((kT s:Int) !=0)=false:=by rw[hk];rfl
  have HE:Hid (Aj s=s):=by show _=_;unfold Aj;rw[if_pos hk]
  clear hk;go_enter Tryz.func188,Tryz.ntmps188;go_wp2;go_region
  all_goals go_wp2
  all_goals refine bodyPost_ret (v:=.agg #[.int .i64 (kT s:Nat),.int .i64 (ln:Nat),.string ⟨S.toArray⟩,.int .i64 nn]) (by simp[results,Tryz.results188,go_sem]) rfl ⟨_,_,_,rfl,HTk.o,?_,?_⟩
  all_goals first
   | exact((((PR.alloc (PR.alloc ⟨pl,HE.o.symm ▸ HH.o⟩ _) _)).drew))
   | exact(((A5.refl b w).alloc _).alloc _).drew
 ·have t:((kT s:Int) !=0)=true:=by simpa using hk
  have HK:=A0 hk;clear hk;go_enter Tryz.func188,Tryz.ntmps188;go_wp2;go_region
  all_goals go_wp2
  all_goals refine bodyPost_ret (v:=.agg #[.int .i64 (kT s:Nat),.int .i64 (ln:Nat),.string ⟨S.toArray⟩,.int .i64 nn]) (by simp[results,Tryz.results188,go_sem]) rfl ⟨_,_,_,rfl,HTk.o,?_,?_⟩
  all_goals first
   | exact((((PR.alloc (PR.alloc ⟨pl+1,HH.o.move HK.o _ rfl⟩ _) _)).drew))
   | exact(((A5.set (p:=⟨b,1,none⟩) (A5.refl b w) (.inl rfl) _).alloc _).alloc _).drew
theorem A0m(h:PR b tb cap te ts w s) :
  Calls Tryz.prog 230 #[.pointer (some ⟨b,0,none⟩)] w fun e w'=>e=.returned (.tuple #[])/\PR b tb cap te ts w' (Dh s)/\A5 b w w':=by
 obtain⟨pl,h⟩:=h;have c0:=A7 h.rd 0 _ rfl;have c1:=A7 h.rd 1 _ rfl;have c2:=A7 h.rd 2 _ rfl;have c3:=A7 h.rd 3 _ rfl;have fz:=Ci h.rd;have lb:=A6 h.rd;have lt:=h.Sl;have hlt:=h.lt;have d1:=h.Qw pl 1 hlt z4sa;rw[Mx]at d1;simp only[List.getElem?_cons_zero,List.getElem?_cons_succ]at d1;have hfew:=h.toks.Bz;have hcap:=h.cap;have HH:=A0 h;have hne:=h.ne;by_cases h0:s.bad=0
 ·have HD:Hid (ts[pl].line=(An s).line):=by show _=_;rw[h.hd h0]
  have HB:=A0 (fun(w1:World) (e:w1.heap=w.heap)=>(h.of_heap (w':=w1) (by rw[e]) (by rw[e])).failed h0 _ rfl _ HD.o);replace c2:w.cell? ⟨b,2,none⟩=some (.int .i64 0):=by rw[c2,h0];rfl
  clear h h0;generalize ts[pl].line=ln at *;go_enter Tryz.func230,Tryz.ntmps230;go_wp2;go_region
  all_goals go_wp2
  all_goals go_end0
  all_goals exact⟨rfl,PR.drew ⟨_,HB.o w rfl⟩,(A5.set (p:=⟨b,1,none⟩) (A5.set (p:=⟨b,3,none⟩) (A5.set (p:=⟨b,2,none⟩) (A5.refl b w) (.inl rfl) _) (.inl rfl) _) (.inl rfl) _).drew⟩
 ·have h2:O4 s.bad=2:=by unfold O4;rw[if_neg h0]
  replace c2:w.cell? ⟨b,2,none⟩=some (.int .i64 2):=by rw[c2];show some (Value.int .i64 ((O4 s.bad:Nat):Int))=_;rw[h2];rfl
  have HF:Hid (Dh s=s):=by show _=_;unfold Dh;rw[if_neg h0]
  have HB:=A0 (h.stay h0 _ rfl);clear h h0 h2;go_enter Tryz.func230,Tryz.ntmps230;go_wp2;go_end0;exact⟨rfl,⟨pl,by rw[HF.o];exact HB.o⟩,A5.set (p:=⟨b,1,none⟩) (A5.refl b w) (.inl rfl) _⟩
theorem Am5{s:PS}(h:kT s=0):Aj s=s:=by unfold Aj;rw[if_pos h]
theorem Ach(s:PS)(h:s.bad≠0->s.ts=[J0]):kT (Dh s)=0:=by
 unfold Dh;split
 ·rfl
 ·rename_i h0;unfold kT An;rw[h h0];rfl
theorem J8(h:PR b tb cap te ts w s)(k:Nat) :
  Calls Tryz.prog 182 #[.pointer (some ⟨b,0,none⟩),.int .i64 (k:Nat)] w fun e w'=>∃kk ln nn S,e=.returned (.agg #[.int .i64 kk,.int .i64 ln,.string ⟨S.toArray⟩,.int .i64 nn])/\((Aw k s).bad=0->Vc s ln nn S/\kT s=k)/\PR b tb cap te ts w' (Aw k s)/\A5 b w w':=by
 have HH:=A0 h;have hk40:=h.Rn;have HSt:Hid (s.bad≠0->s.ts=[J0]):=h.Mi;have HFb:Hid (s.bad=0->1<=(An s).line):=fun e=>(h.lines e).1;clear h;by_cases hc:kT s=k
 ·have t:((kT s:Int) !=(k:Int))=false:=by rw[hc];simp
  have HW:Hid (Aw k s=Aj s):=by show _=_;unfold Aw;rw[if_pos hc]
  have HC:=A0 hc;clear hc;go_enter Tryz.func182,Tryz.ntmps182;go_wp2_with fail
  refine(De (HH.o.alloc _)).mono ?_;rintro e w1 ⟨rfl,h1,A1⟩;have H1:=A0 h1;have hR:=Fu A1 (heap_alloc_new w (.cells #[.int .i64 0,.int .i64 0,.string ⟨#[]⟩,.int .i64 0] 198));have HR:=A0 hR;have Df:=A6 hR;have Av:Hid (A5 b w w1):=((A5.refl b w).alloc _).trans (Below.only A1);have lb:=HH.o.lt;clear h1 A1 hR;go_wp2_with fail
  refine(Hl H1.o).mono ?_;rintro e w2 ⟨ln,nn,S,rfl,htk,h2,B1⟩;have Eg:=B1.blk HR.o z4sa;obtain⟨x0,x1,x2,x3,fx,lx⟩:=Dt Eg;have B7:Hid (A5 b w w2):=Av.o.trans B1;have H2:=A0 h2;have HTk:=A0 htk;clear h2 htk Eg B1;go_wp2;refine bodyPost_ret (v:=.agg #[.int .i64 (kT s:Nat),.int .i64 ln,.string ⟨S.toArray⟩,.int .i64 nn]) (by simp[results,Tryz.results182,go_sem,x0,x1,x2,x3]) rfl ?_;rw[HW.o];refine⟨_,_,_,_,rfl,fun _=>⟨HTk.o,HC.o⟩,?_,A5.Ih B7.o (Nat.le_refl _) _ _ _ _⟩;exact PR.keep H2.o (Hj z4sa _ _ _ _) (Hj z4sa _ _ _ _)
 ·have t:((kT s:Int) !=(k:Int))=true:=by simp;omega
  have HW:Hid (Aw k s=Dh s):=by show _=_;unfold Aw;rw[if_neg hc]
  have HZ:Hid (Aj (Dh s)=Dh s):=Am5 (Ach s HSt.o);have HN:Hid ((Dh s).bad≠0):=by
   show _≠_;unfold Dh;split
   ·have:=HFb.o (by assumption);simp only;omega
   ·assumption
  clear hc;go_enter Tryz.func182,Tryz.ntmps182;go_wp2_with fail
  refine(De (HH.o.alloc _)).mono ?_;rintro e w1 ⟨rfl,h1,A1⟩;have H1:=A0 h1;have hR:=Fu A1 (heap_alloc_new w (.cells #[.int .i64 0,.int .i64 0,.string ⟨#[]⟩,.int .i64 0] 198));have HR:=A0 hR;have Df:=A6 hR;have Av:Hid (A5 b w w1):=((A5.refl b w).alloc _).trans (Below.only A1);have lb:=HH.o.lt;clear h1 A1 hR;go_wp2_with fail
  refine(A0m H1.o).mono ?_;rintro e w3 ⟨rfl,h3,Cj⟩;have Eu:=A0 (Cj.blk HR.o z4sa);have Cd:Hid (A5 b w w3):=Av.o.trans Cj;have H3:=A0 h3;clear h3 Cj;go_wp2_with fail
  refine(Hl H3.o).mono ?_;rintro e w2 ⟨ln,nn,S,rfl,htk,h2,B1⟩;rw[HZ.o]at h2;have Eg:=B1.blk Eu.o z4sa;obtain⟨x0,x1,x2,x3,fx,lx⟩:=Dt Eg;have B7:Hid (A5 b w w2):=Cd.o.trans B1;have H2:=A0 h2;clear h2 htk Eg B1;go_wp2;refine bodyPost_ret (v:=.agg #[.int .i64 (kT (Dh s):Nat),.int .i64 ln,.string ⟨S.toArray⟩,.int .i64 nn]) (by simp[results,Tryz.results182,go_sem,x0,x1,x2,x3]) rfl ?_;rw[HW.o];refine⟨_,_,_,_,rfl,fun e=>absurd e HN.o,?_,A5.Ih B7.o (Nat.le_refl _) _ _ _ _⟩;exact PR.keep H2.o (Hj z4sa _ _ _ _) (Hj z4sa _ _ _ _)
theorem Mq(h:PR b tb cap te ts w s)(k:Nat) :
  Calls Tryz.prog 231 #[.pointer (some ⟨b,0,none⟩),.int .i64 (k:Nat)] w fun e w'=>e=.returned (.bool (kT s==k))/\PR b tb cap te ts w' (I5 k s)/\A5 b w w':=by
 have HH:=A0 h;have hk40:=h.Rn;clear h;by_cases hc:kT s=k
 ·have t:((kT s:Int) !=(k:Int))=false:=by rw[hc];simp
  have HW:Hid (I5 k s=Aj s):=by show _=_;unfold I5;rw[if_pos hc]
  have HC:Hid ((kT s==k)=true):=by show _=_;simpa using hc
  clear hc;go_enter Tryz.func231,Tryz.ntmps231;go_wp2_with fail
  refine(De HH.o).mono ?_;rintro e w1 ⟨rfl,h1,A1⟩;have H1:=A0 h1;have Av:Hid (A5 b w w1):=Below.only A1;clear h1 A1;go_wp2_with fail
  refine(Hl H1.o).mono ?_;rintro e w2 ⟨ln,nn,S,rfl,htk,h2,B1⟩;have B7:Hid (A5 b w w2):=Av.o.trans B1;have H2:=A0 h2;clear h2 htk B1;go_wp2;go_ret;exact⟨S9 HC.o.symm,by rw[HW.o];exact H2.o,B7.o⟩
 ·have t:((kT s:Int) !=(k:Int))=true:=by simp;omega
  have HW:Hid (I5 k s=s):=by show _=_;unfold I5;rw[if_neg hc]
  have HC:Hid ((kT s==k)=false):=by show _=_;simpa using hc
  clear hc;go_enter Tryz.func231,Tryz.ntmps231;go_wp2_with fail
  refine(De HH.o).mono ?_;rintro e w1 ⟨rfl,h1,A1⟩;have H1:=A0 h1;have Av:Hid (A5 b w w1):=Below.only A1;clear h1 A1;go_wp2;go_ret;exact⟨S9 HC.o.symm,by rw[HW.o];exact H1.o,Av.o⟩
theorem Tm(h:PR b tb cap te ts w s) :
  Calls Tryz.prog 183 #[.pointer (some ⟨b,0,none⟩)] w fun e w'=>∃ln S,e=.returned (.agg #[.int .i64 ln,.string ⟨S.toArray⟩])/\((Aw 1 s).bad=0->ln=(An s).line/\S=(An s).s)/\PR b tb cap te ts w' (Aw 1 s)/\A5 b w w':=by
 have HH:=A0 h;have lb:=h.lt;have HG:Hid ((Aw 1 s).bad=0->s.bad=0):=by
  intro e;by_cases h0:s.bad=0
  ·exact h0
  ·exfalso;apply h0;have hk:kT s≠1:=by unfold kT An;rw[h.Mi h0];decide
   unfold Aw at e;rw[if_neg hk]at e;unfold Dh at e;rw[if_neg h0]at e;exact e
 clear h;go_enter Tryz.func183,Tryz.ntmps183;go_wp2_with fail
 refine(J8 (HH.o.alloc _) 1).mono ?_;rintro e w1 ⟨kk,ln,nn,S,rfl,htk,h1,Bt⟩;have hR:=Bt.blk (heap_alloc_new w (.cells #[.int .i64 0,.string ⟨#[]⟩] 148)) z4sa;have x0:=A7 hR 0 _ rfl;have x1:=A7 hR 1 _ rfl;have fx:=Ci hR;have lx:=A6 hR;have Av:Hid (A5 b w w1):=((A5.refl b w).alloc _).trans Bt;have H1:=A0 h1;have HTk:=A0 htk;clear h1 htk hR Bt;go_wp2;refine bodyPost_ret (v:=.agg #[.int .i64 ln,.string ⟨S.toArray⟩]) (by simp[results,Tryz.results183,go_sem,x0,x1,lx]) rfl ?_;refine⟨_,_,rfl,fun e=>?_,PR.alloc (PR.keep H1.o ?_ ?_) _,A5.alloc (A5.set (p:=⟨w.heap.size,1,none⟩) (A5.set (p:=⟨w.heap.size,0,none⟩) Av.o (.inr (Nat.le_refl _)) _) (.inr (Nat.le_refl _)) _) _⟩
 ·have:=(HTk.o e).1 (HG.o e);exact⟨this.1,this.2.1⟩
 ·rw[Below.heap_setCell _ _ _ _ (by show b≠w.heap.size;omega),Below.heap_setCell _ _ _ _ (by show b≠w.heap.size;omega)]
 ·rw[Below.heap_setCell _ _ _ _ (by show tb≠w.heap.size;omega),Below.heap_setCell _ _ _ _ (by show tb≠w.heap.size;omega)]
end
section
open Go.RowKit
open Go.Deep (BT)
def Cc(kd:Nat):TypeId:=
 match kd with
 | 1=>220|2=>229|3=>233|4=>233|5=>237|6=>238|7=>301|8=>241
 | 9=>296|10=>304|11=>307|12=>310|13=>244|14=>244
 | 20=>143|21=>145|22=>253|23=>255|24=>257|25=>259|26=>264
 | 27=>265|28=>268|29=>268|30=>270|_=>248
def D8(kd:Nat):TypeId:=
 match kd with
 | 1=>228|2=>232|3=>236|4=>236|5=>450|6=>240|7=>303|8=>243
 | 9=>300|10=>306|11=>309|12=>312|13=>246|14=>246
 | 20=>218|21=>152|22=>314|23=>317|24=>318|25=>367|26=>368
 | 27=>267|28=>322|29=>322|30=>272|_=>295
def Gd(n:Nat):Value:=.int .i64 (n:Nat)
def L9(s:List UInt8):Value:=.string ⟨s.toArray⟩
def C3(b:Nat):Value:=.pointer (some ⟨b,0,none⟩)
def Kq(ps:List (Nat×List UInt8)):List Value:=ps.flatMap fun p=>[Gd p.1,L9 p.2]
def Cm(D:Nat->Prop)(w:World)(l:A3)(cs:Array Value)(ks:List Value):Prop:=
 match l.kd with
 | 1=>cs=#[.int .i64 l.n]/\ks=[]
 | 2=>cs=#[L9 l.s]/\ks=[]
 | 3=>cs=#[.bool true]/\ks=[]
 | 4=>cs=#[.bool false]/\ks=[]
 | 5=>cs=#[]/\ks=[]
 | 6=>cs=#[Gd l.line,L9 l.s]/\ks=[]
 | 7=>∃sl,cs=#[Gd l.line,L9 l.s,sl]/\Cr D w 150 1 sl ks.length ks
 | 8=>∃a,cs=#[a]/\ks=[a]
 | 9=>∃sl,cs=#[Gd l.line,sl]/\Cr D w 150 1 sl ks.length ks
 | 10=>∃a,cs=#[Gd l.line,a]/\ks=[a]
 | 11=>∃a b,cs=#[Gd l.line,a,b]/\ks=[a,b]
 | 12=>∃a b,cs=#[Gd l.line,a,b]/\ks=[a,b]
 | 13=>∃a,cs=#[Gd l.line,.int .i64 28,a]/\ks=[a]
 | 14=>∃a,cs=#[Gd l.line,.int .i64 35,a]/\ks=[a]
 | 20=>∃ps sl,cs=#[Gd l.line,L9 l.s,ps,sl]/\Cr D w 142 1 sl ks.length ks/\Cr D w 148 2 ps l.ps.length (Kq l.ps)
 | 21=>∃a,cs=#[Gd l.line,L9 l.s,a]/\ks=[a]
 | 22=>∃t x a1 n1 c1 a2 n2 c2,cs=#[Gd l.line,.iface t x,.slice a1 n1 c1,.slice a2 n2 c2]/\((ks=[.iface t x,.slice a1 n1 c1]/\Value.slice a2 n2 c2=.slice none 0 0)\/ks=[.iface t x,.slice a1 n1 c1,.slice a2 n2 c2])
 | 23=>∃t x a1 n1 c1,cs=#[Gd l.line,.iface t x,.slice a1 n1 c1]/\ks=[.iface t x,.slice a1 n1 c1]
 | 24=>∃a,cs=#[Gd l.line,a]/\((ks=[]/\a=.nilIface)\/ks=[a])
 | 25=>cs=#[Gd l.line]/\ks=[]
 | 26=>cs=#[Gd l.line]/\ks=[]
 | 27=>∃a,cs=#[Gd l.line,a]/\ks=[a]
 | 28=>∃b2 a,cs=#[.iface 238 (C3 b2),a]/\D b2/\w.heap[b2]?=some (.cells #[Gd l.line,L9 l.s] 240 (0,0))/\ks=[a]
 | 29=>∃b2 o p a,cs=#[.iface 310 (C3 b2),a]/\D b2/\w.heap[b2]?=some (.cells #[Gd l.line,o,p] 312 (0,0))/\ks=[o,p,a]
 | 30=>∃a,cs=#[a]/\ks=[a]
 | kd=>∃a b,cs=#[Gd l.line,.int .i64 ((kd-100:Nat):Nat),a,b]/\ks=[a,b]
def Bh(D:Nat->Prop)(w:World)(l:A3)(v:Value)(ks:List Value):Prop:=
 if l.kd=31\/l.kd=32 then(∃a n c,v=.slice a n c)/\Cr D w 142 1 v ks.length ks
 else ∃b cs,v=.iface (Cc l.kd) (C3 b)/\D b/\w.heap[b]?=some (.cells cs (D8 l.kd) (0,0))/\Cm D w l cs ks
def Al(D:Nat->Prop)(w:World):BT A3->List Value->Prop
 | .nil,vs=>vs=[]
 | .node _ _ l ch sib,vs=>∃v ks rest,vs=v::rest/\Bh D w l v ks/\Al D w ch ks/\Al D w sib rest
variable {D D':Nat->Prop} {w w':World}
theorem Cm.keep(hk:∀g,D g->g<w.heap.size->w'.heap[g]?=w.heap[g]?/\D' g){l:A3}{cs:Array Value}{ks:List Value}(h:Cm D w l cs ks):Cm D' w' l cs ks:=by
 unfold Cm at h ⊢;split at h <;> try exact h
 ·obtain⟨sl,e,o⟩:=h;exact⟨sl,e,o.keep hk⟩
 ·obtain⟨sl,e,o⟩:=h;exact⟨sl,e,o.keep hk⟩
 ·obtain⟨ps,sl,e,o,p⟩:=h;exact⟨ps,sl,e,o.keep hk,p.keep hk⟩
 ·obtain⟨b2,a,e,d,hb,k⟩:=h;exact⟨b2,a,e,(hk _ d (A6 hb)).2,(hk _ d (A6 hb)).1.trans hb,k⟩
 ·obtain⟨b2,o,p,a,e,d,hb,k⟩:=h;exact⟨b2,o,p,a,e,(hk _ d (A6 hb)).2,(hk _ d (A6 hb)).1.trans hb,k⟩
theorem Bh.keep(hk:∀g,D g->g<w.heap.size->w'.heap[g]?=w.heap[g]?/\D' g){l:A3}{v:Value}{ks:List Value}(h:Bh D w l v ks):Bh D' w' l v ks:=by
 unfold Bh at h ⊢;split at h
 ·rename_i h1;rw[if_pos h1];exact⟨h.1,h.2.keep hk⟩
 ·rename_i h1;rw[if_neg h1];obtain⟨b,cs,e,d,hb,k⟩:=h;exact⟨b,cs,e,(hk _ d (A6 hb)).2,(hk _ d (A6 hb)).1.trans hb,k.keep hk⟩
theorem Al.keep(hk:∀g,D g->g<w.heap.size->w'.heap[g]?=w.heap[g]?/\D' g):∀(f:BT A3) (vs:List Value),Al D w f vs->Al D' w' f vs:=by
 intro f;induction f with
 | nil=>intro vs h;exact h
 | node x y l ch sib Cb Bn=>
  intro vs h;obtain⟨v,ks,rest,rfl,h1,h2,h3⟩:=h;exact⟨v,ks,rest,rfl,h1.keep hk,Cb _ h2,Bn _ h3⟩
theorem Al.app:∀(f g:BT A3) (c1 c2:List Value),Al D w f c1->Al D w g c2->Al D w (Co f g) (c1++c2):=by
 intro f;induction f with
 | nil=>intro g c1 c2 h1 h2;rw[Al]at h1;subst h1;exact h2
 | node x y l ch sib Cb Bn=>
  intro g c1 c2 h1 h2;obtain⟨v,ks,rest,rfl,k1,k2,k3⟩:=h1;rw[Co];exact⟨v,ks,rest++c2,rfl,k1,k2,Bn g rest c2 k3 h2⟩
theorem Al.len:∀(f:BT A3) (vs:List Value),Al D w f vs->vs.length=Ak f:=by
 intro f;induction f with
 | nil=>intro vs h;rw[Al]at h;subst h;rfl
 | node x y l ch sib Cb Bn=>
  intro vs h;obtain⟨v,ks,rest,rfl,k1,k2,k3⟩:=h;rw[Ak,List.length_cons,Bn rest k3]
theorem Al.one{l:A3}{ch:BT A3}{v:Value}{ks:List Value}(h1:Bh D w l v ks)(h2:Al D w ch ks):Al D w (nd l ch) [v]:=⟨v,ks,[],rfl,h1,h2,rfl⟩
theorem Bh.new{l:A3}{b:Nat}{cs:Array Value}{ks:List Value}(h:¬(l.kd=31\/l.kd=32))(hD:D b)(hb:w.heap[b]?=some (.cells cs (D8 l.kd) (0,0)))(hl:Cm D w l cs ks):Bh D w l (.iface (Cc l.kd) (C3 b)) ks:=by
 unfold Bh;rw[if_neg h];exact⟨b,cs,rfl,hD,hb,hl⟩
theorem Al.only{b n:Nat}(hb:b<n)(ho:A5 b w w'){f:BT A3}{vs:List Value}(h:Al (fun g=>n<=g) w f vs):Al (fun g=>n<=g) w' f vs:=
 Al.keep (fun g hg hl=>⟨ho.block g hl z4sa,hg⟩) _ _ h
theorem Al.weak{n m:Nat}(hm:m<=n){f:BT A3}{vs:List Value}(h:Al (fun g=>n<=g) w f vs):Al (fun g=>m<=g) w f vs:=
 Al.keep (fun g hg _=>⟨rfl,by omega⟩) _ _ h
theorem Al.later{b n m:Nat}(hm:m<=n)(hb:b<n)(ho:A5 b w w'){f:BT A3}{vs:List Value}(h:Al (fun g=>n<=g) w f vs):Al (fun g=>m<=g) w' f vs:=(h.only hb ho).weak hm
def Hr(b tb cap te:Nat)(ts:List Tk)(w:World)(r:BT A3×PS)(e:Ending)(w':World):Prop:=
 ∃t x,e=.returned (.iface t x)/\PR b tb cap te ts w' r.2/\A5 b w w'/\(r.2.bad=0->Al (fun g=>w.heap.size<=g) w' r.1 [.iface t x])
def Sw(T:TypeId)(b tb cap te:Nat)(ts:List Tk)(w:World)(r:BT A3×PS)(e:Ending)(w':World):Prop:=
 ∃va vn vc cs,e=.returned (.slice va vn vc)/\Cr (fun g=>w.heap.size<=g) w' T 1 (.slice va vn vc) cs.length cs/\PR b tb cap te ts w' r.2/\A5 b w w'/\(r.2.bad=0->Al (fun g=>w.heap.size<=g) w' r.1 cs)
structure Iw (b tb cap te : Nat) (ts : List Tk) (n : Nat) : Prop where
 expr:∀w s a r,a<=6->PR b tb cap te ts w s->Ab n 0 a .nil s=some r->Calls Tryz.prog 232 #[.pointer (some ⟨b,0,none⟩),.int .i64 ((a+1:Nat):Nat)] w (Hr b tb cap te ts w r)
 unary:∀w s r,PR b tb cap te ts w s->Ab n 2 0 .nil s=some r->Calls Tryz.prog 261 #[.pointer (some ⟨b,0,none⟩)] w (Hr b tb cap te ts w r)
 atom:∀w s r,PR b tb cap te ts w s->Ab n 4 0 .nil s=some r->Calls Tryz.prog 296 #[.pointer (some ⟨b,0,none⟩)] w (Hr b tb cap te ts w r)
 list:∀w s a r,PR b tb cap te ts w s->Ab n 5 a .nil s=some r->Calls Tryz.prog 309 #[.pointer (some ⟨b,0,none⟩),.int .i64 (a:Nat)] w (Sw 150 b tb cap te ts w r)
 block:∀w s r,PR b tb cap te ts w s->Ab n 7 0 .nil s=some r->Calls Tryz.prog 185 #[.pointer (some ⟨b,0,none⟩)] w (Sw 142 b tb cap te ts w r)
 stmt:∀w s r,PR b tb cap te ts w s->Ab n 9 0 .nil s=some r->Calls Tryz.prog 132 #[.pointer (some ⟨b,0,none⟩)] w (Hr b tb cap te ts w r)
theorem Hz{b tb cap te:Nat}{ts:List Tk}{w W:World}{r:BT A3×PS}{l:A3}{ch:BT A3}{cs:Array Value}{t tt:TypeId}{ks:List Value}(hr:PR b tb cap te ts W r.2)(ho:A5 b w W)(e1:r.1=nd l ch)(h31:¬(l.kd=31\/l.kd=32))(ht:t=Cc l.kd)(htt:tt=D8 l.kd)
  (hl:r.2.bad=0->Cm (fun g=>w.heap.size<=g) W l cs ks/\Al (fun g=>w.heap.size<=g) W ch ks) :
  Hr b tb cap te ts w r (.returned (.iface t (.pointer (some ⟨W.heap.size,0,none⟩)))) (W.alloc (.cells cs tt)):=by
 subst htt;refine⟨t,_,rfl,hr.alloc _,ho.alloc _,fun h=>?_⟩;rw[e1,ht];obtain⟨h1,h2⟩:=hl h;have hk:∀g,w.heap.size<=g->g<W.heap.size->(W.alloc (.cells cs (D8 l.kd))).heap[g]?=W.heap[g]?/\w.heap.size<=g:=fun g hg hl=>⟨Below.heap_alloc _ _ _ hl,hg⟩;exact Al.one (Bh.new h31 ho.size (heap_alloc_new W _) (h1.keep hk)) (Al.keep hk _ _ h2)
end
section
set_option maxRecDepth 100000
open Go.RowKit
open Go.Deep (BT)
theorem z46a {P:Prop} (h:P:=by
  go_wp2;go_ret;exact⟨rfl,rfl⟩):P:=h
theorem A38(k:Nat)(hk:k<=40)(w:World):Calls Tryz.prog 262 #[.int .i64 (k:Nat)] w fun e w'=>e=.returned (.int .i64 (rowOf k:Nat))/\w'=w:=by
 by_cases hc:k=40\/k=39\/k=27\/k=29\/k=30\/k=31\/k=32\/k=33\/k=34\/k=35\/k=36\/k=37\/k=38
 ·rcases hc with rfl|rfl|rfl|rfl|rfl|rfl|rfl|rfl|rfl|rfl|rfl|rfl|rfl;all_goals
   go_enter Tryz.func262,Tryz.ntmps262;exact z46a
 ·have h0:rowOf k=0:=by
   unfold rowOf;rw[if_neg z4sa,if_neg z4sa,if_neg z4sa,if_neg z4sa,if_neg z4sa,if_neg z4sa]
  have hn:∀c:Int,c=40\/c=39\/c=27\/c=29\/c=30\/c=31\/c=32\/c=33\/c=34\/c=35\/c=36\/c=37\/c=38->((k:Int)==c)=false:=by
   intro c h;rw[beq_eq_false_iff_ne];omega
  have t1:=hn 40 z4sa;have t2:=hn 39 z4sa;have t3:=hn 27 z4sa;have t4:=hn 29 z4sa;have t5:=hn 30 z4sa;have t6:=hn 31 z4sa;have t7:=hn 32 z4sa;have t8:=hn 33 z4sa;have t9:=hn 34 z4sa;have t10:=hn 35 z4sa;have t11:=hn 36 z4sa;have t12:=hn 37 z4sa;have t13:=hn 38 z4sa;clear hn hc;have H0:=A0 h0;clear h0;go_enter Tryz.func262,Tryz.ntmps262;go_wp2;go_ret;exact⟨by rw[H0.o];rfl,rfl⟩
theorem cf0(k n l:Int)(S:ByteArray)(w:World):(Instr.field 198 (.agg #[.int .i64 k,.int .i64 l,.string S,.int .i64 n]) 0).run Tryz.prog w=.ok (.int .i64 k) w:=by kernel_rfl
theorem Le(k n l:Int)(S:ByteArray)(w:World):(Instr.field 198 (.agg #[.int .i64 k,.int .i64 l,.string S,.int .i64 n]) 1).run Tryz.prog w=.ok (.int .i64 l) w:=by kernel_rfl
theorem cf2(k n l:Int)(S:ByteArray)(w:World):(Instr.field 198 (.agg #[.int .i64 k,.int .i64 l,.string S,.int .i64 n]) 2).run Tryz.prog w=.ok (.string S) w:=by kernel_rfl
theorem cf3(k n l:Int)(S:ByteArray)(w:World):(Instr.field 198 (.agg #[.int .i64 k,.int .i64 l,.string S,.int .i64 n]) 3).run Tryz.prog w=.ok (.int .i64 n) w:=by kernel_rfl
theorem Qv(s:PS):(Aj s).bad=s.bad:=by unfold Aj;split <;> rfl
theorem ke{k c:Nat}{d:Int}(hd:(c:Int)=d)(h:k=c):((k:Int)==d)=true:=by subst hd h;simp
theorem kn{k c:Nat}{d:Int}(hd:(c:Int)=d)(h:k≠c):((k:Int)==d)=false:=by subst hd;rw[beq_eq_false_iff_ne];omega
theorem Xe{s:PS}(h:s.bad=0->1<=(An s).line):(Dh s).bad≠0:=by
 unfold Dh;split
 ·have:=h (by assumption);simp only;omega
 ·assumption
theorem z59a {P:Prop} (h:P:=by simp[Au]):P:=h
theorem Aet{b tb cap te:Nat}{ts:List Tk}{n:Nat}(w:World)(s:PS)(r:BT A3×PS)(h6:kT s≠1)(h7:kT s≠18)(h8:kT s≠22)(h9:kT s≠16)(h10:kT s≠17)(hs:PR b tb cap te ts w s)(hp:Ab (n+1) 4 0 .nil s=some r) :
  Calls Tryz.prog 313 #[.pointer (some ⟨b,0,none⟩)] w (Hr b tb cap te ts w r):=by
 have HS:=A0 hs;have hf0:=cf0;have hf2:=cf2;have hf3:=cf3;by_cases h2:kT s=2
 ·have HR:=A0 (A2i h2 hp);have t2:((kT s:Int)==2)=true:=ke (c:=2) rfl h2;clear hp hs h6 h7 h8 h9 h10 h2;go_enter Tryz.func313,Tryz.ntmps313;go_wp2_with fail
  refine(De HS.o).mono ?_;rintro e w1 ⟨rfl,h1,A1⟩;have H1:=A0 h1;have Av:Hid (A5 b w w1):=Below.only A1;clear h1 A1;go_wp2_with fail
  refine(Hl H1.o).mono ?_;rintro e w2 ⟨ln,nn,S,rfl,htk,h2,B1⟩;have B7:Hid (A5 b w w2):=Av.o.trans B1;have H2:=A0 h2;have HTk:=A0 htk;clear h2 htk B1;go_wp2;go_ret;rw[HR.o];refine Hz (l:=⟨1,(An s).line,[],(An s).n,[]⟩) (ch:=.nil) (ks:=[]) H2.o B7.o rfl z4wa rfl rfl (fun hb=>⟨⟨?_,rfl⟩,rfl⟩);rw[Qv]at hb;rw[(HTk.o hb).2.2]
 by_cases h3:kT s=3
 ·have HR:=A0 (A2t h3 hp);have t2:((kT s:Int)==2)=false:=kn (c:=2) rfl h2;have t3:((kT s:Int)==3)=true:=ke (c:=3) rfl h3;clear hp hs h6 h7 h8 h9 h10 h3;go_enter Tryz.func313,Tryz.ntmps313;go_wp2_with fail
  refine(De HS.o).mono ?_;rintro e w1 ⟨rfl,h1,A1⟩;have H1:=A0 h1;have Av:Hid (A5 b w w1):=Below.only A1;clear h1 A1;go_wp2_with fail
  refine(Hl H1.o).mono ?_;rintro e w2 ⟨ln,nn,S,rfl,htk,h2,B1⟩;have B7:Hid (A5 b w w2):=Av.o.trans B1;have H2:=A0 h2;have HTk:=A0 htk;clear h2 htk B1;go_wp2;go_ret;rw[HR.o];refine Hz (l:=⟨2,(An s).line,(An s).s,0,[]⟩) (ch:=.nil) (ks:=[]) H2.o B7.o rfl z4wa rfl rfl (fun hb=>⟨⟨?_,rfl⟩,rfl⟩);rw[Qv]at hb;rw[(HTk.o hb).2.1];rfl
 by_cases h13:kT s=13
 ·have HR:=A0 (A2u h13 hp);have t2:((kT s:Int)==2)=false:=kn (c:=2) rfl h2;have t3:((kT s:Int)==3)=false:=kn (c:=3) rfl h3;have t13:((kT s:Int)==13)=true:=ke (c:=13) rfl h13;clear hp hs h6 h7 h8 h9 h10 h13;go_enter Tryz.func313,Tryz.ntmps313;go_wp2_with fail
  refine(De HS.o).mono ?_;rintro e w1 ⟨rfl,h1,A1⟩;have H1:=A0 h1;have Av:Hid (A5 b w w1):=Below.only A1;clear h1 A1;go_wp2_with fail
  refine(Hl H1.o).mono ?_;rintro e w2 ⟨ln,nn,S,rfl,htk,h2,B1⟩;have B7:Hid (A5 b w w2):=Av.o.trans B1;have H2:=A0 h2;have HTk:=A0 htk;clear h2 htk B1;go_wp2;go_ret;rw[HR.o];refine Hz (l:=Au 3 (An s).line) (ch:=.nil) (ks:=[]) H2.o B7.o rfl z59a rfl rfl (fun hb=>⟨⟨?_,rfl⟩,rfl⟩);rfl
 by_cases h14:kT s=14
 ·have HR:=A0 (A2e h14 hp);have t2:((kT s:Int)==2)=false:=kn (c:=2) rfl h2;have t3:((kT s:Int)==3)=false:=kn (c:=3) rfl h3;have t13:((kT s:Int)==13)=false:=kn (c:=13) rfl h13;have t14:((kT s:Int)==14)=true:=ke (c:=14) rfl h14;clear h13;clear hp hs h6 h7 h8 h9 h10 h14;go_enter Tryz.func313,Tryz.ntmps313;go_wp2_with fail
  refine(De HS.o).mono ?_;rintro e w1 ⟨rfl,h1,A1⟩;have H1:=A0 h1;have Av:Hid (A5 b w w1):=Below.only A1;clear h1 A1;go_wp2_with fail
  refine(Hl H1.o).mono ?_;rintro e w2 ⟨ln,nn,S,rfl,htk,h2,B1⟩;have B7:Hid (A5 b w w2):=Av.o.trans B1;have H2:=A0 h2;have HTk:=A0 htk;clear h2 htk B1;go_wp2;go_ret;rw[HR.o];refine Hz (l:=Au 4 (An s).line) (ch:=.nil) (ks:=[]) H2.o B7.o rfl z59a rfl rfl (fun hb=>⟨⟨?_,rfl⟩,rfl⟩);rfl
 by_cases h15:kT s=15
 ·have HR:=A0 (A2r h15 hp);have t2:((kT s:Int)==2)=false:=kn (c:=2) rfl h2;have t3:((kT s:Int)==3)=false:=kn (c:=3) rfl h3;have t13:((kT s:Int)==13)=false:=kn (c:=13) rfl h13;have t14:((kT s:Int)==14)=false:=kn (c:=14) rfl h14;have t15:((kT s:Int)==15)=true:=ke (c:=15) rfl h15;clear hp hs h6 h7 h8 h9 h10 h15;go_enter Tryz.func313,Tryz.ntmps313;go_wp2_with fail
  refine(De HS.o).mono ?_;rintro e w1 ⟨rfl,h1,A1⟩;have H1:=A0 h1;have Av:Hid (A5 b w w1):=Below.only A1;clear h1 A1;go_wp2_with fail
  refine(Hl H1.o).mono ?_;rintro e w2 ⟨ln,nn,S,rfl,htk,h2,B1⟩;have B7:Hid (A5 b w w2):=Av.o.trans B1;have H2:=A0 h2;have HTk:=A0 htk;clear h2 htk B1;go_wp2;go_ret;rw[HR.o];refine Hz (l:=Au 5 (An s).line) (ch:=.nil) (ks:=[]) H2.o B7.o rfl z59a rfl rfl (fun hb=>⟨⟨?_,rfl⟩,rfl⟩);rfl
 have HR:=A0 (Ye h2 h3 h13 h14 h15 h6 h7 h8 h9 h10 hp);have t2:((kT s:Int)==2)=false:=kn (c:=2) rfl h2;have t3:((kT s:Int)==3)=false:=kn (c:=3) rfl h3;have t13:((kT s:Int)==13)=false:=kn (c:=13) rfl h13;have t14:((kT s:Int)==14)=false:=kn (c:=14) rfl h14;have t15:((kT s:Int)==15)=false:=kn (c:=15) rfl h15;have HFb:Hid (s.bad=0->1<=(An s).line):=fun e=>(hs.lines e).1;clear hp hs h6 h7 h8 h9 h10 h2 h3 h13 h14 h15;go_enter Tryz.func313,Tryz.ntmps313;go_wp2_with fail
 refine(De HS.o).mono ?_;rintro e w1 ⟨rfl,h1,A1⟩;have H1:=A0 h1;have Av:Hid (A5 b w w1):=Below.only A1;clear h1 A1;go_wp2_with fail
 refine(A0m H1.o).mono ?_;rintro e w2 ⟨rfl,h2,B1⟩;have B7:Hid (A5 b w w2):=Av.o.trans B1;have H2:=A0 h2;clear h2 B1;go_wp2;go_ret;rw[HR.o];refine⟨_,_,rfl,PR.alloc H2.o _,B7.o.alloc _,fun hb=>absurd hb ?_⟩;show(Dh s).bad≠0;exact Xe HFb.o
end
end Go.Proofs.YtjdlndhfaaolaaaGreatDoor
