import Derived.BigQuiet
import Derived.Deep.RegionLaw
import Derived.StillTailTactics
import Derived.Test.YtjdlndhfaaolaaaGreatDoorY09
set_option maxHeartbeats 20000000
set_option linter.defProp false
namespace Go.Proofs.YtjdlndhfaaolaaaGreatDoor
section
open Go.RowKit
variable {P:Program}{ops:Array Oper}{o:Oper}{a:Act}{K:Act->World->Prop}{Q:Exit->Act->World->Prop}{E:Prop}
def Axr(W:World)(cs:Array Value)(e:TypeId)(hgd:o.guard=none)(s x:Operand)(t:TypeId)
  (ho:o.op=.call { callee:=.builtin .append,args:=#[s,x],argTypes:=#[t,t] })
  (base size bytes:Nat) (z:Value) (ht:P.underlying t=some (.slice e)) (hinfo:(P.info? e).map (fun i=>(i.zero,i.size,i.bytes))=some (some z,size,bytes))
  (hzs:z.cells.size=size) (hsz:0<size)
  (v:Value) (n:Nat) (xs:List Value) (hs:a.eval s=v) (hx:a.eval x=.slice (some ⟨W.heap.size,0,none⟩) 1 1)
  (hown:W.ownsRow base e size v n xs) (hl:cs.size=size) (h1:∀u∈cs.toList,u.oneCell'=true)
  (hn:n<=1000000) (hby:bytes<=1000) (hbase:base<=W.heap.size)
  (h:∀g cap w',w'.ownsRow base e size (.slice (some ⟨g,0,none⟩) (n+1) cap) (n+1) (xs++cs.toList)->W.grownBy w' v.ownBlock->(v.ownBlock=some g\/g=W.heap.size+1)->g<w'.heap.size->
   K (a.put o.dst (.slice (some ⟨g,0,none⟩) (n+1) cap)) w') :
  if Region.wanted o (yielded ops a.tmps)=true then Oper.wp P o a (W.alloc (.cells cs e)) K Q else E:=by
 obtain⟨i,hi,I6,Cu,Dg⟩:=Qr hinfo;have hb:=Z7 (show n+1<=1000001 by omega) hby;refine A38 (P:=P) (W.alloc (.cells cs e)) hgd s x t ho base e i z size bytes ht hi I6 Cu Dg hzs hsz v n xs hs (hown.alloc _) ⟨W.heap.size,0,none⟩ 1 1 cs.toList hx (by simp[hl])
  (Wz (Bp W _)) h1 z4ma z64a z4ma z4qa (W.heap.size+1) z4ra ?_
 intro g cap w' k1 k2 k3 k4;exact h g cap w' k1 (Oh (Oo W _ none) k2) k3 k4
def Pt(W:World)(B:Nat)(cs:Array Value)(e:TypeId)(hB:W.heap[B]?=some (.cells cs e (0,0)))(hgd:o.guard=none)(s x:Operand)(t:TypeId)
  (ho:o.op=.call { callee:=.builtin .append,args:=#[s,x],argTypes:=#[t,t] })
  (base size bytes:Nat) (z:Value) (ht:P.underlying t=some (.slice e)) (hinfo:(P.info? e).map (fun i=>(i.zero,i.size,i.bytes))=some (some z,size,bytes))
  (hzs:z.cells.size=size) (hsz:0<size)
  (v:Value) (n:Nat) (xs:List Value) (hs:a.eval s=v) (hx:a.eval x=.slice (some ⟨B,0,none⟩) 1 1)
  (hown:W.ownsRow base e size v n xs) (hl:cs.size=size) (h1:∀u∈cs.toList,u.oneCell'=true)
  (hn:n<=100000000000) (hby:bytes<=1000) (hbase:base<=W.heap.size)
  (h:∀g cap w',w'.ownsRow base e size (.slice (some ⟨g,0,none⟩) (n+1) cap) (n+1) (xs++cs.toList)->W.grownBy w' v.ownBlock->(v.ownBlock=some g\/g=W.heap.size)->g<w'.heap.size->
   K (a.put o.dst (.slice (some ⟨g,0,none⟩) (n+1) cap)) w') :
  if Region.wanted o (yielded ops a.tmps)=true then Oper.wp P o a W K Q else E:=by
 obtain⟨i,hi,I6,Cu,Dg⟩:=Qr hinfo;have hb:=Z7 (show n+1<=100000000001 by omega) hby;exact A38 (P:=P) W hgd s x t ho base e i z size bytes ht hi I6 Cu Dg hzs hsz v n xs hs hown ⟨B,0,none⟩ 1 1 cs.toList hx (by simp[hl])
  (Wz hB) h1 z4ma z64a z4ma hbase W.heap.size rfl h
end
section
open Go.RowKit
def z1ua {P:Prop} (h:P:=by
  have hw:Region.wanted o (yielded ops a.tmps)=true:=by simp[Region.wanted,hg]
  rw[A7 hw];unfold Oper.wp;rw[hrun,Oper.upon_enter];refine hC.mono ?_;intro e w' hR;obtain⟨u,rfl,hK⟩:=h e w' hR;exact hK):P:=h
def F9{P:Program}{ops:Array Oper}{o:Oper}{a:Act}{w:World}{K:Act->World->Prop}{Q:Exit->Act->World->Prop}{E:Prop}(hg:o.guard=none)(f:FuncId)(xs:Array Operand)(ts:Array TypeId)(_:o.op=.call { callee:=.value (.func f),args:=xs,argTypes:=ts })(args:Array Value)
  (hrun:(execOp a.eval o).run P w=.ok (.enter f args) w) {R:Ending->World->Prop} (hC:Calls P f args w R)
  (h:∀e w',R e w'->∃u,e=.returned u/\K (a.put o.dst u) w'):if Region.wanted o (yielded ops a.tmps)=true then Oper.wp P o a w K Q else E:=by
 exact z1ua
structure Xj (P : Program) (ops : Array Oper) (w : World) (Q : Act -> Prop) (l : List Oper) (a : Act) : Prop where
 out:wpStill P ops w Q l a
def Jt{P:Program}{id:Nat}{Q:Exit->Act->World->Prop}{a:Act}{w:World}{l:List Oper}(n:Nat)(hm:P.follows .mixedOrders=true)(hB:Region.lexTailB .any l.toArray n=true)
  (h:Xj P l.toArray { w with drawn:=w.drawn+1 } (fun a'=>wpList P l.toArray Q (l.drop n) a' { w with drawn:=w.drawn+1 }) (l.take n) a):(Code.region id l.toArray true).wp P Q a w:=wp_region_still_tail n hm hB h.out
def Js{P:Program}{ops:Array Oper}{w:World}{Q:Act->Prop}{a:Act}(h:Q a):Xj P ops w Q [] a:=⟨wpStill_nil h⟩
def Fm{P:Program}{ops:Array Oper}{w:World}{Q:Act->Prop}{a:Act}{o:Oper}{rest:List Oper}
  (h:∀K:Act->Prop,(∀a,Xj P ops w Q rest a->K a)->if Region.wanted o (yielded ops a.tmps) then o.still P a w K else K (a.put o.dst undef)):Xj P ops w Q (o::rest) a:=
 ⟨wpStill_step (fun K hK=>h K (fun a hb=>hK a hb.out))⟩
def Jb(k:Nat)(s:PS):PS:=if kT s=k then At s else s
end
section
open Go.RowKit
open Go.Deep (BT)
def A8.drewN{b:Nat}{x w:World}(h:A8 b x w)(n:Nat):A8 b x (w.drewN n):=⟨h.os,h.tape,h.output,h.size,h.block⟩
def Rr(D:Nat->Prop)(w:World)(e:TypeId)(size:Nat):Dj D w e size (.slice none 0 0) 0 []:=⟨M9 _ _ _ _,fun g hg=>by simp[Value.ownBlock]at hg⟩
def Pg(t:Tk):List Value:=[.n t.k,.n t.line,.s t.s,.i t.n]
def Nh(ts:List Tk):List Value:=ts.flatMap Pg
def A5b(xs:List Tk):∀(i j:Nat) (h:i<xs.length),j<4->(Nh xs)[i*4+j]?=(Pg xs[i])[j]?:=by
 induction xs with
 | nil=>intro i j h;simp at h
 | cons x r ih=>
  intro i j h hj;have e:Nh (x::r)=Pg x++Nh r:=by simp[Nh]
  rw[e];have hl:(Pg x).length=4:=rfl;cases i with
  | zero=>rw[Ou z4ma];simp
  | succ i=>
   rw[Th z4ma,hl,show(i+1)*4+j-4=i*4+j by omega];exact ih i j z5qa hj
structure Zo (ts : List Tk) : Prop where
 C1:ts.length<=100000
 last:∀i (h:i<ts.length),ts[i].k=0↔i+1=ts.length
 line:∀x∈ts,1<=x.line/\x.line<=100000/\x.k<=40
def R6(n:Nat):Nat:=if n=0 then 0 else 2
structure Hy (b tb cap te : Nat) (ts : List Tk) (w : World) (s : PS) (pl : Nat) : Prop where
 toks:Zo ts
 rd:w.heap[b]?=some (.cells #[.slice (some ⟨tb,0,none⟩) ts.length cap,.n pl,.n (R6 s.bad),.n s.bad] te (0,0))
 tok:∃cur,w.heap[tb]?=some (.cells cur 198 (0,0))/\cur.toList.take (ts.length*4)=Nh ts
 ne:tb≠b
 lt:pl<ts.length
 cap:ts.length<=cap
 good:s.bad=0->s.ts=ts.drop pl
 bad:s.bad≠0->s.ts=[Kx]/\s.bad<=100000/\pl+1=ts.length
variable {b tb cap te:Nat} {ts:List Tk} {w w':World} {s:PS} {pl:Nat}
def z3la {P:Prop} (h:P:=by
  obtain⟨cur,h1,h2⟩:=h.tok;rw[K2 w tb (i*4+j) cur _ _ h1,←A5b ts i j hi hj,←h2,Te,Mn,S9]):P:=h
def Hy.Ut(h:Hy b tb cap te ts w s pl)(i j:Nat)(hi:i<ts.length)(hj:j<4):w.cell? ⟨tb,i*4+j,none⟩=(Pg ts[i])[j]?:=by
 exact z3la
def Hy.of_heap(h:Hy b tb cap te ts w s pl)(h1:w'.heap[b]?=w.heap[b]?)(h2:w'.heap[tb]?=w.heap[tb]?):Hy b tb cap te ts w' s pl:=by
 obtain⟨cur,k1,k2⟩:=h.tok;exact⟨h.toks,h1.trans h.rd,⟨cur,h2.trans k1,k2⟩,h.ne,h.lt,h.cap,h.good,h.bad⟩
def Hy.Ws(h:Hy b tb cap te ts w s pl):tb<w.heap.size:=by
 obtain⟨cur,k1,_⟩:=h.tok;exact A6 k1
def Hy.below(h:Hy b tb cap te ts w s pl)(hb:Bw w w'):Hy b tb cap te ts w' s pl:=
 h.of_heap (hb.block b (A6 h.rd)) (hb.block tb h.Ws)
def Hy.hd(h:Hy b tb cap te ts w s pl)(h0:s.bad=0):B6 s=(ts[pl]'h.lt):=by
 unfold B6;rw[h.good h0,Gk h.lt];rfl
def Hy.kd(h:Hy b tb cap te ts w s pl):kT s=(ts[pl]'h.lt).k:=by
 by_cases h0:s.bad=0
 ·unfold kT;rw[h.hd h0]
 ·have h1:=h.bad h0;rw[((h.toks.last pl h.lt).2 h1.2.2)];unfold kT B6;rw[h1.1];rfl
def Hy.Vy(h:Hy b tb cap te ts w s pl):kT s<=40:=by
 rw[h.kd];exact(h.toks.line _ (Ho h.lt)).2.2
def Hy.Ij(h:Hy b tb cap te ts w s pl)(hk:kT s≠0):s.bad=0/\pl+1<ts.length:=by
 by_cases h0:s.bad=0
 ·refine⟨h0,?_⟩;have:=h.toks.last pl h.lt;unfold kT at hk;rw[h.hd h0]at hk;have hlt:=h.lt;have hne:pl+1≠ts.length:=fun e=>hk (this.2 e);omega
 ·exfalso;apply hk;unfold kT B6;rw[(h.bad h0).1];rfl
def Hy.move(h:Hy b tb cap te ts w s pl)(hk:kT s≠0)(q:Int)(hq:q=(pl:Int)+1) :
  Hy b tb cap te ts (w.setCell ⟨b,1,none⟩ (.i q)) (At s) (pl+1):=by
 obtain⟨cur,k1,k2⟩:=h.tok;obtain⟨h0,hlt⟩:=h.Ij hk;subst hq;have ht:At s=⟨s.ts.tail,s.bad⟩:=by unfold At;rw[A1 hk]
 rw[ht];refine⟨h.toks,?_,⟨cur,(Bh _ _ _ _ h.ne).trans k1,k2⟩,h.ne,hlt,h.cap,(fun _=>?_),(fun e=>absurd h0 e)⟩
 ·rw[heap_set h.rd];simp
 ·show s.ts.tail=_;rw[h.good h0,Gk h.lt];rfl
def Hy.failed(h:Hy b tb cap te ts w s pl)(h0:s.bad=0)(q:Int)(hq:q=(ts.length:Int)-1)(ln:Nat)(hl:ln=(B6 s).line) :
  Hy b tb cap te ts (((w.setCell ⟨b,2,none⟩ (.int .i64 2)).setCell ⟨b,3,none⟩ (.int .i64 (ln:Nat))).setCell ⟨b,1,none⟩ (.int .i64 q)) (Et s) (ts.length-1):=by
 obtain⟨cur,k1,k2⟩:=h.tok;subst hl hq;have hlt:=h.lt;have hline:=h.toks.line _ (Ho h.lt);rw[←h.hd h0]at hline;have hf:Et s=⟨[Kx],(B6 s).line⟩:=by unfold Et;rw[A7 h0]
 rw[hf];refine⟨h.toks,?_,⟨cur,?_,k2⟩,h.ne,by omega,h.cap,(fun e=>by simp only at e;omega),(fun _=>⟨rfl,hline.2.1,by omega⟩)⟩
 ·have:=heap_set (j:=1) (heap_set (j:=3) (heap_set (j:=2) h.rd (.int .i64 2)) (.int .i64 ((B6 s).line:Nat))) (.int .i64 ((ts.length:Int)-1));rw[this]
  simp only[R6,A1 (show(B6 s).line≠0 by omega)];simp;omega
 ·rw[Bh _ _ _ _ (by exact h.ne),Bh _ _ _ _ (by exact h.ne),Bh _ _ _ _ (by exact h.ne)];exact k1
def Hy.stay(h:Hy b tb cap te ts w s pl)(h0:s.bad≠0)(q:Int)(hq:q=(ts.length:Int)-1) :
  Hy b tb cap te ts (w.setCell ⟨b,1,none⟩ (.i q)) s pl:=by
 obtain⟨cur,k1,k2⟩:=h.tok;obtain⟨e1,e2,e3⟩:=h.bad h0;subst hq;refine⟨h.toks,?_,⟨cur,(Bh _ _ _ _ h.ne).trans k1,k2⟩,h.ne,h.lt,h.cap,h.good,h.bad⟩;rw[heap_set h.rd,show(ts.length:Int)-1=(pl:Int) by omega];simp
def PR(b tb cap te:Nat)(ts:List Tk)(w:World)(s:PS):Prop:=∃pl,Hy b tb cap te ts w s pl
def PR.below(h:PR b tb cap te ts w s)(hb:Bw w w'):PR b tb cap te ts w' s:=by
 obtain⟨pl,h⟩:=h;exact⟨pl,h.below hb⟩
def PR.keep(h:PR b tb cap te ts w s)(h1:w'.heap[b]?=w.heap[b]?)(h2:w'.heap[tb]?=w.heap[tb]?):PR b tb cap te ts w' s:=by
 obtain⟨pl,h⟩:=h;exact⟨pl,h.of_heap h1 h2⟩
def PR.alloc(h:PR b tb cap te ts w s)(o:Obj):PR b tb cap te ts (w.alloc o) s:=h.below ((Al _ _).alloc (Af _) _)
def PR.drew(h:PR b tb cap te ts w s):PR b tb cap te ts w.drew s:=h.keep rfl rfl
def PR.lt(h:PR b tb cap te ts w s):b<w.heap.size/\tb<w.heap.size/\tb≠b:=by
 obtain⟨pl,h⟩:=h;exact⟨A6 h.rd,h.Ws,h.ne⟩
def PR.Vy(h:PR b tb cap te ts w s):kT s<=40:=by
 obtain⟨pl,h⟩:=h;exact h.Vy
def PR.other(h:PR b tb cap te ts w s){p:Addr}(h1:b≠p.block)(h2:tb≠p.block)(u:Value):PR b tb cap te ts (w.setCell p u) s:=
 h.keep (Bh _ _ _ _ h1) (Bh _ _ _ _ h2)
def PR.P4(h:PR b tb cap te ts w s)(h0:s.bad≠0):s.ts=[Kx]:=by
 obtain⟨pl,h⟩:=h;exact(h.bad h0).1
def PR.Ael(h:PR b tb cap te ts w s):s.bad<=100000:=by
 obtain⟨pl,h⟩:=h;by_cases h0:s.bad=0
 ·omega
 ·exact(h.bad h0).2.1
def PR.Ij(h:PR b tb cap te ts w s)(hk:kT s≠0):s.bad=0:=by
 obtain⟨pl,h⟩:=h;exact(h.Ij hk).1
def PR.lines(h:PR b tb cap te ts w s)(h0:s.bad=0):1<=(B6 s).line/\(B6 s).line<=100000:=by
 obtain⟨pl,h⟩:=h;rw[h.hd h0];have:=h.toks.line _ (Ho h.lt);exact⟨this.1,this.2.1⟩
end
section
set_option maxRecDepth 100000
open Go.RowKit
variable {b tb cap te:Nat}{ts:List Tk}{w:World}{s:PS}
def E9(h:PR b tb cap te ts w s) :
  Calls Tryz.prog 130 #[.p b] w fun e w'=>e=.returned (.n (kT s))/\PR b tb cap te ts w' s/\Bw w w':=by
 obtain⟨pl,h⟩:=h;have c0:=A4 h.rd 0 _ rfl;have c1:=A4 h.rd 1 _ rfl;have lb:=A6 h.rd;have lt:=h.Ws;have hlt:=h.lt;have d0:=h.Ut pl 0 hlt z4ma;rw[Pg]at d0;simp only[X7,Ma]at d0;rw[←h.kd]at d0;have hfew:=h.toks.C1;have hcap:=h.cap;go_in;go_wp2;go_quiet (fail)
 go_wp2;go_ret;exact⟨rfl,⟨pl,h.of_heap rfl rfl⟩,⟨rfl,rfl,rfl,Af _,fun _ _=>rfl⟩⟩
def Zy(s:PS)(ln nn:Int)(S:List UInt8):Prop:=s.bad=0->ln=(B6 s).line/\S=(B6 s).s/\nn=(B6 s).n
def Iz(h:PR b tb cap te ts w s) :
  Calls Tryz.prog 188 #[.p b] w fun e w'=>∃ln nn S,e=.returned (.agg #[.n (kT s),.i ln,.s S,.i nn])/\Zy s ln nn S/\PR b tb cap te ts w' (At s)/\A8 b w w':=by
 obtain⟨pl,h⟩:=h;have c0:=A4 h.rd 0 _ rfl;have c1:=A4 h.rd 1 _ rfl;have fz:=By h.rd;have lb:=A6 h.rd;have lt:=h.Ws;have hlt:=h.lt;have d0:=h.Ut pl 0 hlt z4ma;have d1:=h.Ut pl 1 hlt z4ma;have d2:=h.Ut pl 2 hlt z4ma;have d3:=h.Ut pl 3 hlt z4ma;rw[Pg]at d0 d1 d2 d3;simp only[X7,Ti,Ma]at d0 d1 d2 d3;rw[←h.kd]at d0;have hfew:=h.toks.C1;have hcap:=h.cap;have HTk:Zy s (ts[pl].line:Nat) ts[pl].n ts[pl].s:=fun h0=>by rw[h.hd h0];exact⟨rfl,rfl,rfl⟩
 have HH:=A0 h;have hne:=h.ne;clear h;generalize ts[pl].line=ln at *;generalize ts[pl].s=S at *;generalize ts[pl].n=nn at *;by_cases hk:kT s=0
 ·have t:((kT s:Int) !=0)=false:=by rw[hk];rfl
  have HE:At s=s:=by show _=_;unfold At;rw[A7 hk]
  clear hk;go_in;go_wp2;go_region
  all_goals go_wp2
  all_goals refine B9 (v:=.agg #[.n (kT s),.n ln,.s S,.i nn]) (by simp[results,Tryz.results188,go_sem]) rfl ⟨_,_,_,rfl,HTk,?_,?_⟩
  all_goals first
   | exact((((PR.alloc (PR.alloc ⟨pl,HE.symm ▸ HH.o⟩ _) _)).drew))
   | exact(((A8.refl b w).alloc _).alloc _).drew
 ·have t:((kT s:Int) !=0)=true:=by simpa using hk
  have HK:=A0 hk;clear hk;go_in;go_wp2;go_region
  all_goals go_wp2
  all_goals refine B9 (v:=.agg #[.n (kT s),.n ln,.s S,.i nn]) (by simp[results,Tryz.results188,go_sem]) rfl ⟨_,_,_,rfl,HTk,?_,?_⟩
  all_goals first
   | exact((((PR.alloc (PR.alloc ⟨pl+1,HH.o.move HK.o _ rfl⟩ _) _)).drew))
   | exact(((A8.set (p:=⟨b,1,none⟩) (A8.refl b w) (.inl rfl) _).alloc _).alloc _).drew
def A60(h:PR b tb cap te ts w s) :
  Calls Tryz.prog 230 #[.p b] w fun e w'=>e=.returned (.tuple #[])/\PR b tb cap te ts w' (Et s)/\A8 b w w':=by
 obtain⟨pl,h⟩:=h;have c0:=A4 h.rd 0 _ rfl;have c1:=A4 h.rd 1 _ rfl;have c2:=A4 h.rd 2 _ rfl;have c3:=A4 h.rd 3 _ rfl;have fz:=By h.rd;have lb:=A6 h.rd;have lt:=h.Ws;have hlt:=h.lt;have d1:=h.Ut pl 1 hlt z4ma;rw[Pg]at d1;simp only[X7,Ti]at d1;have hfew:=h.toks.C1;have hcap:=h.cap;have hne:=h.ne;by_cases h0:s.bad=0
 ·have HD:Hid (ts[pl].line=(B6 s).line):=by show _=_;rw[h.hd h0]
  have HB:=A0 (fun(w1:World) (e:w1.heap=w.heap)=>(h.of_heap (w':=w1) (by rw[e]) (by rw[e])).failed h0 _ rfl _ HD.o);replace c2:w.cell? ⟨b,2,none⟩=some (.i 0):=by rw[c2,h0];rfl
  generalize ts[pl].line=ln at *;go_in;go_wp2;go_region
  all_goals go_wp2
  all_goals go_end0
  all_goals exact⟨rfl,PR.drew ⟨_,HB.o w rfl⟩,(A8.set (p:=⟨b,1,none⟩) (A8.set (p:=⟨b,3,none⟩) (A8.set (p:=⟨b,2,none⟩) (A8.refl b w) (.inl rfl) _) (.inl rfl) _) (.inl rfl) _).drew⟩
 ·have h2:R6 s.bad=2:=by unfold R6;rw[A1 h0]
  replace c2:w.cell? ⟨b,2,none⟩=some (.i 2):=by rw[c2];show some (Value.i ((R6 s.bad:Nat):Int))=_;rw[h2];rfl
  have HF:Et s=s:=by show _=_;unfold Et;rw[A1 h0]
  have HB:=A0 (h.stay h0 _ rfl);go_in;go_wp2;go_end0;exact⟨rfl,⟨pl,by rw[HF];exact HB.o⟩,A8.set (p:=⟨b,1,none⟩) (A8.refl b w) (.inl rfl) _⟩
def Auq{s:PS}(h:kT s=0):At s=s:=by unfold At;rw[A7 h]
def Aj3(s:PS)(h:s.bad≠0->s.ts=[Kx]):kT (Et s)=0:=by
 unfold Et;split
 ·rfl
 ·rename_i h0;unfold kT B6;rw[h h0];rfl
def Kc(h:PR b tb cap te ts w s)(k:Nat) :
  Calls Tryz.prog 182 #[.p b,.n k] w fun e w'=>∃kk ln nn S,e=.returned (.agg #[.i kk,.i ln,.s S,.i nn])/\((Be k s).bad=0->Zy s ln nn S/\kT s=k)/\PR b tb cap te ts w' (Be k s)/\A8 b w w':=by
 have HH:=A0 h;have hk40:=h.Vy;have HSt:s.bad≠0->s.ts=[Kx]:=h.P4;have HFb:s.bad=0->1<=(B6 s).line:=fun e=>(h.lines e).1;clear h;by_cases hc:kT s=k
 ·have t:((kT s:Int) !=(k:Int))=false:=by rw[hc];simp
  have HW:Hid (Be k s=At s):=by show _=_;unfold Be;rw[A7 hc]
  have HC:=A0 hc;clear hc;go_in;go_wp2_with fail
  refine(E9 (HH.o.alloc _)).mono ?_;rintro e w1 ⟨rfl,h1,A2⟩;have H1:=A0 h1;have hR:=Gn A2 (Bp w (.cells #[.i 0,.i 0,.string ⟨#[]⟩,.i 0] 198));have HR:=A0 hR;have Ef:=A6 hR;have Bd:Hid (A8 b w w1):=((A8.refl b w).alloc _).trans (Below.only A2);have lb:=HH.o.lt;clear h1 A2 hR;go_wp2_with fail
  refine(Iz H1.o).mono ?_;rintro e w2 ⟨ln,nn,S,rfl,htk,h2,C4⟩;have G7:=C4.blk HR.o z4ma;obtain⟨x0,x1,x2,x3,fx,lx⟩:=Eo G7;have Bo:Hid (A8 b w w2):=Bd.o.trans C4;have H2:=A0 h2;have HTk:=A0 htk;clear h2 htk G7 C4;go_wp2;refine B9 (v:=.agg #[.n (kT s),.i ln,.s S,.i nn]) (by simp[results,Tryz.results182,go_sem,x0,x1,x2,x3]) rfl ?_;rw[HW.o];refine⟨_,_,_,_,rfl,fun _=>⟨HTk.o,HC.o⟩,?_,A8.Jm Bo.o (Af _) _ _ _ _⟩;exact PR.keep H2.o (Iy z4ma _ _ _ _) (Iy z4ma _ _ _ _)
 ·have t:((kT s:Int) !=(k:Int))=true:=by simp;omega
  have HW:Hid (Be k s=Et s):=by show _=_;unfold Be;rw[A1 hc]
  have HZ:At (Et s)=Et s:=Auq (Aj3 s HSt);have HN:(Et s).bad≠0:=by
   show _≠_;unfold Et;split
   ·have:=HFb (by assumption);simp only;omega
   ·assumption
  clear hc;go_in;go_wp2_with fail
  refine(E9 (HH.o.alloc _)).mono ?_;rintro e w1 ⟨rfl,h1,A2⟩;have H1:=A0 h1;have hR:=Gn A2 (Bp w (.cells #[.i 0,.i 0,.string ⟨#[]⟩,.i 0] 198));have HR:=A0 hR;have Ef:=A6 hR;have Bd:Hid (A8 b w w1):=((A8.refl b w).alloc _).trans (Below.only A2);have lb:=HH.o.lt;clear h1 A2 hR;go_wp2_with fail
  refine(A60 H1.o).mono ?_;rintro e w3 ⟨rfl,h3,E8⟩;have Jr:=E8.blk HR.o z4ma;have D1:A8 b w w3:=Bd.o.trans E8;have H3:=A0 h3;clear h3 E8;go_wp2_with fail
  refine(Iz H3.o).mono ?_;rintro e w2 ⟨ln,nn,S,rfl,htk,h2,C4⟩;rw[HZ]at h2;have G7:=C4.blk Jr z4ma;obtain⟨x0,x1,x2,x3,fx,lx⟩:=Eo G7;have Bo:Hid (A8 b w w2):=D1.trans C4;have H2:=A0 h2;clear h2 htk G7 C4;go_wp2;refine B9 (v:=.agg #[.n (kT (Et s)),.i ln,.s S,.i nn]) (by simp[results,Tryz.results182,go_sem,x0,x1,x2,x3]) rfl ?_;rw[HW.o];refine⟨_,_,_,_,rfl,fun e=>absurd e HN,?_,A8.Jm Bo.o (Af _) _ _ _ _⟩;exact PR.keep H2.o (Iy z4ma _ _ _ _) (Iy z4ma _ _ _ _)
def Pb(h:PR b tb cap te ts w s)(k:Nat) :
  Calls Tryz.prog 231 #[.p b,.n k] w fun e w'=>e=.returned (.bool (kT s==k))/\PR b tb cap te ts w' (Jb k s)/\A8 b w w':=by
 have hk40:=h.Vy;by_cases hc:kT s=k
 ·have t:((kT s:Int) !=(k:Int))=false:=by rw[hc];simp
  have HW:Hid (Jb k s=At s):=by show _=_;unfold Jb;rw[A7 hc]
  have HC:Hid ((kT s==k)=true):=by show _=_;simpa using hc
  go_in;go_wp2_with fail
  refine(E9 h).mono ?_;rintro e w1 ⟨rfl,h1,A2⟩;have H1:=A0 h1;have Bd:Hid (A8 b w w1):=Below.only A2;go_wp2_with fail
  refine(Iz H1.o).mono ?_;rintro e w2 ⟨ln,nn,S,rfl,htk,h2,C4⟩;have Bo:A8 b w w2:=Bd.o.trans C4;go_wp2;go_ret;exact⟨Wg HC.o.symm,by rw[HW.o];exact h2,Bo⟩
 ·have t:((kT s:Int) !=(k:Int))=true:=by simp;omega
  have HW:Hid (Jb k s=s):=by show _=_;unfold Jb;rw[A1 hc]
  have HC:Hid ((kT s==k)=false):=by show _=_;simpa using hc
  go_in;go_wp2_with fail
  refine(E9 h).mono ?_;rintro e w1 ⟨rfl,h1,A2⟩;have H1:=A0 h1;have Bd:Hid (A8 b w w1):=Below.only A2;go_wp2;go_ret;exact⟨Wg HC.o.symm,by rw[HW.o];exact H1.o,Bd.o⟩
def Y8(h:PR b tb cap te ts w s) :
  Calls Tryz.prog 183 #[.p b] w fun e w'=>∃ln S,e=.returned (.agg #[.i ln,.s S])/\((Be 1 s).bad=0->ln=(B6 s).line/\S=(B6 s).s)/\PR b tb cap te ts w' (Be 1 s)/\A8 b w w':=by
 have lb:=h.lt;have HG:(Be 1 s).bad=0->s.bad=0:=by
  intro e;by_cases h0:s.bad=0
  ·exact h0
  ·exfalso;apply h0;have hk:kT s≠1:=by unfold kT B6;rw[h.P4 h0];decide
   unfold Be at e;rw[A1 hk]at e;unfold Et at e;rw[A1 h0]at e;exact e
 go_in;go_wp2_with fail
 refine(Kc (h.alloc _) 1).mono ?_;rintro e w1 ⟨kk,ln,nn,S,rfl,htk,h1,Cy⟩;have hR:=Cy.blk (Bp w (.cells #[.i 0,.string ⟨#[]⟩] 148)) z4ma;have x0:=A4 hR 0 _ rfl;have x1:=A4 hR 1 _ rfl;have fx:=By hR;have lx:=A6 hR;have Bd:A8 b w w1:=((A8.refl b w).alloc _).trans Cy;go_wp2;refine B9 (v:=.agg #[.i ln,.s S]) (by simp[results,Tryz.results183,go_sem,x0,x1,lx]) rfl ?_;refine⟨_,_,rfl,fun e=>?_,PR.alloc (PR.keep h1 ?_ ?_) _,A8.alloc (A8.set (p:=⟨w.heap.size,1,none⟩) (A8.set (p:=⟨w.heap.size,0,none⟩) Bd (.inr (Af _)) _) (.inr (Af _)) _) _⟩
 ·have:=(htk e).1 (HG e);exact⟨this.1,this.2.1⟩
 ·rw[Bh _ _ _ _ (by show b≠w.heap.size;omega),Bh _ _ _ _ (by show b≠w.heap.size;omega)]
 ·rw[Bh _ _ _ _ (by show tb≠w.heap.size;omega),Bh _ _ _ _ (by show tb≠w.heap.size;omega)]
end
section
open Go.RowKit
open Go.Deep (BT)
def Cw(kd:Nat):TypeId:=
 match kd with
 | 1=>220|2=>229|3=>233|4=>233|5=>237|6=>238|7=>301|8=>241
 | 9=>296|10=>304|11=>307|12=>310|13=>244|14=>244
 | 20=>143|21=>145|22=>253|23=>255|24=>257|25=>259|26=>264
 | 27=>265|28=>268|29=>268|30=>270|_=>248
def E4(kd:Nat):TypeId:=
 match kd with
 | 1=>228|2=>232|3=>236|4=>236|5=>450|6=>240|7=>303|8=>243
 | 9=>300|10=>306|11=>309|12=>312|13=>246|14=>246
 | 20=>218|21=>152|22=>314|23=>317|24=>318|25=>367|26=>368
 | 27=>267|28=>322|29=>322|30=>272|_=>295
def Hw(n:Nat):Value:=.n n
def Ml(s:List UInt8):Value:=.s s
def Cs(b:Nat):Value:=.p b
def My(ps:List (Nat×List UInt8)):List Value:=ps.flatMap fun p=>[Hw p.1,Ml p.2]
def Di(D:Nat->Prop)(w:World)(l:A5)(cs:Array Value)(ks:List Value):Prop:=
 match l.kd with
 | 1=>cs=#[.int .i64 l.n]/\ks=[]
 | 2=>cs=#[Ml l.s]/\ks=[]
 | 3=>cs=#[.bool true]/\ks=[]
 | 4=>cs=#[.bool false]/\ks=[]
 | 5=>cs=#[]/\ks=[]
 | 6=>cs=#[Hw l.line,Ml l.s]/\ks=[]
 | 7=>∃sl,cs=#[Hw l.line,Ml l.s,sl]/\Dj D w 150 1 sl ks.length ks
 | 8=>∃a,cs=#[a]/\ks=[a]
 | 9=>∃sl,cs=#[Hw l.line,sl]/\Dj D w 150 1 sl ks.length ks
 | 10=>∃a,cs=#[Hw l.line,a]/\ks=[a]
 | 11=>∃a b,cs=#[Hw l.line,a,b]/\ks=[a,b]
 | 12=>∃a b,cs=#[Hw l.line,a,b]/\ks=[a,b]
 | 13=>∃a,cs=#[Hw l.line,.int .i64 28,a]/\ks=[a]
 | 14=>∃a,cs=#[Hw l.line,.int .i64 35,a]/\ks=[a]
 | 20=>∃ps sl,cs=#[Hw l.line,Ml l.s,ps,sl]/\Dj D w 142 1 sl ks.length ks/\Dj D w 148 2 ps l.ps.length (My l.ps)
 | 21=>∃a,cs=#[Hw l.line,Ml l.s,a]/\ks=[a]
 | 22=>∃t x a1 n1 c1 a2 n2 c2,cs=#[Hw l.line,.iface t x,.slice a1 n1 c1,.slice a2 n2 c2]/\((ks=[.iface t x,.slice a1 n1 c1]/\Value.slice a2 n2 c2=.slice none 0 0)\/ks=[.iface t x,.slice a1 n1 c1,.slice a2 n2 c2])
 | 23=>∃t x a1 n1 c1,cs=#[Hw l.line,.iface t x,.slice a1 n1 c1]/\ks=[.iface t x,.slice a1 n1 c1]
 | 24=>∃a,cs=#[Hw l.line,a]/\((ks=[]/\a=.nilIface)\/ks=[a])
 | 25=>cs=#[Hw l.line]/\ks=[]
 | 26=>cs=#[Hw l.line]/\ks=[]
 | 27=>∃a,cs=#[Hw l.line,a]/\ks=[a]
 | 28=>∃b2 a,cs=#[.iface 238 (Cs b2),a]/\D b2/\w.heap[b2]?=some (.cells #[Hw l.line,Ml l.s] 240 (0,0))/\ks=[a]
 | 29=>∃b2 o p a,cs=#[.iface 310 (Cs b2),a]/\D b2/\w.heap[b2]?=some (.cells #[Hw l.line,o,p] 312 (0,0))/\ks=[o,p,a]
 | 30=>∃a,cs=#[a]/\ks=[a]
 | kd=>∃a b,cs=#[Hw l.line,.int .i64 ((kd-100:Nat):Nat),a,b]/\ks=[a,b]
def Bx(D:Nat->Prop)(w:World)(l:A5)(v:Value)(ks:List Value):Prop:=
 if l.kd=31\/l.kd=32 then(∃a n c,v=.slice a n c)/\Dj D w 142 1 v ks.length ks
 else ∃b cs,v=.iface (Cw l.kd) (Cs b)/\D b/\w.heap[b]?=some (.cells cs (E4 l.kd) (0,0))/\Di D w l cs ks
def Ar(D:Nat->Prop)(w:World):BT A5->List Value->Prop
 | .nil,vs=>vs=[]
 | .node _ _ l ch sib,vs=>∃v ks rest,vs=v::rest/\Bx D w l v ks/\Ar D w ch ks/\Ar D w sib rest
variable {D D':Nat->Prop} {w w':World}
def Di.keep(hk:∀g,D g->g<w.heap.size->w'.heap[g]?=w.heap[g]?/\D' g){l:A5}{cs:Array Value}{ks:List Value}(h:Di D w l cs ks):Di D' w' l cs ks:=by
 unfold Di at h ⊢;split at h <;> try exact h
 ·obtain⟨sl,e,o⟩:=h;exact⟨sl,e,o.keep hk⟩
 ·obtain⟨sl,e,o⟩:=h;exact⟨sl,e,o.keep hk⟩
 ·obtain⟨ps,sl,e,o,p⟩:=h;exact⟨ps,sl,e,o.keep hk,p.keep hk⟩
 ·obtain⟨b2,a,e,d,hb,k⟩:=h;exact⟨b2,a,e,(hk _ d (A6 hb)).2,(hk _ d (A6 hb)).1.trans hb,k⟩
 ·obtain⟨b2,o,p,a,e,d,hb,k⟩:=h;exact⟨b2,o,p,a,e,(hk _ d (A6 hb)).2,(hk _ d (A6 hb)).1.trans hb,k⟩
def Bx.keep(hk:∀g,D g->g<w.heap.size->w'.heap[g]?=w.heap[g]?/\D' g){l:A5}{v:Value}{ks:List Value}(h:Bx D w l v ks):Bx D' w' l v ks:=by
 unfold Bx at h ⊢;split at h
 ·rename_i h1;rw[A7 h1];exact⟨h.1,h.2.keep hk⟩
 ·rename_i h1;rw[A1 h1];obtain⟨b,cs,e,d,hb,k⟩:=h;exact⟨b,cs,e,(hk _ d (A6 hb)).2,(hk _ d (A6 hb)).1.trans hb,k.keep hk⟩
def Ar.keep(hk:∀g,D g->g<w.heap.size->w'.heap[g]?=w.heap[g]?/\D' g):∀(f:BT A5) (vs:List Value),Ar D w f vs->Ar D' w' f vs:=by
 intro f;induction f with
 | nil=>intro vs h;exact h
 | node x y l ch sib D5 C6=>
  intro vs h;obtain⟨v,ks,rest,rfl,h1,h2,h3⟩:=h;exact⟨v,ks,rest,rfl,h1.keep hk,D5 _ h2,C6 _ h3⟩
def Ar.app:∀(f g:BT A5) (c1 c2:List Value),Ar D w f c1->Ar D w g c2->Ar D w (Dw f g) (c1++c2):=by
 intro f;induction f with
 | nil=>intro g c1 c2 h1 h2;rw[Ar]at h1;subst h1;exact h2
 | node x y l ch sib D5 C6=>
  intro g c1 c2 h1 h2;obtain⟨v,ks,rest,rfl,k1,k2,k3⟩:=h1;rw[Dw];exact⟨v,ks,rest++c2,rfl,k1,k2,C6 g rest c2 k3 h2⟩
def Ar.len:∀(f:BT A5) (vs:List Value),Ar D w f vs->vs.length=Aj f:=by
 intro f;induction f with
 | nil=>intro vs h;rw[Ar]at h;subst h;rfl
 | node x y l ch sib D5 C6=>
  intro vs h;obtain⟨v,ks,rest,rfl,k1,k2,k3⟩:=h;rw[Aj,Il,C6 rest k3]
def Ar.one{l:A5}{ch:BT A5}{v:Value}{ks:List Value}(h1:Bx D w l v ks)(h2:Ar D w ch ks):Ar D w (nd l ch) [v]:=⟨v,ks,[],rfl,h1,h2,rfl⟩
def Bx.new{l:A5}{b:Nat}{cs:Array Value}{ks:List Value}(h:¬(l.kd=31\/l.kd=32))(hD:D b)(hb:w.heap[b]?=some (.cells cs (E4 l.kd) (0,0)))(hl:Di D w l cs ks):Bx D w l (.iface (Cw l.kd) (Cs b)) ks:=by
 unfold Bx;rw[A1 h];exact⟨b,cs,rfl,hD,hb,hl⟩
def Ar.only{b n:Nat}(hb:b<n)(ho:A8 b w w'){f:BT A5}{vs:List Value}(h:Ar (fun g=>n<=g) w f vs):Ar (fun g=>n<=g) w' f vs:=
 Ar.keep (fun g hg hl=>⟨ho.block g hl z4ma,hg⟩) _ _ h
def Ar.weak{n m:Nat}(hm:m<=n){f:BT A5}{vs:List Value}(h:Ar (fun g=>n<=g) w f vs):Ar (fun g=>m<=g) w f vs:=
 Ar.keep (fun g hg _=>⟨rfl,by omega⟩) _ _ h
def Ar.later{b n m:Nat}(hm:m<=n)(hb:b<n)(ho:A8 b w w'){f:BT A5}{vs:List Value}(h:Ar (fun g=>n<=g) w f vs):Ar (fun g=>m<=g) w' f vs:=(h.only hb ho).weak hm
def J4(b tb cap te:Nat)(ts:List Tk)(w:World)(r:BT A5×PS)(e:Ending)(w':World):Prop:=
 ∃t x,e=.returned (.iface t x)/\PR b tb cap te ts w' r.2/\A8 b w w'/\(r.2.bad=0->Ar (fun g=>w.heap.size<=g) w' r.1 [.iface t x])
def Xe(T:TypeId)(b tb cap te:Nat)(ts:List Tk)(w:World)(r:BT A5×PS)(e:Ending)(w':World):Prop:=
 ∃va vn vc cs,e=.returned (.slice va vn vc)/\Dj (fun g=>w.heap.size<=g) w' T 1 (.slice va vn vc) cs.length cs/\PR b tb cap te ts w' r.2/\A8 b w w'/\(r.2.bad=0->Ar (fun g=>w.heap.size<=g) w' r.1 cs)
structure K5 (b tb cap te : Nat) (ts : List Tk) (n : Nat) : Prop where
 expr:∀w s a r,a<=6->PR b tb cap te ts w s->Ak n 0 a .nil s=some r->Calls Tryz.prog 232 #[.p b,.n ((a+1:Nat))] w (J4 b tb cap te ts w r)
 unary:∀w s r,PR b tb cap te ts w s->Ak n 2 0 .nil s=some r->Calls Tryz.prog 261 #[.p b] w (J4 b tb cap te ts w r)
 atom:∀w s r,PR b tb cap te ts w s->Ak n 4 0 .nil s=some r->Calls Tryz.prog 296 #[.p b] w (J4 b tb cap te ts w r)
 list:∀w s a r,PR b tb cap te ts w s->Ak n 5 a .nil s=some r->Calls Tryz.prog 309 #[.p b,.n a] w (Xe 150 b tb cap te ts w r)
 block:∀w s r,PR b tb cap te ts w s->Ak n 7 0 .nil s=some r->Calls Tryz.prog 185 #[.p b] w (Xe 142 b tb cap te ts w r)
 stmt:∀w s r,PR b tb cap te ts w s->Ak n 9 0 .nil s=some r->Calls Tryz.prog 132 #[.p b] w (J4 b tb cap te ts w r)
def J7{b tb cap te:Nat}{ts:List Tk}{w W:World}{r:BT A5×PS}{l:A5}{ch:BT A5}{cs:Array Value}{t tt:TypeId}{ks:List Value}(hr:PR b tb cap te ts W r.2)(ho:A8 b w W)(e1:r.1=nd l ch)(h31:¬(l.kd=31\/l.kd=32))(ht:t=Cw l.kd)(htt:tt=E4 l.kd)
  (hl:r.2.bad=0->Di (fun g=>w.heap.size<=g) W l cs ks/\Ar (fun g=>w.heap.size<=g) W ch ks) :
  J4 b tb cap te ts w r (.returned (.iface t (.p W.heap.size))) (W.alloc (.cells cs tt)):=by
 subst htt;refine⟨t,_,rfl,hr.alloc _,ho.alloc _,fun h=>?_⟩;rw[e1,ht];obtain⟨h1,h2⟩:=hl h;have hk:∀g,w.heap.size<=g->g<W.heap.size->(W.alloc (.cells cs (E4 l.kd))).heap[g]?=W.heap[g]?/\w.heap.size<=g:=fun g hg hl=>⟨Ck _ _ _ hl,hg⟩;exact Ar.one (Bx.new h31 ho.size (Bp W _) (h1.keep hk)) (Ar.keep hk _ _ h2)
end
section
set_option maxRecDepth 100000
open Go.RowKit
open Go.Deep (BT)
def z12a {P:Prop} (h:P:=by
  go_wp2;go_ret;exact⟨rfl,rfl⟩):P:=h
def A8p(k:Nat)(hk:k<=40)(w:World):Calls Tryz.prog 262 #[.n k] w fun e w'=>e=.returned (.n (rowOf k))/\w'=w:=by
 by_cases hc:k=40\/k=39\/k=27\/k=29\/k=30\/k=31\/k=32\/k=33\/k=34\/k=35\/k=36\/k=37\/k=38
 ·rcases hc with rfl|rfl|rfl|rfl|rfl|rfl|rfl|rfl|rfl|rfl|rfl|rfl|rfl;all_goals
   go_in;exact z12a
 ·have h0:rowOf k=0:=by
   unfold rowOf;rw[Ai,Ai,Ai,Ai,Ai,Ai]
  have hn:∀c:Int,c=40\/c=39\/c=27\/c=29\/c=30\/c=31\/c=32\/c=33\/c=34\/c=35\/c=36\/c=37\/c=38->((k:Int)==c)=false:=by
   intro c h;rw[Am];omega
  have t1:=hn 40 z4ma;have t2:=hn 39 z4ma;have t3:=hn 27 z4ma;have t4:=hn 29 z4ma;have t5:=hn 30 z4ma;have t6:=hn 31 z4ma;have t7:=hn 32 z4ma;have t8:=hn 33 z4ma;have t9:=hn 34 z4ma;have t10:=hn 35 z4ma;have t11:=hn 36 z4ma;have t12:=hn 37 z4ma;have t13:=hn 38 z4ma;go_in;go_wp2;go_ret;exact⟨by rw[h0];rfl,rfl⟩
def cf0(k n l:Int)(S:ByteArray)(w:World):(Instr.field 198 (.agg #[.i k,.i l,.string S,.i n]) 0).run Tryz.prog w=.ok (.i k) w:=by kernel_rfl
def Nu(k n l:Int)(S:ByteArray)(w:World):(Instr.field 198 (.agg #[.i k,.i l,.string S,.i n]) 1).run Tryz.prog w=.ok (.i l) w:=by kernel_rfl
def cf2(k n l:Int)(S:ByteArray)(w:World):(Instr.field 198 (.agg #[.i k,.i l,.string S,.i n]) 2).run Tryz.prog w=.ok (.string S) w:=by kernel_rfl
def cf3(k n l:Int)(S:ByteArray)(w:World):(Instr.field 198 (.agg #[.i k,.i l,.string S,.i n]) 3).run Tryz.prog w=.ok (.i n) w:=by kernel_rfl
def Us(s:PS):(At s).bad=s.bad:=by unfold At;split <;> rfl
def ke{k c:Nat}{d:Int}(hd:(c:Int)=d)(h:k=c):((k:Int)==d)=true:=by subst hd h;simp
def kn{k c:Nat}{d:Int}(hd:(c:Int)=d)(h:k≠c):((k:Int)==d)=false:=by subst hd;rw[Am];omega
def A16{s:PS}(h:s.bad=0->1<=(B6 s).line):(Et s).bad≠0:=by
 unfold Et;split
 ·have:=h (by assumption);simp only;omega
 ·assumption
def z52a {P:Prop} (h:P:=by simp[B4]):P:=h
def Am6{b tb cap te:Nat}{ts:List Tk}{n:Nat}(w:World)(s:PS)(r:BT A5×PS)(h6:kT s≠1)(h7:kT s≠18)(h8:kT s≠22)(h9:kT s≠16)(h10:kT s≠17)(hs:PR b tb cap te ts w s)(hp:Ak (n+1) 4 0 .nil s=some r) :
  Calls Tryz.prog 313 #[.p b] w (J4 b tb cap te ts w r):=by
 have hf0:=cf0;have hf2:=cf2;have hf3:=cf3;by_cases h2:kT s=2
 ·have HR:=A0 (Anl h2 hp);have t2:((kT s:Int)==2)=true:=ke (c:=2) rfl h2;go_in;go_wp2_with fail
  refine(E9 hs).mono ?_;rintro e w1 ⟨rfl,h1,A2⟩;have H1:=A0 h1;have Bd:Hid (A8 b w w1):=Below.only A2;go_wp2_with fail
  refine(Iz H1.o).mono ?_;rintro e w2 ⟨ln,nn,S,rfl,htk,h2,C4⟩;have Bo:Hid (A8 b w w2):=Bd.o.trans C4;have H2:=A0 h2;have HTk:=A0 htk;go_wp2;go_ret;rw[HR.o];refine J7 (l:=⟨1,(B6 s).line,[],(B6 s).n,[]⟩) (ch:=.nil) (ks:=[]) H2.o Bo.o rfl z4ra rfl rfl (fun hb=>⟨⟨?_,rfl⟩,rfl⟩);rw[Us]at hb;rw[(HTk.o hb).2.2]
 by_cases h3:kT s=3
 ·have HR:=A0 (Ao9 h3 hp);have t2:((kT s:Int)==2)=false:=kn (c:=2) rfl h2;have t3:((kT s:Int)==3)=true:=ke (c:=3) rfl h3;go_in;go_wp2_with fail
  refine(E9 hs).mono ?_;rintro e w1 ⟨rfl,h1,A2⟩;have H1:=A0 h1;have Bd:Hid (A8 b w w1):=Below.only A2;go_wp2_with fail
  refine(Iz H1.o).mono ?_;rintro e w2 ⟨ln,nn,S,rfl,htk,h2,C4⟩;have Bo:Hid (A8 b w w2):=Bd.o.trans C4;have H2:=A0 h2;have HTk:=A0 htk;go_wp2;go_ret;rw[HR.o];refine J7 (l:=⟨2,(B6 s).line,(B6 s).s,0,[]⟩) (ch:=.nil) (ks:=[]) H2.o Bo.o rfl z4ra rfl rfl (fun hb=>⟨⟨?_,rfl⟩,rfl⟩);rw[Us]at hb;rw[(HTk.o hb).2.1];rfl
 by_cases h13:kT s=13
 ·have HR:=A0 (Aoa h13 hp);have t2:((kT s:Int)==2)=false:=kn (c:=2) rfl h2;have t3:((kT s:Int)==3)=false:=kn (c:=3) rfl h3;have t13:((kT s:Int)==13)=true:=ke (c:=13) rfl h13;go_in;go_wp2_with fail
  refine(E9 hs).mono ?_;rintro e w1 ⟨rfl,h1,A2⟩;have H1:=A0 h1;have Bd:Hid (A8 b w w1):=Below.only A2;go_wp2_with fail
  refine(Iz H1.o).mono ?_;rintro e w2 ⟨ln,nn,S,rfl,htk,h2,C4⟩;have Bo:Hid (A8 b w w2):=Bd.o.trans C4;have H2:=A0 h2;have HTk:=A0 htk;go_wp2;go_ret;rw[HR.o];refine J7 (l:=B4 3 (B6 s).line) (ch:=.nil) (ks:=[]) H2.o Bo.o rfl z52a rfl rfl (fun hb=>⟨⟨?_,rfl⟩,rfl⟩);rfl
 by_cases h14:kT s=14
 ·have HR:=A0 (Ang h14 hp);have t2:((kT s:Int)==2)=false:=kn (c:=2) rfl h2;have t3:((kT s:Int)==3)=false:=kn (c:=3) rfl h3;have t13:((kT s:Int)==13)=false:=kn (c:=13) rfl h13;have t14:((kT s:Int)==14)=true:=ke (c:=14) rfl h14;go_in;go_wp2_with fail
  refine(E9 hs).mono ?_;rintro e w1 ⟨rfl,h1,A2⟩;have H1:=A0 h1;have Bd:Hid (A8 b w w1):=Below.only A2;go_wp2_with fail
  refine(Iz H1.o).mono ?_;rintro e w2 ⟨ln,nn,S,rfl,htk,h2,C4⟩;have Bo:Hid (A8 b w w2):=Bd.o.trans C4;have H2:=A0 h2;have HTk:=A0 htk;go_wp2;go_ret;rw[HR.o];refine J7 (l:=B4 4 (B6 s).line) (ch:=.nil) (ks:=[]) H2.o Bo.o rfl z52a rfl rfl (fun hb=>⟨⟨?_,rfl⟩,rfl⟩);rfl
 by_cases h15:kT s=15
 ·have HR:=A0 (Anv h15 hp);have t2:((kT s:Int)==2)=false:=kn (c:=2) rfl h2;have t3:((kT s:Int)==3)=false:=kn (c:=3) rfl h3;have t13:((kT s:Int)==13)=false:=kn (c:=13) rfl h13;have t14:((kT s:Int)==14)=false:=kn (c:=14) rfl h14;have t15:((kT s:Int)==15)=true:=ke (c:=15) rfl h15;go_in;go_wp2_with fail
  refine(E9 hs).mono ?_;rintro e w1 ⟨rfl,h1,A2⟩;have H1:=A0 h1;have Bd:Hid (A8 b w w1):=Below.only A2;go_wp2_with fail
  refine(Iz H1.o).mono ?_;rintro e w2 ⟨ln,nn,S,rfl,htk,h2,C4⟩;have Bo:Hid (A8 b w w2):=Bd.o.trans C4;have H2:=A0 h2;have HTk:=A0 htk;go_wp2;go_ret;rw[HR.o];refine J7 (l:=B4 5 (B6 s).line) (ch:=.nil) (ks:=[]) H2.o Bo.o rfl z52a rfl rfl (fun hb=>⟨⟨?_,rfl⟩,rfl⟩);rfl
 have HR:=A0 (A86 h2 h3 h13 h14 h15 h6 h7 h8 h9 h10 hp);have t2:((kT s:Int)==2)=false:=kn (c:=2) rfl h2;have t3:((kT s:Int)==3)=false:=kn (c:=3) rfl h3;have t13:((kT s:Int)==13)=false:=kn (c:=13) rfl h13;have t14:((kT s:Int)==14)=false:=kn (c:=14) rfl h14;have t15:((kT s:Int)==15)=false:=kn (c:=15) rfl h15;have HFb:s.bad=0->1<=(B6 s).line:=fun e=>(hs.lines e).1;go_in;go_wp2_with fail
 refine(E9 hs).mono ?_;rintro e w1 ⟨rfl,h1,A2⟩;have H1:=A0 h1;have Bd:Hid (A8 b w w1):=Below.only A2;go_wp2_with fail
 refine(A60 H1.o).mono ?_;rintro e w2 ⟨rfl,h2,C4⟩;have Bo:Hid (A8 b w w2):=Bd.o.trans C4;have H2:=A0 h2;go_wp2;go_ret;rw[HR.o];refine⟨_,_,rfl,PR.alloc H2.o _,Bo.o.alloc _,fun hb=>absurd hb ?_⟩;show(Et s).bad≠0;exact A16 HFb
