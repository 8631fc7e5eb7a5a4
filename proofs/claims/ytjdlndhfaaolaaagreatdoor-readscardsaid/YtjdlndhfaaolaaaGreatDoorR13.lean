import Derived.Test.YtjdlndhfaaolaaaGreatDoorR11
set_option maxHeartbeats 20000000
namespace Go.Proofs.YtjdlndhfaaolaaaGreatDoor
section
open Go.RowKit
open Go.Deep (BT)
def Nn(t:Tk):List Value:=[.int .i64 (t.k:Nat),.int .i64 (t.line:Nat),.string ⟨t.s.toArray⟩,.int .i64 t.n]
def M3(ts:List Tk):List Value:=ts.flatMap Nn
theorem Xh(xs:List Tk):∀(i j:Nat) (h:i<xs.length),j<4->(M3 xs)[i*4+j]?=(Nn xs[i])[j]?:=by
 induction xs with
 | nil=>intro i j h;simp at h
 | cons x r ih=>
  intro i j h hj;have e:M3 (x::r)=Nn x++M3 r:=by simp[M3]
  rw[e];have hl:(Nn x).length=4:=rfl;cases i with
  | zero=>rw[List.getElem?_append_left (by omega)];simp
  | succ i=>
   rw[List.getElem?_append_right (by omega),hl,show(i+1)*4+j-4=i*4+j by omega];exact ih i j (by simpa using h) hj
structure Uh (ts : List Tk) : Prop where
 few:ts.length<=100000
 last:∀i (h:i<ts.length),ts[i].k=0↔i+1=ts.length
 line:∀x∈ts,1<=x.line/\x.line<=100000/\x.k<=40
def Oj(n:Nat):Nat:=if n=0 then 0 else 2
structure Hh (b tb cap te : Nat) (ts : List Tk) (w : World) (s : PS) (pl : Nat) : Prop where
 toks:Uh ts
 rd:w.heap[b]?=some (.cells #[.slice (some ⟨tb,0,none⟩) ts.length cap,.int .i64 (pl:Nat),.int .i64 (Oj s.bad:Nat),.int .i64 (s.bad:Nat)] te (0,0))
 tok:∃cur,w.heap[tb]?=some (.cells cur 198 (0,0))/\cur.toList.take (ts.length*4)=M3 ts
 ne:tb≠b
 lt:pl<ts.length
 cap:ts.length<=cap
 good:s.bad=0->s.ts=ts.drop pl
 bad:s.bad≠0->s.ts=[Iq]/\s.bad<=100000/\pl+1=ts.length
variable {b tb cap te:Nat} {ts:List Tk} {w w':World} {s:PS} {pl:Nat}
theorem Hh.L6(h:Hh b tb cap te ts w s pl)(i j:Nat)(hi:i<ts.length)(hj:j<4):w.cell? ⟨tb,i*4+j,none⟩=(Nn ts[i])[j]?:=by
 obtain⟨cur,h1,h2⟩:=h.tok;rw[cell_of_row w tb (i*4+j) cur _ _ h1,←Xh ts i j hi hj,←h2,List.getElem?_take,if_pos (by omega),Array.getElem?_toList]
theorem Hh.of_heap(h:Hh b tb cap te ts w s pl)(h1:w'.heap[b]?=w.heap[b]?)(h2:w'.heap[tb]?=w.heap[tb]?):Hh b tb cap te ts w' s pl:=by
 obtain⟨cur,k1,k2⟩:=h.tok;exact⟨h.toks,h1.trans h.rd,⟨cur,h2.trans k1,k2⟩,h.ne,h.lt,h.cap,h.good,h.bad⟩
theorem Hh.Mx(h:Hh b tb cap te ts w s pl):tb<w.heap.size:=by
 obtain⟨cur,k1,_⟩:=h.tok;exact A5 k1
theorem Hh.below(h:Hh b tb cap te ts w s pl)(hb:Below w.heap.size w w'):Hh b tb cap te ts w' s pl:=
 h.of_heap (hb.block b (A5 h.rd)) (hb.block tb h.Mx)
theorem Hh.hd(h:Hh b tb cap te ts w s pl)(h0:s.bad=0):A6 s=(ts[pl]'h.lt):=by
 unfold A6;rw[h.good h0,List.drop_eq_getElem_cons h.lt];rfl
theorem Hh.kd(h:Hh b tb cap te ts w s pl):kT s=(ts[pl]'h.lt).k:=by
 by_cases h0:s.bad=0
 ·unfold kT;rw[h.hd h0]
 ·have h1:=h.bad h0;rw[((h.toks.last pl h.lt).2 h1.2.2)];unfold kT A6;rw[h1.1];rfl
theorem Hh.N7(h:Hh b tb cap te ts w s pl):kT s<=40:=by
 rw[h.kd];exact(h.toks.line _ (List.getElem_mem h.lt)).2.2
theorem Hh.E7(h:Hh b tb cap te ts w s pl)(hk:kT s≠0):s.bad=0/\pl+1<ts.length:=by
 by_cases h0:s.bad=0
 ·refine⟨h0,?_⟩;have:=h.toks.last pl h.lt;unfold kT at hk;rw[h.hd h0]at hk;have hlt:=h.lt;have hne:pl+1≠ts.length:=fun e=>hk (this.2 e);omega
 ·exfalso;apply hk;unfold kT A6;rw[(h.bad h0).1];rfl
theorem Hh.move(h:Hh b tb cap te ts w s pl)(hk:kT s≠0)(q:Int)(hq:q=(pl:Int)+1) :
  Hh b tb cap te ts (w.setCell ⟨b,1,none⟩ (.int .i64 q)) (Aa s) (pl+1):=by
 obtain⟨cur,k1,k2⟩:=h.tok;obtain⟨h0,hlt⟩:=h.E7 hk;subst hq;have ht:Aa s=⟨s.ts.tail,s.bad⟩:=by unfold Aa;rw[if_neg hk]
 rw[ht];refine⟨h.toks,?_,⟨cur,(Below.heap_setCell _ _ _ _ h.ne).trans k1,k2⟩,h.ne,hlt,h.cap,(fun _=>?_),(fun e=>absurd h0 e)⟩
 ·rw[heap_set h.rd];simp
 ·show s.ts.tail=_;rw[h.good h0,List.drop_eq_getElem_cons h.lt];rfl
theorem Hh.failed(h:Hh b tb cap te ts w s pl)(h0:s.bad=0)(q:Int)(hq:q=(ts.length:Int)-1)(ln:Nat)(hl:ln=(A6 s).line) :
  Hh b tb cap te ts (((w.setCell ⟨b,2,none⟩ (.int .i64 2)).setCell ⟨b,3,none⟩ (.int .i64 (ln:Nat))).setCell ⟨b,1,none⟩ (.int .i64 q)) (Cm s) (ts.length-1):=by
 obtain⟨cur,k1,k2⟩:=h.tok;subst hl hq;have hlt:=h.lt;have hline:=h.toks.line _ (List.getElem_mem h.lt);rw[←h.hd h0]at hline;have hf:Cm s=⟨[Iq],(A6 s).line⟩:=by unfold Cm;rw[if_pos h0]
 rw[hf];refine⟨h.toks,?_,⟨cur,?_,k2⟩,h.ne,by omega,h.cap,(fun e=>by simp only at e;omega),(fun _=>⟨rfl,hline.2.1,by omega⟩)⟩
 ·have:=heap_set (j:=1) (heap_set (j:=3) (heap_set (j:=2) h.rd (.int .i64 2)) (.int .i64 ((A6 s).line:Nat))) (.int .i64 ((ts.length:Int)-1));rw[this];have e:((ts.length-1:Nat):Int)=(ts.length:Int)-1:=by omega
  simp only[e,Oj,if_neg (show(A6 s).line≠0 by omega)];simp
 ·rw[Below.heap_setCell _ _ _ _ (by exact h.ne),Below.heap_setCell _ _ _ _ (by exact h.ne),Below.heap_setCell _ _ _ _ (by exact h.ne)];exact k1
theorem Hh.stay(h:Hh b tb cap te ts w s pl)(h0:s.bad≠0)(q:Int)(hq:q=(ts.length:Int)-1) :
  Hh b tb cap te ts (w.setCell ⟨b,1,none⟩ (.int .i64 q)) s pl:=by
 obtain⟨cur,k1,k2⟩:=h.tok;obtain⟨e1,e2,e3⟩:=h.bad h0;subst hq;refine⟨h.toks,?_,⟨cur,(Below.heap_setCell _ _ _ _ h.ne).trans k1,k2⟩,h.ne,h.lt,h.cap,h.good,h.bad⟩;rw[heap_set h.rd,show(ts.length:Int)-1=(pl:Int) by omega];simp
def PR(b tb cap te:Nat)(ts:List Tk)(w:World)(s:PS):Prop:=∃pl,Hh b tb cap te ts w s pl
theorem PR.below(h:PR b tb cap te ts w s)(hb:Below w.heap.size w w'):PR b tb cap te ts w' s:=by
 obtain⟨pl,h⟩:=h;exact⟨pl,h.below hb⟩
theorem PR.keep(h:PR b tb cap te ts w s)(h1:w'.heap[b]?=w.heap[b]?)(h2:w'.heap[tb]?=w.heap[tb]?):PR b tb cap te ts w' s:=by
 obtain⟨pl,h⟩:=h;exact⟨pl,h.of_heap h1 h2⟩
theorem PR.alloc(h:PR b tb cap te ts w s)(o:Obj):PR b tb cap te ts (w.alloc o) s:=h.below ((Below.refl _ _).alloc (Nat.le_refl _) _)
theorem PR.drew(h:PR b tb cap te ts w s):PR b tb cap te ts w.drew s:=h.keep rfl rfl
theorem PR.lt(h:PR b tb cap te ts w s):b<w.heap.size/\tb<w.heap.size/\tb≠b:=by
 obtain⟨pl,h⟩:=h;exact⟨A5 h.rd,h.Mx,h.ne⟩
theorem PR.N7(h:PR b tb cap te ts w s):kT s<=40:=by
 obtain⟨pl,h⟩:=h;exact h.N7
theorem PR.other(h:PR b tb cap te ts w s){p:Addr}(h1:b≠p.block)(h2:tb≠p.block)(u:Value):PR b tb cap te ts (w.setCell p u) s:=
 h.keep (Below.heap_setCell _ _ _ _ h1) (Below.heap_setCell _ _ _ _ h2)
theorem PR.Jb(h:PR b tb cap te ts w s)(h0:s.bad≠0):s.ts=[Iq]:=by
 obtain⟨pl,h⟩:=h;exact(h.bad h0).1
theorem PR.A26(h:PR b tb cap te ts w s):s.bad<=100000:=by
 obtain⟨pl,h⟩:=h;by_cases h0:s.bad=0
 ·omega
 ·exact(h.bad h0).2.1
theorem PR.E7(h:PR b tb cap te ts w s)(hk:kT s≠0):s.bad=0:=by
 obtain⟨pl,h⟩:=h;exact(h.E7 hk).1
theorem PR.lines(h:PR b tb cap te ts w s)(h0:s.bad=0):1<=(A6 s).line/\(A6 s).line<=100000:=by
 obtain⟨pl,h⟩:=h;rw[h.hd h0];have:=h.toks.line _ (List.getElem_mem h.lt);exact⟨this.1,this.2.1⟩
end
section
set_option maxRecDepth 100000
open Go.RowKit
variable {b tb cap te:Nat}{ts:List Tk}{w:World}{s:PS}
theorem Dl(h:PR b tb cap te ts w s) :
  Calls Tryz.prog 130 #[.pointer (some ⟨b,0,none⟩)] w fun e w'=>e=.returned (.int .i64 (kT s:Nat))/\PR b tb cap te ts w' s/\Below w.heap.size w w':=by
 obtain⟨pl,h⟩:=h;have c0:=Ac h.rd 0 _ rfl;have c1:=Ac h.rd 1 _ rfl;have lb:=A5 h.rd;have lt:=h.Mx;have hlt:=h.lt;have d0:=h.L6 pl 0 hlt (by omega);rw[Nn]at d0;simp only[List.getElem?_cons_zero,Nat.add_zero]at d0;rw[←h.kd]at d0;have hfew:=h.toks.few;have hcap:=h.cap;have HH:=A0 h;clear h;go_enter Tryz.func130,Tryz.ntmps130;go_wp2;go_quiet (fail)
 go_wp2;go_ret;exact⟨rfl,⟨pl,HH.o.of_heap rfl rfl⟩,⟨rfl,rfl,rfl,Nat.le_refl _,fun _ _=>rfl⟩⟩
def Um(s:PS)(ln nn:Int)(S:List UInt8):Prop:=s.bad=0->ln=(A6 s).line/\S=(A6 s).s/\nn=(A6 s).n
theorem Ii(h:PR b tb cap te ts w s) :
  Calls Tryz.prog 188 #[.pointer (some ⟨b,0,none⟩)] w fun e w'=>∃ln nn S,e=.returned (.agg #[.int .i64 (kT s:Nat),.int .i64 ln,.string ⟨S.toArray⟩,.int .i64 nn])/\Um s ln nn S/\PR b tb cap te ts w' (Aa s)/\A1 b w w':=by
 obtain⟨pl,h⟩:=h;have c0:=Ac h.rd 0 _ rfl;have c1:=Ac h.rd 1 _ rfl;have fz:=Ce h.rd;have lb:=A5 h.rd;have lt:=h.Mx;have hlt:=h.lt;have d0:=h.L6 pl 0 hlt (by omega);have d1:=h.L6 pl 1 hlt (by omega);have d2:=h.L6 pl 2 hlt (by omega);have d3:=h.L6 pl 3 hlt (by omega);rw[Nn]at d0 d1 d2 d3;simp only[List.getElem?_cons_zero,List.getElem?_cons_succ,Nat.add_zero]at d0 d1 d2 d3;rw[←h.kd]at d0;have hfew:=h.toks.few;have hcap:=h.cap;have HTk:Hid (Um s (ts[pl].line:Nat) ts[pl].n ts[pl].s):=fun h0=>by rw[h.hd h0];exact⟨rfl,rfl,rfl⟩
 have HH:=A0 h;have hne:=h.ne;clear h;generalize ts[pl].line=ln at *;generalize ts[pl].s=S at *;generalize ts[pl].n=nn at *;by_cases hk:kT s=0
 ·have t:((kT s:Int) !=0)=false:=by rw[hk];rfl
  have HE:Hid (Aa s=s):=by show _=_;unfold Aa;rw[if_pos hk]
  clear hk;go_enter Tryz.func188,Tryz.ntmps188;go_wp2;go_region
  all_goals go_wp2
  all_goals refine bodyPost_ret (v:=.agg #[.int .i64 (kT s:Nat),.int .i64 (ln:Nat),.string ⟨S.toArray⟩,.int .i64 nn]) (by simp[results,Tryz.results188,go_sem]) rfl ⟨_,_,_,rfl,HTk.o,?_,?_⟩
  all_goals first
   | exact((((PR.alloc (PR.alloc ⟨pl,HE.o.symm ▸ HH.o⟩ _) _)).drew))
   | exact(((A1.refl b w).alloc _).alloc _).drew
 ·have t:((kT s:Int) !=0)=true:=by simpa using hk
  have HK:=A0 hk;clear hk;go_enter Tryz.func188,Tryz.ntmps188;go_wp2;go_region
  all_goals go_wp2
  all_goals refine bodyPost_ret (v:=.agg #[.int .i64 (kT s:Nat),.int .i64 (ln:Nat),.string ⟨S.toArray⟩,.int .i64 nn]) (by simp[results,Tryz.results188,go_sem]) rfl ⟨_,_,_,rfl,HTk.o,?_,?_⟩
  all_goals first
   | exact((((PR.alloc (PR.alloc ⟨pl+1,HH.o.move HK.o _ rfl⟩ _) _)).drew))
   | exact(((A1.set (p:=⟨b,1,none⟩) (A1.refl b w) (.inl rfl) _).alloc _).alloc _).drew
theorem Yl(h:PR b tb cap te ts w s) :
  Calls Tryz.prog 230 #[.pointer (some ⟨b,0,none⟩)] w fun e w'=>e=.returned (.tuple #[])/\PR b tb cap te ts w' (Cm s)/\A1 b w w':=by
 obtain⟨pl,h⟩:=h;have c0:=Ac h.rd 0 _ rfl;have c1:=Ac h.rd 1 _ rfl;have c2:=Ac h.rd 2 _ rfl;have c3:=Ac h.rd 3 _ rfl;have fz:=Ce h.rd;have lb:=A5 h.rd;have lt:=h.Mx;have hlt:=h.lt;have d1:=h.L6 pl 1 hlt (by omega);rw[Nn]at d1;simp only[List.getElem?_cons_zero,List.getElem?_cons_succ]at d1;have hfew:=h.toks.few;have hcap:=h.cap;have HH:=A0 h;have hne:=h.ne;by_cases h0:s.bad=0
 ·have HD:Hid (ts[pl].line=(A6 s).line):=by show _=_;rw[h.hd h0]
  have HB:=A0 (fun(w1:World) (e:w1.heap=w.heap)=>(h.of_heap (w':=w1) (by rw[e]) (by rw[e])).failed h0 _ rfl _ HD.o);replace c2:w.cell? ⟨b,2,none⟩=some (.int .i64 0):=by rw[c2,h0];rfl
  clear h h0;generalize ts[pl].line=ln at *;go_enter Tryz.func230,Tryz.ntmps230;go_wp2;go_region
  all_goals go_wp2
  all_goals go_end0
  all_goals exact⟨rfl,PR.drew ⟨_,HB.o w rfl⟩,(A1.set (p:=⟨b,1,none⟩) (A1.set (p:=⟨b,3,none⟩) (A1.set (p:=⟨b,2,none⟩) (A1.refl b w) (.inl rfl) _) (.inl rfl) _) (.inl rfl) _).drew⟩
 ·have h2:Oj s.bad=2:=by unfold Oj;rw[if_neg h0]
  replace c2:w.cell? ⟨b,2,none⟩=some (.int .i64 2):=by rw[c2];show some (Value.int .i64 ((Oj s.bad:Nat):Int))=_;rw[h2];rfl
  have HF:Hid (Cm s=s):=by show _=_;unfold Cm;rw[if_neg h0]
  have HB:=A0 (h.stay h0 _ rfl);clear h h0 h2;go_enter Tryz.func230,Tryz.ntmps230;go_wp2;go_end0;exact⟨rfl,⟨pl,by rw[HF.o];exact HB.o⟩,A1.set (p:=⟨b,1,none⟩) (A1.refl b w) (.inl rfl) _⟩
theorem Acs{s:PS}(h:kT s=0):Aa s=s:=by unfold Aa;rw[if_pos h]
theorem A5m(s:PS)(h:s.bad≠0->s.ts=[Iq]):kT (Cm s)=0:=by
 unfold Cm;split
 ·rfl
 ·rename_i h0;unfold kT A6;rw[h h0];rfl
theorem K2(h:PR b tb cap te ts w s)(k:Nat) :
  Calls Tryz.prog 182 #[.pointer (some ⟨b,0,none⟩),.int .i64 (k:Nat)] w fun e w'=>∃kk ln nn S,e=.returned (.agg #[.int .i64 kk,.int .i64 ln,.string ⟨S.toArray⟩,.int .i64 nn])/\((Ah k s).bad=0->Um s ln nn S/\kT s=k)/\PR b tb cap te ts w' (Ah k s)/\A1 b w w':=by
 have HH:=A0 h;have Fb:=h.N7;have HSt:Hid (s.bad≠0->s.ts=[Iq]):=h.Jb;have HFb:Hid (s.bad=0->1<=(A6 s).line):=fun e=>(h.lines e).1;clear h;by_cases hc:kT s=k
 ·have t:((kT s:Int) !=(k:Int))=false:=by rw[hc];simp
  have HW:Hid (Ah k s=Aa s):=by show _=_;unfold Ah;rw[if_pos hc]
  have HC:=A0 hc;clear hc;go_enter Tryz.func182,Tryz.ntmps182;go_wp2_with fail
  refine(Dl (HH.o.alloc _)).mono ?_;rintro e w1 ⟨rfl,h1,A3⟩;have H1:=A0 h1;have hR:=Bg A3 (heap_alloc_new w (.cells #[.int .i64 0,.int .i64 0,.string ⟨#[]⟩,.int .i64 0] 198));have HR:=A0 hR;have Cz:=A5 hR;have Ae:Hid (A1 b w w1):=((A1.refl b w).alloc _).trans (Below.only A3);have lb:=HH.o.lt;clear h1 A3 hR;go_wp2_with fail
  refine(Ii H1.o).mono ?_;rintro e w2 ⟨ln,nn,S,rfl,htk,h2,Ap⟩;have G6:=Ap.blk HR.o (by omega);obtain⟨x0,x1,x2,x3,fx,lx⟩:=Ci G6;have Al:Hid (A1 b w w2):=Ae.o.trans Ap;have H2:=A0 h2;have HTk:=A0 htk;clear h2 htk G6 Ap;go_wp2;refine bodyPost_ret (v:=.agg #[.int .i64 (kT s:Nat),.int .i64 ln,.string ⟨S.toArray⟩,.int .i64 nn]) (by simp[results,Tryz.results182,go_sem,x0,x1,x2,x3]) rfl ?_;rw[HW.o];refine⟨_,_,_,_,rfl,fun _=>⟨HTk.o,HC.o⟩,?_,A1.Hp Al.o (Nat.le_refl _) _ _ _ _⟩;exact PR.keep H2.o (Hq (by omega) _ _ _ _) (Hq (by omega) _ _ _ _)
 ·have t:((kT s:Int) !=(k:Int))=true:=by simp;omega
  have HW:Hid (Ah k s=Cm s):=by show _=_;unfold Ah;rw[if_neg hc]
  have HZ:Hid (Aa (Cm s)=Cm s):=Acs (A5m s HSt.o);have HN:Hid ((Cm s).bad≠0):=by
   show _≠_;unfold Cm;split
   ·have:=HFb.o (by assumption);simp only;omega
   ·assumption
  clear hc;go_enter Tryz.func182,Tryz.ntmps182;go_wp2_with fail
  refine(Dl (HH.o.alloc _)).mono ?_;rintro e w1 ⟨rfl,h1,A3⟩;have H1:=A0 h1;have hR:=Bg A3 (heap_alloc_new w (.cells #[.int .i64 0,.int .i64 0,.string ⟨#[]⟩,.int .i64 0] 198));have HR:=A0 hR;have Cz:=A5 hR;have Ae:Hid (A1 b w w1):=((A1.refl b w).alloc _).trans (Below.only A3);have lb:=HH.o.lt;clear h1 A3 hR;go_wp2_with fail
  refine(Yl H1.o).mono ?_;rintro e w3 ⟨rfl,h3,Af⟩;have He:=A0 (Af.blk HR.o (by omega));have Ay:Hid (A1 b w w3):=Ae.o.trans Af;have H3:=A0 h3;clear h3 Af;go_wp2_with fail
  refine(Ii H3.o).mono ?_;rintro e w2 ⟨ln,nn,S,rfl,htk,h2,Ap⟩;rw[HZ.o]at h2;have G6:=Ap.blk He.o (by omega);obtain⟨x0,x1,x2,x3,fx,lx⟩:=Ci G6;have Al:Hid (A1 b w w2):=Ay.o.trans Ap;have H2:=A0 h2;clear h2 htk G6 Ap;go_wp2;refine bodyPost_ret (v:=.agg #[.int .i64 (kT (Cm s):Nat),.int .i64 ln,.string ⟨S.toArray⟩,.int .i64 nn]) (by simp[results,Tryz.results182,go_sem,x0,x1,x2,x3]) rfl ?_;rw[HW.o];refine⟨_,_,_,_,rfl,fun e=>absurd e HN.o,?_,A1.Hp Al.o (Nat.le_refl _) _ _ _ _⟩;exact PR.keep H2.o (Hq (by omega) _ _ _ _) (Hq (by omega) _ _ _ _)
theorem Ni(h:PR b tb cap te ts w s)(k:Nat) :
  Calls Tryz.prog 231 #[.pointer (some ⟨b,0,none⟩),.int .i64 (k:Nat)] w fun e w'=>e=.returned (.bool (kT s==k))/\PR b tb cap te ts w' (F0 k s)/\A1 b w w':=by
 have HH:=A0 h;have Fb:=h.N7;clear h;by_cases hc:kT s=k
 ·have t:((kT s:Int) !=(k:Int))=false:=by rw[hc];simp
  have HW:Hid (F0 k s=Aa s):=by show _=_;unfold F0;rw[if_pos hc]
  have HC:Hid ((kT s==k)=true):=by show _=_;simpa using hc
  clear hc;go_enter Tryz.func231,Tryz.ntmps231;go_wp2_with fail
  refine(Dl HH.o).mono ?_;rintro e w1 ⟨rfl,h1,A3⟩;have H1:=A0 h1;have Ae:Hid (A1 b w w1):=Below.only A3;clear h1 A3;go_wp2_with fail
  refine(Ii H1.o).mono ?_;rintro e w2 ⟨ln,nn,S,rfl,htk,h2,Ap⟩;have Al:Hid (A1 b w w2):=Ae.o.trans Ap;have H2:=A0 h2;clear h2 htk Ap;go_wp2;go_ret;exact⟨Nu HC.o.symm,by rw[HW.o];exact H2.o,Al.o⟩
 ·have t:((kT s:Int) !=(k:Int))=true:=by simp;omega
  have HW:Hid (F0 k s=s):=by show _=_;unfold F0;rw[if_neg hc]
  have HC:Hid ((kT s==k)=false):=by show _=_;simpa using hc
  clear hc;go_enter Tryz.func231,Tryz.ntmps231;go_wp2_with fail
  refine(Dl HH.o).mono ?_;rintro e w1 ⟨rfl,h1,A3⟩;have H1:=A0 h1;have Ae:Hid (A1 b w w1):=Below.only A3;clear h1 A3;go_wp2;go_ret;exact⟨Nu HC.o.symm,by rw[HW.o];exact H1.o,Ae.o⟩
theorem T4(h:PR b tb cap te ts w s) :
  Calls Tryz.prog 183 #[.pointer (some ⟨b,0,none⟩)] w fun e w'=>∃ln S,e=.returned (.agg #[.int .i64 ln,.string ⟨S.toArray⟩])/\((Ah 1 s).bad=0->ln=(A6 s).line/\S=(A6 s).s)/\PR b tb cap te ts w' (Ah 1 s)/\A1 b w w':=by
 have HH:=A0 h;have lb:=h.lt;have HG:Hid ((Ah 1 s).bad=0->s.bad=0):=by
  intro e;by_cases h0:s.bad=0
  ·exact h0
  ·exfalso;apply h0;have hk:kT s≠1:=by unfold kT A6;rw[h.Jb h0];decide
   unfold Ah at e;rw[if_neg hk]at e;unfold Cm at e;rw[if_neg h0]at e;exact e
 clear h;go_enter Tryz.func183,Tryz.ntmps183;go_wp2_with fail
 refine(K2 (HH.o.alloc _) 1).mono ?_;rintro e w1 ⟨kk,ln,nn,S,rfl,htk,h1,B5⟩;have hR:=B5.blk (heap_alloc_new w (.cells #[.int .i64 0,.string ⟨#[]⟩] 148)) (by omega);have x0:=Ac hR 0 _ rfl;have x1:=Ac hR 1 _ rfl;have fx:=Ce hR;have lx:=A5 hR;have Ae:Hid (A1 b w w1):=((A1.refl b w).alloc _).trans B5;have H1:=A0 h1;have HTk:=A0 htk;clear h1 htk hR B5;go_wp2;refine bodyPost_ret (v:=.agg #[.int .i64 ln,.string ⟨S.toArray⟩]) (by simp[results,Tryz.results183,go_sem,x0,x1,lx]) rfl ?_;refine⟨_,_,rfl,fun e=>?_,PR.alloc (PR.keep H1.o ?_ ?_) _,A1.alloc (A1.set (p:=⟨w.heap.size,1,none⟩) (A1.set (p:=⟨w.heap.size,0,none⟩) Ae.o (.inr (Nat.le_refl _)) _) (.inr (Nat.le_refl _)) _) _⟩
 ·have:=(HTk.o e).1 (HG.o e);exact⟨this.1,this.2.1⟩
 ·rw[Below.heap_setCell _ _ _ _ (by show b≠w.heap.size;omega),Below.heap_setCell _ _ _ _ (by show b≠w.heap.size;omega)]
 ·rw[Below.heap_setCell _ _ _ _ (by show tb≠w.heap.size;omega),Below.heap_setCell _ _ _ _ (by show tb≠w.heap.size;omega)]
end
section
open Go.RowKit
open Go.Deep (BT)
def C3(kd:Nat):TypeId:=
 match kd with
 | 1=>220|2=>229|3=>233|4=>233|5=>237|6=>238|7=>301|8=>241
 | 9=>296|10=>304|11=>307|12=>310|13=>244|14=>244
 | 20=>143|21=>145|22=>253|23=>255|24=>257|25=>259|26=>264
 | 27=>265|28=>268|29=>268|30=>270|_=>248
def Db(kd:Nat):TypeId:=
 match kd with
 | 1=>228|2=>232|3=>236|4=>236|5=>450|6=>240|7=>303|8=>243
 | 9=>300|10=>306|11=>309|12=>312|13=>246|14=>246
 | 20=>218|21=>152|22=>314|23=>317|24=>318|25=>367|26=>368
 | 27=>267|28=>322|29=>322|30=>272|_=>295
def Gz(n:Nat):Value:=.int .i64 (n:Nat)
def Ln(s:List UInt8):Value:=.string ⟨s.toArray⟩
def Bx(b:Nat):Value:=.pointer (some ⟨b,0,none⟩)
def Lv(ps:List (Nat×List UInt8)):List Value:=ps.flatMap fun p=>[Gz p.1,Ln p.2]
def Ck(D:Nat->Prop)(w:World)(l:A2)(cs:Array Value)(ks:List Value):Prop:=
 match l.kd with
 | 1=>cs=#[.int .i64 l.n]/\ks=[]
 | 2=>cs=#[Ln l.s]/\ks=[]
 | 3=>cs=#[.bool true]/\ks=[]
 | 4=>cs=#[.bool false]/\ks=[]
 | 5=>cs=#[]/\ks=[]
 | 6=>cs=#[Gz l.line,Ln l.s]/\ks=[]
 | 7=>∃sl,cs=#[Gz l.line,Ln l.s,sl]/\C1 D w 150 1 sl ks.length ks
 | 8=>∃a,cs=#[a]/\ks=[a]
 | 9=>∃sl,cs=#[Gz l.line,sl]/\C1 D w 150 1 sl ks.length ks
 | 10=>∃a,cs=#[Gz l.line,a]/\ks=[a]
 | 11=>∃a b,cs=#[Gz l.line,a,b]/\ks=[a,b]
 | 12=>∃a b,cs=#[Gz l.line,a,b]/\ks=[a,b]
 | 13=>∃a,cs=#[Gz l.line,.int .i64 28,a]/\ks=[a]
 | 14=>∃a,cs=#[Gz l.line,.int .i64 35,a]/\ks=[a]
 | 20=>∃ps sl,cs=#[Gz l.line,Ln l.s,ps,sl]/\C1 D w 142 1 sl ks.length ks/\C1 D w 148 2 ps l.ps.length (Lv l.ps)
 | 21=>∃a,cs=#[Gz l.line,Ln l.s,a]/\ks=[a]
 | 22=>∃t x a1 n1 c1 a2 n2 c2,cs=#[Gz l.line,.iface t x,.slice a1 n1 c1,.slice a2 n2 c2]/\((ks=[.iface t x,.slice a1 n1 c1]/\Value.slice a2 n2 c2=.slice none 0 0)\/ks=[.iface t x,.slice a1 n1 c1,.slice a2 n2 c2])
 | 23=>∃t x a1 n1 c1,cs=#[Gz l.line,.iface t x,.slice a1 n1 c1]/\ks=[.iface t x,.slice a1 n1 c1]
 | 24=>∃a,cs=#[Gz l.line,a]/\((ks=[]/\a=.nilIface)\/ks=[a])
 | 25=>cs=#[Gz l.line]/\ks=[]
 | 26=>cs=#[Gz l.line]/\ks=[]
 | 27=>∃a,cs=#[Gz l.line,a]/\ks=[a]
 | 28=>∃b2 a,cs=#[.iface 238 (Bx b2),a]/\D b2/\w.heap[b2]?=some (.cells #[Gz l.line,Ln l.s] 240 (0,0))/\ks=[a]
 | 29=>∃b2 o p a,cs=#[.iface 310 (Bx b2),a]/\D b2/\w.heap[b2]?=some (.cells #[Gz l.line,o,p] 312 (0,0))/\ks=[o,p,a]
 | 30=>∃a,cs=#[a]/\ks=[a]
 | kd=>∃a b,cs=#[Gz l.line,.int .i64 ((kd-100:Nat):Nat),a,b]/\ks=[a,b]
def Ba(D:Nat->Prop)(w:World)(l:A2)(v:Value)(ks:List Value):Prop:=
 if l.kd=31\/l.kd=32 then(∃a n c,v=.slice a n c)/\C1 D w 142 1 v ks.length ks
 else ∃b cs,v=.iface (C3 l.kd) (Bx b)/\D b/\w.heap[b]?=some (.cells cs (Db l.kd) (0,0))/\Ck D w l cs ks
def Aj(D:Nat->Prop)(w:World):BT A2->List Value->Prop
 | .nil,vs=>vs=[]
 | .node _ _ l ch sib,vs=>∃v ks rest,vs=v::rest/\Ba D w l v ks/\Aj D w ch ks/\Aj D w sib rest
variable {D D':Nat->Prop} {w w':World}
theorem Ck.keep(hk:∀g,D g->g<w.heap.size->w'.heap[g]?=w.heap[g]?/\D' g){l:A2}{cs:Array Value}{ks:List Value}(h:Ck D w l cs ks):Ck D' w' l cs ks:=by
 unfold Ck at h ⊢;split at h <;> try exact h
 ·obtain⟨sl,e,o⟩:=h;exact⟨sl,e,o.keep hk⟩
 ·obtain⟨sl,e,o⟩:=h;exact⟨sl,e,o.keep hk⟩
 ·obtain⟨ps,sl,e,o,p⟩:=h;exact⟨ps,sl,e,o.keep hk,p.keep hk⟩
 ·obtain⟨b2,a,e,d,hb,k⟩:=h;exact⟨b2,a,e,(hk _ d (A5 hb)).2,(hk _ d (A5 hb)).1.trans hb,k⟩
 ·obtain⟨b2,o,p,a,e,d,hb,k⟩:=h;exact⟨b2,o,p,a,e,(hk _ d (A5 hb)).2,(hk _ d (A5 hb)).1.trans hb,k⟩
theorem Ba.keep(hk:∀g,D g->g<w.heap.size->w'.heap[g]?=w.heap[g]?/\D' g){l:A2}{v:Value}{ks:List Value}(h:Ba D w l v ks):Ba D' w' l v ks:=by
 unfold Ba at h ⊢;split at h
 ·rename_i h1;rw[if_pos h1];exact⟨h.1,h.2.keep hk⟩
 ·rename_i h1;rw[if_neg h1];obtain⟨b,cs,e,d,hb,k⟩:=h;exact⟨b,cs,e,(hk _ d (A5 hb)).2,(hk _ d (A5 hb)).1.trans hb,k.keep hk⟩
theorem Aj.keep(hk:∀g,D g->g<w.heap.size->w'.heap[g]?=w.heap[g]?/\D' g):∀(f:BT A2) (vs:List Value),Aj D w f vs->Aj D' w' f vs:=by
 intro f;induction f with
 | nil=>intro vs h;exact h
 | node x y l ch sib C2 Bl=>
  intro vs h;obtain⟨v,ks,rest,rfl,h1,h2,h3⟩:=h;exact⟨v,ks,rest,rfl,h1.keep hk,C2 _ h2,Bl _ h3⟩
theorem Aj.app:∀(f g:BT A2) (c1 c2:List Value),Aj D w f c1->Aj D w g c2->Aj D w (B6 f g) (c1++c2):=by
 intro f;induction f with
 | nil=>intro g c1 c2 h1 h2;rw[Aj]at h1;subst h1;exact h2
 | node x y l ch sib C2 Bl=>
  intro g c1 c2 h1 h2;obtain⟨v,ks,rest,rfl,k1,k2,k3⟩:=h1;rw[B6];exact⟨v,ks,rest++c2,rfl,k1,k2,Bl g rest c2 k3 h2⟩
theorem Aj.len:∀(f:BT A2) (vs:List Value),Aj D w f vs->vs.length=A8 f:=by
 intro f;induction f with
 | nil=>intro vs h;rw[Aj]at h;subst h;rfl
 | node x y l ch sib C2 Bl=>
  intro vs h;obtain⟨v,ks,rest,rfl,k1,k2,k3⟩:=h;rw[A8,List.length_cons,Bl rest k3]
theorem Aj.one{l:A2}{ch:BT A2}{v:Value}{ks:List Value}(h1:Ba D w l v ks)(h2:Aj D w ch ks):Aj D w (nd l ch) [v]:=⟨v,ks,[],rfl,h1,h2,rfl⟩
theorem Ba.new{l:A2}{b:Nat}{cs:Array Value}{ks:List Value}(h:¬(l.kd=31\/l.kd=32))(hD:D b)(hb:w.heap[b]?=some (.cells cs (Db l.kd) (0,0)))(hl:Ck D w l cs ks):Ba D w l (.iface (C3 l.kd) (Bx b)) ks:=by
 unfold Ba;rw[if_neg h];exact⟨b,cs,rfl,hD,hb,hl⟩
theorem Aj.only{b n:Nat}(hb:b<n)(ho:A1 b w w'){f:BT A2}{vs:List Value}(h:Aj (fun g=>n<=g) w f vs):Aj (fun g=>n<=g) w' f vs:=
 Aj.keep (fun g hg hl=>⟨ho.block g hl (by omega),hg⟩) _ _ h
theorem Aj.weak{n m:Nat}(hm:m<=n){f:BT A2}{vs:List Value}(h:Aj (fun g=>n<=g) w f vs):Aj (fun g=>m<=g) w f vs:=
 Aj.keep (fun g hg _=>⟨rfl,by omega⟩) _ _ h
theorem Aj.later{b n m:Nat}(hm:m<=n)(hb:b<n)(ho:A1 b w w'){f:BT A2}{vs:List Value}(h:Aj (fun g=>n<=g) w f vs):Aj (fun g=>m<=g) w' f vs:=(h.only hb ho).weak hm
def Il(b tb cap te:Nat)(ts:List Tk)(w:World)(r:BT A2×PS)(e:Ending)(w':World):Prop:=
 ∃t x,e=.returned (.iface t x)/\PR b tb cap te ts w' r.2/\A1 b w w'/\(r.2.bad=0->Aj (fun g=>w.heap.size<=g) w' r.1 [.iface t x])
def Sn(T:TypeId)(b tb cap te:Nat)(ts:List Tk)(w:World)(r:BT A2×PS)(e:Ending)(w':World):Prop:=
 ∃va vn vc cs,e=.returned (.slice va vn vc)/\C1 (fun g=>w.heap.size<=g) w' T 1 (.slice va vn vc) cs.length cs/\PR b tb cap te ts w' r.2/\A1 b w w'/\(r.2.bad=0->Aj (fun g=>w.heap.size<=g) w' r.1 cs)
structure Jt (b tb cap te : Nat) (ts : List Tk) (n : Nat) : Prop where
 expr:∀w s a r,a<=6->PR b tb cap te ts w s->A7 n 0 a .nil s=some r->Calls Tryz.prog 232 #[.pointer (some ⟨b,0,none⟩),.int .i64 ((a+1:Nat):Nat)] w (Il b tb cap te ts w r)
 unary:∀w s r,PR b tb cap te ts w s->A7 n 2 0 .nil s=some r->Calls Tryz.prog 261 #[.pointer (some ⟨b,0,none⟩)] w (Il b tb cap te ts w r)
 atom:∀w s r,PR b tb cap te ts w s->A7 n 4 0 .nil s=some r->Calls Tryz.prog 296 #[.pointer (some ⟨b,0,none⟩)] w (Il b tb cap te ts w r)
 list:∀w s a r,PR b tb cap te ts w s->A7 n 5 a .nil s=some r->Calls Tryz.prog 309 #[.pointer (some ⟨b,0,none⟩),.int .i64 (a:Nat)] w (Sn 150 b tb cap te ts w r)
 block:∀w s r,PR b tb cap te ts w s->A7 n 7 0 .nil s=some r->Calls Tryz.prog 185 #[.pointer (some ⟨b,0,none⟩)] w (Sn 142 b tb cap te ts w r)
 stmt:∀w s r,PR b tb cap te ts w s->A7 n 9 0 .nil s=some r->Calls Tryz.prog 132 #[.pointer (some ⟨b,0,none⟩)] w (Il b tb cap te ts w r)
theorem Ir{b tb cap te:Nat}{ts:List Tk}{w W:World}{r:BT A2×PS}{l:A2}{ch:BT A2}{cs:Array Value}{t tt:TypeId}{ks:List Value}(hr:PR b tb cap te ts W r.2)(ho:A1 b w W)(e1:r.1=nd l ch)(h31:¬(l.kd=31\/l.kd=32))(ht:t=C3 l.kd)(htt:tt=Db l.kd)
  (hl:r.2.bad=0->Ck (fun g=>w.heap.size<=g) W l cs ks/\Aj (fun g=>w.heap.size<=g) W ch ks) :
  Il b tb cap te ts w r (.returned (.iface t (.pointer (some ⟨W.heap.size,0,none⟩)))) (W.alloc (.cells cs tt)):=by
 subst htt;refine⟨t,_,rfl,hr.alloc _,ho.alloc _,fun h=>?_⟩;rw[e1,ht];obtain⟨h1,h2⟩:=hl h;have hk:∀g,w.heap.size<=g->g<W.heap.size->(W.alloc (.cells cs (Db l.kd))).heap[g]?=W.heap[g]?/\w.heap.size<=g:=fun g hg hl=>⟨Below.heap_alloc _ _ _ hl,hg⟩;exact Aj.one (Ba.new h31 ho.size (heap_alloc_new W _) (h1.keep hk)) (Aj.keep hk _ _ h2)
end
section
set_option maxRecDepth 100000
open Go.RowKit
open Go.Deep (BT)
theorem n8(k:Nat)(hk:k<=40)(w:World):Calls Tryz.prog 262 #[.int .i64 (k:Nat)] w fun e w'=>e=.returned (.int .i64 (rowOf k:Nat))/\w'=w:=by
 by_cases hc:k=40\/k=39\/k=27\/k=29\/k=30\/k=31\/k=32\/k=33\/k=34\/k=35\/k=36\/k=37\/k=38
 ·rcases hc with rfl|rfl|rfl|rfl|rfl|rfl|rfl|rfl|rfl|rfl|rfl|rfl|rfl;all_goals
   go_enter Tryz.func262,Tryz.ntmps262;go_wp2;go_ret;exact⟨rfl,rfl⟩
 ·have h0:rowOf k=0:=by
   unfold rowOf;rw[if_neg (by omega),if_neg (by omega),if_neg (by omega),if_neg (by omega),if_neg (by omega),if_neg (by omega)]
  have hn:∀c:Int,c=40\/c=39\/c=27\/c=29\/c=30\/c=31\/c=32\/c=33\/c=34\/c=35\/c=36\/c=37\/c=38->((k:Int)==c)=false:=by
   intro c h;rw[beq_eq_false_iff_ne];omega
  have t1:=hn 40 (by omega);have t2:=hn 39 (by omega);have t3:=hn 27 (by omega);have t4:=hn 29 (by omega);have t5:=hn 30 (by omega);have t6:=hn 31 (by omega);have t7:=hn 32 (by omega);have t8:=hn 33 (by omega);have t9:=hn 34 (by omega);have t10:=hn 35 (by omega);have t11:=hn 36 (by omega);have t12:=hn 37 (by omega);have t13:=hn 38 (by omega);clear hn hc;have H0:=A0 h0;clear h0;go_enter Tryz.func262,Tryz.ntmps262;go_wp2;go_ret;exact⟨by rw[H0.o];rfl,rfl⟩
theorem cf0(k n l:Int)(S:ByteArray)(w:World):(Instr.field 198 (.agg #[.int .i64 k,.int .i64 l,.string S,.int .i64 n]) 0).run Tryz.prog w=.ok (.int .i64 k) w:=by kernel_rfl
theorem Me(k n l:Int)(S:ByteArray)(w:World):(Instr.field 198 (.agg #[.int .i64 k,.int .i64 l,.string S,.int .i64 n]) 1).run Tryz.prog w=.ok (.int .i64 l) w:=by kernel_rfl
theorem cf2(k n l:Int)(S:ByteArray)(w:World):(Instr.field 198 (.agg #[.int .i64 k,.int .i64 l,.string S,.int .i64 n]) 2).run Tryz.prog w=.ok (.string S) w:=by kernel_rfl
theorem cf3(k n l:Int)(S:ByteArray)(w:World):(Instr.field 198 (.agg #[.int .i64 k,.int .i64 l,.string S,.int .i64 n]) 3).run Tryz.prog w=.ok (.int .i64 n) w:=by kernel_rfl
theorem Ra(s:PS):(Aa s).bad=s.bad:=by unfold Aa;split <;> rfl
theorem ke{k c:Nat}{d:Int}(hd:(c:Int)=d)(h:k=c):((k:Int)==d)=true:=by subst hd h;simp
theorem kn{k c:Nat}{d:Int}(hd:(c:Int)=d)(h:k≠c):((k:Int)==d)=false:=by subst hd;rw[beq_eq_false_iff_ne];omega
theorem V4{s:PS}(h:s.bad=0->1<=(A6 s).line):(Cm s).bad≠0:=by
 unfold Cm;split
 ·have:=h (by assumption);simp only;omega
 ·assumption
theorem A6z{b tb cap te:Nat}{ts:List Tk}{n:Nat}(w:World)(s:PS)(r:BT A2×PS)(h6:kT s≠1)(h7:kT s≠18)(h8:kT s≠22)(h9:kT s≠16)(h10:kT s≠17)(hs:PR b tb cap te ts w s)(hp:A7 (n+1) 4 0 .nil s=some r) :
  Calls Tryz.prog 313 #[.pointer (some ⟨b,0,none⟩)] w (Il b tb cap te ts w r):=by
 have HS:=A0 hs;have hf0:=cf0;have hf2:=cf2;have hf3:=cf3;by_cases h2:kT s=2
 ·have HR:=A0 (Px h2 hp);have t2:((kT s:Int)==2)=true:=ke (c:=2) rfl h2;clear hp hs h6 h7 h8 h9 h10 h2;go_enter Tryz.func313,Tryz.ntmps313;go_wp2_with fail
  refine(Dl HS.o).mono ?_;rintro e w1 ⟨rfl,h1,A3⟩;have H1:=A0 h1;have Ae:Hid (A1 b w w1):=Below.only A3;clear h1 A3;go_wp2_with fail
  refine(Ii H1.o).mono ?_;rintro e w2 ⟨ln,nn,S,rfl,htk,h2,Ap⟩;have Al:Hid (A1 b w w2):=Ae.o.trans Ap;have H2:=A0 h2;have HTk:=A0 htk;clear h2 htk Ap;go_wp2;go_ret;rw[HR.o];refine Ir (l:=⟨1,(A6 s).line,[],(A6 s).n,[]⟩) (ch:=.nil) (ks:=[]) H2.o Al.o rfl (by simp) rfl rfl (fun hb=>⟨⟨?_,rfl⟩,rfl⟩);rw[Ra]at hb;rw[(HTk.o hb).2.2]
 by_cases h3:kT s=3
 ·have HR:=A0 (Q5 h3 hp);have t2:((kT s:Int)==2)=false:=kn (c:=2) rfl h2;have t3:((kT s:Int)==3)=true:=ke (c:=3) rfl h3;clear hp hs h6 h7 h8 h9 h10 h3;go_enter Tryz.func313,Tryz.ntmps313;go_wp2_with fail
  refine(Dl HS.o).mono ?_;rintro e w1 ⟨rfl,h1,A3⟩;have H1:=A0 h1;have Ae:Hid (A1 b w w1):=Below.only A3;clear h1 A3;go_wp2_with fail
  refine(Ii H1.o).mono ?_;rintro e w2 ⟨ln,nn,S,rfl,htk,h2,Ap⟩;have Al:Hid (A1 b w w2):=Ae.o.trans Ap;have H2:=A0 h2;have HTk:=A0 htk;clear h2 htk Ap;go_wp2;go_ret;rw[HR.o];refine Ir (l:=⟨2,(A6 s).line,(A6 s).s,0,[]⟩) (ch:=.nil) (ks:=[]) H2.o Al.o rfl (by simp) rfl rfl (fun hb=>⟨⟨?_,rfl⟩,rfl⟩);rw[Ra]at hb;rw[(HTk.o hb).2.1];rfl
 by_cases h13:kT s=13
 ·have HR:=A0 (Q6 h13 hp);have t2:((kT s:Int)==2)=false:=kn (c:=2) rfl h2;have t3:((kT s:Int)==3)=false:=kn (c:=3) rfl h3;have t13:((kT s:Int)==13)=true:=ke (c:=13) rfl h13;clear hp hs h6 h7 h8 h9 h10 h13;go_enter Tryz.func313,Tryz.ntmps313;go_wp2_with fail
  refine(Dl HS.o).mono ?_;rintro e w1 ⟨rfl,h1,A3⟩;have H1:=A0 h1;have Ae:Hid (A1 b w w1):=Below.only A3;clear h1 A3;go_wp2_with fail
  refine(Ii H1.o).mono ?_;rintro e w2 ⟨ln,nn,S,rfl,htk,h2,Ap⟩;have Al:Hid (A1 b w w2):=Ae.o.trans Ap;have H2:=A0 h2;have HTk:=A0 htk;clear h2 htk Ap;go_wp2;go_ret;rw[HR.o];refine Ir (l:=Ao 3 (A6 s).line) (ch:=.nil) (ks:=[]) H2.o Al.o rfl (by simp[Ao]) rfl rfl (fun hb=>⟨⟨?_,rfl⟩,rfl⟩);rfl
 by_cases h14:kT s=14
 ·have HR:=A0 (Pu h14 hp);have t2:((kT s:Int)==2)=false:=kn (c:=2) rfl h2;have t3:((kT s:Int)==3)=false:=kn (c:=3) rfl h3;have t13:((kT s:Int)==13)=false:=kn (c:=13) rfl h13;have t14:((kT s:Int)==14)=true:=ke (c:=14) rfl h14;clear h13;clear hp hs h6 h7 h8 h9 h10 h14;go_enter Tryz.func313,Tryz.ntmps313;go_wp2_with fail
  refine(Dl HS.o).mono ?_;rintro e w1 ⟨rfl,h1,A3⟩;have H1:=A0 h1;have Ae:Hid (A1 b w w1):=Below.only A3;clear h1 A3;go_wp2_with fail
  refine(Ii H1.o).mono ?_;rintro e w2 ⟨ln,nn,S,rfl,htk,h2,Ap⟩;have Al:Hid (A1 b w w2):=Ae.o.trans Ap;have H2:=A0 h2;have HTk:=A0 htk;clear h2 htk Ap;go_wp2;go_ret;rw[HR.o];refine Ir (l:=Ao 4 (A6 s).line) (ch:=.nil) (ks:=[]) H2.o Al.o rfl (by simp[Ao]) rfl rfl (fun hb=>⟨⟨?_,rfl⟩,rfl⟩);rfl
 by_cases h15:kT s=15
 ·have HR:=A0 (Q3 h15 hp);have t2:((kT s:Int)==2)=false:=kn (c:=2) rfl h2;have t3:((kT s:Int)==3)=false:=kn (c:=3) rfl h3;have t13:((kT s:Int)==13)=false:=kn (c:=13) rfl h13;have t14:((kT s:Int)==14)=false:=kn (c:=14) rfl h14;have t15:((kT s:Int)==15)=true:=ke (c:=15) rfl h15;clear hp hs h6 h7 h8 h9 h10 h15;go_enter Tryz.func313,Tryz.ntmps313;go_wp2_with fail
  refine(Dl HS.o).mono ?_;rintro e w1 ⟨rfl,h1,A3⟩;have H1:=A0 h1;have Ae:Hid (A1 b w w1):=Below.only A3;clear h1 A3;go_wp2_with fail
  refine(Ii H1.o).mono ?_;rintro e w2 ⟨ln,nn,S,rfl,htk,h2,Ap⟩;have Al:Hid (A1 b w w2):=Ae.o.trans Ap;have H2:=A0 h2;have HTk:=A0 htk;clear h2 htk Ap;go_wp2;go_ret;rw[HR.o];refine Ir (l:=Ao 5 (A6 s).line) (ch:=.nil) (ks:=[]) H2.o Al.o rfl (by simp[Ao]) rfl rfl (fun hb=>⟨⟨?_,rfl⟩,rfl⟩);rfl
 have HR:=A0 (Ns h2 h3 h13 h14 h15 h6 h7 h8 h9 h10 hp);have t2:((kT s:Int)==2)=false:=kn (c:=2) rfl h2;have t3:((kT s:Int)==3)=false:=kn (c:=3) rfl h3;have t13:((kT s:Int)==13)=false:=kn (c:=13) rfl h13;have t14:((kT s:Int)==14)=false:=kn (c:=14) rfl h14;have t15:((kT s:Int)==15)=false:=kn (c:=15) rfl h15;have HFb:Hid (s.bad=0->1<=(A6 s).line):=fun e=>(hs.lines e).1;clear hp hs h6 h7 h8 h9 h10 h2 h3 h13 h14 h15;go_enter Tryz.func313,Tryz.ntmps313;go_wp2_with fail
 refine(Dl HS.o).mono ?_;rintro e w1 ⟨rfl,h1,A3⟩;have H1:=A0 h1;have Ae:Hid (A1 b w w1):=Below.only A3;clear h1 A3;go_wp2_with fail
 refine(Yl H1.o).mono ?_;rintro e w2 ⟨rfl,h2,Ap⟩;have Al:Hid (A1 b w w2):=Ae.o.trans Ap;have H2:=A0 h2;clear h2 Ap;go_wp2;go_ret;rw[HR.o];refine⟨_,_,rfl,PR.alloc H2.o _,Al.o.alloc _,fun hb=>absurd hb ?_⟩;show(Cm s).bad≠0;exact V4 HFb.o
end
end Go.Proofs.YtjdlndhfaaolaaaGreatDoor
