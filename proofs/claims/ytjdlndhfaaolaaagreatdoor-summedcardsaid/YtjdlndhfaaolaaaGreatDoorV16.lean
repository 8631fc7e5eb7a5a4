import Derived.Test.YtjdlndhfaaolaaaGreatDoorV15
set_option maxHeartbeats 20000000
namespace Go.Proofs.YtjdlndhfaaolaaaGreatDoor
section
open Go.Deep (BT)
def Ke(k:Nat)(bet:Int):Nat->Nat->Nat->List Int->Nat×Nat
 | _,f,d,[]=>(f,d)
 | i,f,d,x::r=>if k<=i/\d=0 then(if x=bet then Ke k bet (i+1) (f+1) d r else Ke k bet (i+1) f (d+1) r) else Ke k bet (i+1) f d r
theorem Aan(k:Nat)(bet:Int):∀(rs:List Int) (i f d:Nat) (fm:Option Form),(i<=k->d=0/\fm=none)->(k<i->fm=if d=0 then some (Pq bet) else none)->(Km k bet ⟨i,fm,f,d⟩ rs).fast=(Ke k bet i f d rs).1/\(Km k bet ⟨i,fm,f,d⟩ rs).drops=(Ke k bet i f d rs).2:=by
 intro rs;induction rs with
 | nil=>intro i f d fm _ _;exact⟨rfl,rfl⟩
 | cons x rs ih=>
  intro i f d fm h1 h2;show(Km k bet (Hy k bet ⟨i,fm,f,d⟩ x) rs).fast=_/\(Km k bet (Hy k bet ⟨i,fm,f,d⟩ x) rs).drops=_;rw[Ke];unfold Hy Ow;dsimp only;by_cases hi:i=k
  ·subst hi;obtain⟨rfl,rfl⟩:=h1 (Nat.le_refl _);rw[if_pos rfl,if_pos ⟨Nat.le_refl _,rfl⟩];dsimp only;by_cases hx:x=bet
   ·rw[if_pos hx,if_pos hx];exact ih (i+1) (f+1) 0 _ (fun q=>by omega) (fun _=>by rw[if_pos rfl])
   ·rw[if_neg hx,if_neg hx];exact ih (i+1) f (0+1) _ (fun q=>by omega) (fun _=>by rw[if_neg z4va])
  ·rw[if_neg hi];by_cases hk:k<i
   ·rw[h2 hk];by_cases hd:d=0
    ·rw[if_pos hd,if_pos ⟨by omega,hd⟩];dsimp only;by_cases hx:x=bet
     ·rw[if_pos hx,if_pos hx];exact ih (i+1) (f+1) d _ (fun q=>by omega) (fun _=>by rw[if_pos hd])
     ·rw[if_neg hx,if_neg hx];exact ih (i+1) f (d+1) _ (fun q=>by omega) (fun _=>by rw[if_neg z4va])
    ·rw[if_neg hd,if_neg (fun q=>hd q.2)];exact ih (i+1) f d _ (fun q=>by omega) (fun _=>by rw[if_neg hd])
   ·obtain⟨hd,hf⟩:=h1 z4va;rw[hf,if_neg (fun q=>by omega)];exact ih (i+1) f d _ (fun _=>⟨hd,rfl⟩) (fun q=>by omega)
theorem Ag7(k:Nat)(bet:Int)(rs:List Int):(Km k bet Mf rs).fast=(Ke k bet 0 0 0 rs).1/\(Km k bet Mf rs).drops=(Ke k bet 0 0 0 rs).2:=Aan k bet rs 0 0 0 none (fun _=>⟨rfl,rfl⟩) (fun h=>by omega)
theorem Ad5(rs:List Int)(hr:∀r∈rs,D4 r)(hl:rs.length<=20):Oa 2 (Gm rs):=by
 have hp:(J3 rs).length<=200:=by
  have:∀l:List Int,(l.flatMap Mb).length<=7*l.length:=by
   intro l;induction l with
   | nil=>simp
   | cons r l ih=>rw[List.flatMap_cons,List.length_append,List.length_cons];have:=l8 r;simp only[Mb,List.length_cons,List.length_append,List.length_nil];omega
  have:=this rs;unfold J3;rw[List.length_append];have:Q7.length=2:=rfl;omega
 generalize hq:(J3 rs).length=q at hp;refine⟨by show(0:Nat)<=2;omega,?_,?_⟩
 ·intro i hi;show Js 1 i;have hi:i∈J3 rs++Rg q:=by rw[←hq];exact hi
  simp only[Rg,Mo,J3,List.mem_append,List.mem_cons,List.mem_flatMap,List.not_mem_nil,or_false]at hi;rcases hi with(hi|⟨r,hm,hi⟩)|hi|(hi|hi|hi|hi)|hi
  ·exact Ou (by rfl) i hi
  ·simp only[Mb,List.mem_cons,List.mem_append]at hi;rcases hi with rfl|hi|rfl|rfl|hi
   ·exact Qs (by rfl)
   ·exact Ad3 r (hr r hm) i hi
   ·exact Qs (by rfl)
   ·exact Qs (by rfl)
   ·cases hi
  ·exact Ou (by rfl) i hi
  ·exact Ou (by rfl) i hi
  ·rw[hi];exact⟨by show(0:Int)<=((q+4+16:Nat):Int);omega,by show((q+4+16:Nat):Int)<=5000;omega,rfl,by show(0:Nat)≠4;decide,Ov,fun e=>(by cases e),(by unfold Kp;show(7:Nat)<=44;omega)⟩
  ·exact Ou (by rfl) i hi
  ·rw[hi];exact⟨by show(0:Int)<=((q+4:Nat):Int);omega,by show((q+4:Nat):Int)<=5000;omega,rfl,by show(0:Nat)≠4;decide,Ov,fun e=>(by cases e),(by unfold Kp;show(6:Nat)<=44;omega)⟩
  ·exact Ou (by rfl) i hi
 ·intro f hf;simp only[Gm,List.mem_singleton]at hf;rw[hf];exact⟨Nat.le_refl 2,Nat.le_refl 2,Ou (by rfl)⟩
theorem A9s(r:Int):bsize (O8 r)<=20:=by
 unfold O8 Rz;by_cases h:r<0
 ·rw[if_pos h];exact of_decide_eq_true (by kernel_rfl)
 ·rw[if_neg h];exact of_decide_eq_true (by kernel_rfl)
theorem A9t:∀rs:List Int,bsize (Lu rs)<=20*rs.length:=by
 intro rs;induction rs with
 | nil=>exact Nat.zero_le _
 | cons r rs ih=>have:=A9s r;rw[Lu,Tw,List.length_cons];omega
theorem Aha(rs:List Int)(hl:rs.length<=20)(hr:∀r∈rs,D4 r):Qd (Ni rs):=fun ts' h'=>by
 have:=(A1j rs hr _ (Nat.lt_succ_self _)).symm.trans h';cases this;refine⟨_,A2a rs z4va,fun _=>?_⟩;have h1:=A9t rs;have h2:bsize Rk+bsize Rl+bsize (Bu Ri (Bu Rj (Bu Nk Pc)))<=1000:=of_decide_eq_true (by kernel_rfl);show bsize (Mn rs)<=4002;unfold Mn;rw[Tw,Tw,Tw];omega
end
section
open Go.RowKit
def Lg(K:Nat->Prop)(w:World)(v:Value)(cs:List Value):Prop:=∃a c,v=.slice a cs.length c/\(cs.length≠0->∃g o,a=some ⟨g,o,none⟩/\K g/\g<w.heap.size/\∀j x,cs[j]?=some x->w.cell? ⟨g,o+j,none⟩=some x)
def ints(l:List Int):List Value:=l.map fun n=>.int .i64 n
def Ib(K:Nat->Prop)(w:World)(v:Value)(bets:List Cx):Prop:=∃a c,v=.slice a bets.length c/\bets.length<=c/\(bets.length≠0->∃g o,a=some ⟨g,o,none⟩/\K g/\g<w.heap.size/\∀i (h:i<bets.length),w.cell? ⟨g,o+i*4,none⟩=some (.int .i64 bets[i].fn)/\w.cell? ⟨g,o+(i*4+1),none⟩=some (.int .i64 bets[i].after)/\
 ∃kv iv,w.cell? ⟨g,o+(i*4+2),none⟩=some kv/\w.cell? ⟨g,o+(i*4+3),none⟩=some iv/\Lg K w kv (ints bets[i].kinds)/\Lg K w iv (ints bets[i].ints))
theorem Lg.keep{K K':Nat->Prop}{w w':World}{v:Value}{cs:List Value}(h:Lg K w v cs)(hk:∀g,K g->g<w.heap.size->w'.heap[g]?=w.heap[g]?/\K' g)(hs:w.heap.size<=w'.heap.size):Lg K' w' v cs:=by
 obtain⟨a,c,e,h⟩:=h;refine⟨a,c,e,fun hn=>?_⟩;obtain⟨g,o,e1,hK,e2,e3⟩:=h hn;exact⟨g,o,e1,(hk g hK e2).2,by omega,fun j x hj=>(World.cell?_of_block (hk g hK e2).1).trans (e3 j x hj)⟩
theorem Ib.keep{K K':Nat->Prop}{w w':World}{v:Value}{bets:List Cx}(h:Ib K w v bets)(hk:∀g,K g->g<w.heap.size->w'.heap[g]?=w.heap[g]?/\K' g)(hs:w.heap.size<=w'.heap.size):Ib K' w' v bets:=by
 obtain⟨a,c,e,hc,h⟩:=h;refine⟨a,c,e,hc,fun hn=>?_⟩;obtain⟨g,o,e1,hK,e2,e3⟩:=h hn;refine⟨g,o,e1,(hk g hK e2).2,by omega,fun i hi=>?_⟩;obtain⟨q1,q2,kv,iv,q3,q4,q5,q6⟩:=e3 i hi;have hc:∀j,w'.cell? ⟨g,j,none⟩=w.cell? ⟨g,j,none⟩:=fun j=>World.cell?_of_block (hk g hK e2).1;exact⟨(hc _).trans q1,(hc _).trans q2,kv,iv,(hc _).trans q3,(hc _).trans q4,q5.keep hk hs,q6.keep hk hs⟩
def Mc:Nat->Prop:=fun _=>True
theorem Ib.below{K:Nat->Prop}{w w':World}{v:Value}{bets:List Cx}(h:Ib K w v bets)(hb:Below w.heap.size w w'):Ib K w' v bets:=h.keep (fun g hg hl=>⟨hb.block g hl,hg⟩) hb.size
theorem Ib.take{K:Nat->Prop}{w:World}{a:Option Addr}{n c:Nat}{bets:List Cx}(h:Ib K w (.slice a n c) bets)(k:Nat):Ib K w (.slice a (min bets.length k) c) (bets.take k):=by
 obtain⟨a',c',e,hc,h⟩:=h;injection e with e1 e2 e3;subst e1 e3;refine⟨a,c,by rw[List.length_take,Nat.min_comm],by simp;omega,fun hn=>?_⟩;rw[List.length_take]at hn;obtain⟨g,o,e1,hK,e2,e3⟩:=h z4va;refine⟨g,o,e1,hK,e2,fun i hi=>?_⟩;rw[List.length_take]at hi;rw[List.getElem_take];exact e3 i z4va
theorem Aoe(n c:Nat)(b:List Cx):∀a:List Cx,taken n c (a++b)=match taken n c b with|some x=>some x|none=>taken n c a:=by
 intro a;induction a with
 | nil=>rw[List.nil_append];cases taken n c b <;> rfl
 | cons x r ih=>
  rw[List.cons_append,taken,ih];cases h:taken n c b with
  | some y=>rfl
  | none=>rw[taken]
theorem Aog{n c:Nat}{l:List Cx}{j:Nat}(h:j<l.length)(hd:taken n c (l.drop (j+1))=none)(h1:l[j].fn=(n:Nat))(h2:l[j].after=(c:Nat)):taken n c l=some l[j]:=by
 have q:taken n c (l.drop j)=some l[j]:=by rw[List.drop_eq_getElem_cons h,taken,hd];simp only[h1,h2,and_self,if_true]
 have e:=Aoe n c (l.drop j) (l.take j);rw[List.take_append_drop,q]at e;exact e
theorem A4f{n c:Nat}{l:List Cx}{j:Nat}(h:j<l.length)(hd:taken n c (l.drop (j+1))=none)(h1:¬(l[j].fn=(n:Nat)/\l[j].after=(c:Nat))):taken n c (l.drop j)=none:=by
 rw[List.drop_eq_getElem_cons h,taken,hd];simp only[h1,if_false]
end
end Go.Proofs.YtjdlndhfaaolaaaGreatDoor
