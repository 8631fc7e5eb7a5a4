import Derived.Test.YtjdlndhfaaolaaaGreatDoorX15
set_option maxHeartbeats 20000000
namespace Go.Proofs.YtjdlndhfaaolaaaGreatDoor
section
open Go.RowKit
def R5(K:Nat->Prop)(w:World)(v:Value)(cs:List Value):Prop:=∃a c,v=.slice a cs.length c/\(cs.length≠0->∃g o,a=some ⟨g,o,none⟩/\K g/\g<w.heap.size/\∀j x,cs[j]?=some x->w.cell? ⟨g,o+j,none⟩=some x)
def ints(l:List Int):List Value:=l.map fun n=>.int .i64 n
def J9(K:Nat->Prop)(w:World)(v:Value)(bets:List Da):Prop:=∃a c,v=.slice a bets.length c/\bets.length<=c/\(bets.length≠0->∃g o,a=some ⟨g,o,none⟩/\K g/\g<w.heap.size/\∀i (h:i<bets.length),w.cell? ⟨g,o+i*4,none⟩=some (.int .i64 bets[i].fn)/\w.cell? ⟨g,o+(i*4+1),none⟩=some (.int .i64 bets[i].after)/\
 ∃kv iv,w.cell? ⟨g,o+(i*4+2),none⟩=some kv/\w.cell? ⟨g,o+(i*4+3),none⟩=some iv/\R5 K w kv (ints bets[i].kinds)/\R5 K w iv (ints bets[i].ints))
theorem R5.keep{K K':Nat->Prop}{w w':World}{v:Value}{cs:List Value}(h:R5 K w v cs)(hk:∀g,K g->g<w.heap.size->w'.heap[g]?=w.heap[g]?/\K' g)(hs:w.heap.size<=w'.heap.size):R5 K' w' v cs:=by
 obtain⟨a,c,e,h⟩:=h;refine⟨a,c,e,fun hn=>?_⟩;obtain⟨g,o,e1,hK,e2,e3⟩:=h hn;exact⟨g,o,e1,(hk g hK e2).2,by omega,fun j x hj=>(World.cell?_of_block (hk g hK e2).1).trans (e3 j x hj)⟩
theorem J9.keep{K K':Nat->Prop}{w w':World}{v:Value}{bets:List Da}(h:J9 K w v bets)(hk:∀g,K g->g<w.heap.size->w'.heap[g]?=w.heap[g]?/\K' g)(hs:w.heap.size<=w'.heap.size):J9 K' w' v bets:=by
 obtain⟨a,c,e,hc,h⟩:=h;refine⟨a,c,e,hc,fun hn=>?_⟩;obtain⟨g,o,e1,hK,e2,e3⟩:=h hn;refine⟨g,o,e1,(hk g hK e2).2,by omega,fun i hi=>?_⟩;obtain⟨q1,q2,kv,iv,q3,q4,q5,q6⟩:=e3 i hi;have hc:∀j,w'.cell? ⟨g,j,none⟩=w.cell? ⟨g,j,none⟩:=fun j=>World.cell?_of_block (hk g hK e2).1;exact⟨(hc _).trans q1,(hc _).trans q2,kv,iv,(hc _).trans q3,(hc _).trans q4,q5.keep hk hs,q6.keep hk hs⟩
def T4:Nat->Prop:=fun _=>True
theorem J9.below{K:Nat->Prop}{w w':World}{v:Value}{bets:List Da}(h:J9 K w v bets)(hb:Below w.heap.size w w'):J9 K w' v bets:=h.keep (fun g hg hl=>⟨hb.block g hl,hg⟩) hb.size
theorem J9.take{K:Nat->Prop}{w:World}{a:Option Addr}{n c:Nat}{bets:List Da}(h:J9 K w (.slice a n c) bets)(k:Nat):J9 K w (.slice a (min bets.length k) c) (bets.take k):=by
 obtain⟨a',c',e,hc,h⟩:=h;injection e with e1 e2 e3;subst e1 e3;refine⟨a,c,by rw[List.length_take,Nat.min_comm],by simp;omega,fun hn=>?_⟩;rw[List.length_take]at hn;obtain⟨g,o,e1,hK,e2,e3⟩:=h z4sa;refine⟨g,o,e1,hK,e2,fun i hi=>?_⟩;rw[List.length_take]at hi;rw[List.getElem_take];exact e3 i z4sa
theorem Am7(n c:Nat)(b:List Da):∀a:List Da,taken n c (a++b)=match taken n c b with|some x=>some x|none=>taken n c a:=by
 intro a;induction a with
 | nil=>rw[List.nil_append];cases taken n c b <;> rfl
 | cons x r ih=>
  rw[List.cons_append,taken,ih];cases h:taken n c b with
  | some y=>rfl
  | none=>rw[taken]
theorem Am8{n c:Nat}{l:List Da}{j:Nat}(h:j<l.length)(hd:taken n c (l.drop (j+1))=none)(h1:l[j].fn=(n:Nat))(h2:l[j].after=(c:Nat)):taken n c l=some l[j]:=by
 have q:taken n c (l.drop j)=some l[j]:=by rw[List.drop_eq_getElem_cons h,taken,hd];simp only[h1,h2,and_self,if_true]
 have e:=Am7 n c (l.drop j) (l.take j);rw[List.take_append_drop,q]at e;exact e
theorem A4j{n c:Nat}{l:List Da}{j:Nat}(h:j<l.length)(hd:taken n c (l.drop (j+1))=none)(h1:¬(l[j].fn=(n:Nat)/\l[j].after=(c:Nat))):taken n c (l.drop j)=none:=by
 rw[List.drop_eq_getElem_cons h,taken,hd];simp only[h1,if_false]
end
end Go.Proofs.YtjdlndhfaaolaaaGreatDoor
