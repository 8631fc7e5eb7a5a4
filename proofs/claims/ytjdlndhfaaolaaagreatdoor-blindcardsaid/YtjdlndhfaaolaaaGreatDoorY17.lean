import Derived.Test.YtjdlndhfaaolaaaGreatDoorY15
set_option maxHeartbeats 20000000
set_option linter.defProp false
namespace Go.Proofs.YtjdlndhfaaolaaaGreatDoor
section
open Go.RowKit
def Na(K:Nat->Prop)(w:World)(v:Value)(cs:List Value):Prop:=∃a c,v=.slice a cs.length c/\(cs.length≠0->∃g o,a=some ⟨g,o,none⟩/\K g/\g<w.heap.size/\∀j x,cs[j]?=some x->w.cell? ⟨g,o+j,none⟩=some x)
def ints(l:List Int):List Value:=l.map fun n=>.i n
def H7(K:Nat->Prop)(w:World)(v:Value)(bets:List Cl):Prop:=∃a c,v=.slice a bets.length c/\bets.length<=c/\(bets.length≠0->∃g o,a=some ⟨g,o,none⟩/\K g/\g<w.heap.size/\∀i (h:i<bets.length),w.cell? ⟨g,o+i*4,none⟩=some (.i bets[i].fn)/\w.cell? ⟨g,o+(i*4+1),none⟩=some (.i bets[i].after)/\
 ∃kv iv,w.cell? ⟨g,o+(i*4+2),none⟩=some kv/\w.cell? ⟨g,o+(i*4+3),none⟩=some iv/\Na K w kv (ints bets[i].kinds)/\Na K w iv (ints bets[i].ints))
def Na.keep{K K':Nat->Prop}{w w':World}{v:Value}{cs:List Value}(h:Na K w v cs)(hk:∀g,K g->g<w.heap.size->w'.heap[g]?=w.heap[g]?/\K' g)(hs:w.heap.size<=w'.heap.size):Na K' w' v cs:=by
 obtain⟨a,c,e,h⟩:=h;refine⟨a,c,e,fun hn=>?_⟩;obtain⟨g,o,e1,hK,e2,e3⟩:=h hn;exact⟨g,o,e1,(hk g hK e2).2,by omega,fun j x hj=>(D9 (hk g hK e2).1).trans (e3 j x hj)⟩
def H7.keep{K K':Nat->Prop}{w w':World}{v:Value}{bets:List Cl}(h:H7 K w v bets)(hk:∀g,K g->g<w.heap.size->w'.heap[g]?=w.heap[g]?/\K' g)(hs:w.heap.size<=w'.heap.size):H7 K' w' v bets:=by
 obtain⟨a,c,e,hc,h⟩:=h;refine⟨a,c,e,hc,fun hn=>?_⟩;obtain⟨g,o,e1,hK,e2,e3⟩:=h hn;refine⟨g,o,e1,(hk g hK e2).2,by omega,fun i hi=>?_⟩;obtain⟨q1,q2,kv,iv,q3,q4,q5,q6⟩:=e3 i hi;have hc:∀j,w'.cell? ⟨g,j,none⟩=w.cell? ⟨g,j,none⟩:=fun j=>D9 (hk g hK e2).1;exact⟨(hc _).trans q1,(hc _).trans q2,kv,iv,(hc _).trans q3,(hc _).trans q4,q5.keep hk hs,q6.keep hk hs⟩
def M1:Nat->Prop:=fun _=>True
def H7.below{K:Nat->Prop}{w w':World}{v:Value}{bets:List Cl}(h:H7 K w v bets)(hb:Bw w w'):H7 K w' v bets:=h.keep (fun g hg hl=>⟨hb.block g hl,hg⟩) hb.size
def H7.take{K:Nat->Prop}{w:World}{a:Option Addr}{n c:Nat}{bets:List Cl}(h:H7 K w (.slice a n c) bets)(k:Nat):H7 K w (.slice a (min bets.length k) c) (bets.take k):=by
 obtain⟨a',c',e,hc,h⟩:=h;injection e with e1 e2 e3;subst e1 e3;refine⟨a,c,by rw[G3,Nat.min_comm],by simp;omega,fun hn=>?_⟩;rw[G3]at hn;obtain⟨g,o,e1,hK,e2,e3⟩:=h z4ma;refine⟨g,o,e1,hK,e2,fun i hi=>?_⟩;rw[G3]at hi;rw[A32];exact e3 i z4ma
def Aus(n c:Nat)(b:List Cl):∀a:List Cl,taken n c (a++b)=match taken n c b with|some x=>some x|none=>taken n c a:=by
 intro a;induction a with
 | nil=>rw[Se];cases taken n c b <;> rfl
 | cons x r ih=>
  rw[List.cons_append,taken,ih];cases h:taken n c b with
  | some y=>rfl
  | none=>rw[taken]
def Auu{n c:Nat}{l:List Cl}{j:Nat}(h:j<l.length)(hd:taken n c (l.drop (j+1))=none)(h1:l[j].fn=(n:Nat))(h2:l[j].after=(c:Nat)):taken n c l=some l[j]:=by
 have q:taken n c (l.drop j)=some l[j]:=by rw[Gk h,taken,hd];simp only[h1,h2,and_self,P6]
 have e:=Aus n c (l.drop j) (l.take j);rw[A35,q]at e;exact e
def A9s{n c:Nat}{l:List Cl}{j:Nat}(h:j<l.length)(hd:taken n c (l.drop (j+1))=none)(h1:¬(l[j].fn=(n:Nat)/\l[j].after=(c:Nat))):taken n c (l.drop j)=none:=by
 rw[Gk h,taken,hd];simp only[h1,Oq]
