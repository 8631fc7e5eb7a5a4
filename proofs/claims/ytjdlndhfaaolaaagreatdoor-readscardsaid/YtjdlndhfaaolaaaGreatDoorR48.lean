import Derived.Test.YtjdlndhfaaolaaaGreatDoorR13
import Derived.Test.YtjdlndhfaaolaaaGreatDoorR40
import Derived.Test.YtjdlndhfaaolaaaGreatDoorR47
set_option maxHeartbeats 20000000
namespace Go.Proofs.YtjdlndhfaaolaaaGreatDoor
section
set_option maxRecDepth 100000
open Go.RowKit
theorem Z8:(Tryz.prog.info? 198).map (fun i=>(i.zero,i.size,i.bytes))=some (some (.agg #[.int .i64 0,.int .i64 0,.string ⟨#[]⟩,.int .i64 0]),4,40):=by kernel_rfl
def A1d(l:List UInt8)(w:World)(k:Nat)(v:Value)(wr:World):Prop:=
 ∃(i ln:Nat) (acc:List Tk) (va:Option Addr) (vn vc:Nat),v=.slice va vn vc/\i+k=l.length/\ln<=i+1/\acc.length<=i/\Sc (w.heap.size+1) 195 wr l i ln/\Ju wr/\Below w.heap.size w wr/\
  wr.heap[w.heap.size]?=some (.cells #[.int .i64 0,.int .i64 0] 50 (0,0))/\wr.ownsRow 0 198 4 (.slice va vn vc) acc.length (M3 acc)/\(∀g,(Value.slice va vn vc).ownBlock=some g->w.heap.size+1<g)/\
  lex (l.length+1) l 1 false=Nt acc (lex ((l.drop i).length+1) (l.drop i) ln false)
def A1c(l:List UInt8)(w:World)(e:Ending)(w':World):Prop:=
 Below w.heap.size w w'/\((∃n,lex (l.length+1) l 1 false=.inl n/\e=.returned (.tuple #[.slice none 0 0,.agg #[.int .i64 2,.int .i64 (n:Nat)]]))\/
  (∃ts va vn vc,lex (l.length+1) l 1 false=.inr ts/\e=.returned (.tuple #[.slice va vn vc,.agg #[.int .i64 0,.int .i64 0]])/\w'.ownsRow 0 198 4 (.slice va vn vc) ts.length (M3 ts)/\(∀g,(Value.slice va vn vc).ownBlock=some g->w.heap.size<=g)))
theorem ke0{k:Nat}(h:k=0):((k:Int)==0)=true:=by subst h;rfl
theorem V9{k:Nat}(h:k≠0):((k:Int)==0)=false:=by rw[beq_eq_false_iff_ne];omega
theorem Xg(a b:List Tk):M3 (a++b)=M3 a++M3 b:=by simp[M3]
theorem Aam{l:List UInt8}{w wr w1 w2:World}{i q m:Nat}{T:Obj}{va:Option Addr}{vn vc g2:Nat}{cs:List Value}(hw:4<=w.heap.size)(lsc:w.heap.size+1<wr.heap.size)(Cz:wr.heap.size<=w1.heap.size)(hR:w1.heap[w.heap.size]?=some (.cells #[.int .i64 0,.int .i64 0] 50 (0,0)))
  (hsc:Sc (w.heap.size+1) 195 w1 l i q) (hb:Below w.heap.size w w1) (hg:Ju w1) (hown:wr.ownsRow 0 198 4 (.slice va vn vc) m cs) (hlo:∀g,(Value.slice va vn vc).ownBlock=some g->w.heap.size+1<g)
  (hgrow:(w1.alloc T).grownBy w2 (Value.slice va vn vc).ownBlock) (hat:(Value.slice va vn vc).ownBlock=some g2\/g2=(w1.alloc T).heap.size+1) :
  w2.heap[w.heap.size]?=some (.cells #[.int .i64 0,.int .i64 0] 50 (0,0))/\w2.heap[w1.heap.size]?=some T/\Sc (w.heap.size+1) 195 w2 l i q/\Below w.heap.size w w2/\w.heap.size+1<g2/\Ju w2/\w1.heap.size<w2.heap.size:=by
 have hkeep:∀k,k<=w1.heap.size->k<=w.heap.size+1\/k=w1.heap.size->w2.heap[k]?=(w1.alloc T).heap[k]?:=by
  intro k Ks Bk;refine hgrow.block k (by simp;omega) (fun e=>?_);have:=hlo k e.symm;rcases Bk with h|h
  ·omega
  ·have:=Ca hown k e.symm;omega
 have hs:=hgrow.size;rw[World.size_alloc]at hs;refine⟨(hkeep _ (by omega) (.inl (by omega))).trans (alloc_old hR),(hkeep _ (by omega) (.inr rfl)).trans (heap_alloc_new _ _),(hkeep _ (by omega) (.inl (by omega))).trans (alloc_old hsc),?_,?_,?_,by omega⟩
 ·exact⟨hgrow.os.trans hb.os,hgrow.tape.trans hb.tape,hgrow.output.trans hb.output,by omega,fun k hk=>(hkeep k (by omega) (.inl (by omega))).trans ((Below.heap_alloc _ _ _ (by omega)).trans (hb.block k hk))⟩
 ·rcases hat with h|h
  ·exact hlo g2 h
  ·rw[h,World.size_alloc];omega
 ·exact hg.keep (fun k h1 h2=>(hkeep k (by omega) (by omega)).trans (Below.heap_alloc _ _ _ h2))
theorem Aal(l:List UInt8)(w:World)(hl:l.length<=99990)(hg:Ju w)(hw:4<=w.heap.size) :
  Calls Tryz.prog 49 #[.string ⟨l.toArray⟩] w (A1c l w):=by
 have HG0:=A0 hg;clear hg;go_enter Tryz.func49,Tryz.ntmps49;go_wp2;go_loopg [5] l.length (fun k v wr=>A1d l w k v wr)
 case atStart=>
  refine⟨0,1,[],none,0,0,rfl,by omega,by omega,by simp,?_,HG0.o.below (Below.alloc (Below.alloc (Below.refl _ _) (Nat.le_refl _) _) (by simp) _),Below.alloc (Below.alloc (Below.refl _ _) (Nat.le_refl _) _) (by simp) _,alloc_old (heap_alloc_new _ _),World.ownsRow_nil _ _ _ _,by simp[Value.ownBlock],by simp[A8s]⟩;have:=heap_alloc_new (w.alloc (.cells #[.int .i64 0,.int .i64 0] 50)) (.cells #[.string ⟨l.toArray⟩,.int .i64 0,.int .i64 1] 195);simp only[World.size_alloc]at this;exact this
 case round=>
  clear HG0;obtain⟨i,ln,acc,va,vn,vc,rfl,hik,hln,hacc,hsc,hgl,hbel,hR,hown,hlo,hlex⟩:=hrel;have HSc:=A0 hsc;have HG:=A0 hgl;have HB:=A0 hbel;have HR:=A0 hR;have HOwn:=A0 hown;have HLo:=A0 hlo;have HLx:=A0 hlex;have lsz:=hbel.size;have lsc:=A5 hsc;have HN:=A0 (A78 hsc hgl (by omega) (by omega) (by omega) hln);clear hsc hgl hbel hR hown hlo hlex;go_wp2_with fail
  refine HN.o.mono ?_;rintro e w1 ⟨B5,⟨x,hx,rfl,hsc1⟩|⟨hx,rfl,j,hsc1⟩⟩
  ·obtain⟨k1,k2,k3,k4,k5⟩:=A7p (l.drop i) ln x hx;rw[List.length_drop]at k2;have hR1:=B5.blk HR.o (by omega);have Ab:Hid (Below w.heap.size w w1):=⟨B5.os.trans HB.o.os,B5.tape.trans HB.o.tape,B5.output.trans HB.o.output,Nat.le_trans HB.o.size B5.size,fun k hk=>(B5.block k (by omega) (by omega)).trans (HB.o.block k hk)⟩;have HG1:=A0 (HG.o.only B5 (by omega));have Cz:=B5.size;have E1:w1.ownsRow 0 198 4 (.slice va vn vc) acc.length (M3 acc):=Bb HOwn.o (fun k hk hl=>B5.block k hl (by have:=HLo.o k hk;omega));have HR1:=A0 hR1;have HSc1:=A0 hsc1;have HLx1:Hid (lex (l.length+1) l 1 false=Nt acc (if x.1.k=0 then .inr [⟨0,ln+(Ga (l.drop i)).1,[],0⟩] else Nt [⟨x.1.k,ln+(Ga (l.drop i)).1,x.1.s,x.1.n⟩] (lex ((l.drop (i+x.2)).length+1) (l.drop (i+x.2)) (ln+(Ga (l.drop i)).1) false))):=by
    show _=_;rw[HLx.o,k1,List.drop_drop]
   have HK3:=A0 k3;have HK4:=A0 k4;clear hx B5 k1 hR1 hsc1 k3 k4 HLx HG HB HR HSc HN;have hq2:ln+(Ga (l.drop i)).1<=i+x.2+1:=by omega
   generalize hq:ln+(Ga (l.drop i)).1=q at *;clear hq k5;have HOwnA:=A0 (E1.alloc (.cells #[.int .i64 (x.1.k:Nat),.int .i64 (q:Nat),.string ⟨x.1.s.toArray⟩,.int .i64 x.1.n] 198));clear E1;have HSA:=A0 (fun g2 w2 hgrow hat=>Aam (g2:=g2) (w2:=w2) (T:=(.cells #[.int .i64 (x.1.k:Nat),.int .i64 (q:Nat),.string ⟨x.1.s.toArray⟩,.int .i64 x.1.n] 198)) hw lsc Cz HR1.o HSc1.o Ab.o HG1.o HOwn.o HLo.o hgrow hat);by_cases Kr:x.1.k=0
   ·have t0:((x.1.k:Int)==0)=true:=ke0 Kr;have hx0:=HK3.o Kr;have HE:Hid (lex (l.length+1) l 1 false=.inr (acc++[⟨0,q,[],0⟩])):=by
     show _=_;rw[HLx1.o,if_pos Kr];rfl
    have HCs:Hid (#[Value.int .i64 (x.1.k:Nat),.int .i64 (q:Nat),.string ⟨x.1.s.toArray⟩,.int .i64 x.1.n].toList=M3 [⟨0,q,[],0⟩]):=by
     show _=_;rw[hx0];rfl
    clear hx0 Kr;go_wp2_with (at_builtin;refine F1 (w1.alloc (.cells #[.int .i64 (x.1.k:Nat),.int .i64 (q:Nat),.string ⟨x.1.s.toArray⟩,.int .i64 x.1.n] 198)) #[.int .i64 (x.1.k:Nat),.int .i64 (q:Nat),.string ⟨x.1.s.toArray⟩,.int .i64 x.1.n] 198 rfl (.tmp 23) (.tmp 25) 123 rfl 0 4 40 (.agg #[.int .i64 0,.int .i64 0,.string ⟨#[]⟩,.int .i64 0]) Tryz.underlying123 Z8 rfl (by omega) _ _ _ rfl (by simp;rfl) HOwnA.o rfl (fun u hu=>by simp at hu;rcases hu with rfl|rfl|rfl|rfl <;> rfl) (by omega) (by omega) (Nat.zero_le _) ?_;intro g2 cap2 w2 Iv hgrow2 hat2 Eo;obtain⟨G6,hT2,hsc2,A9,hlo2,hgl2,hsz2⟩:=HSA.o g2 w2 hgrow2 hat2;obtain⟨z0,z1,fz,lz⟩:=Lg G6;obtain⟨y0,y1,y2,y3,fy,ly⟩:=Ci hT2;have F9:=A0 G6;have HSc2:=A0 hsc2;have Ai:=A0 A9;have HLo2:=A0 hlo2;have HG2:=A0 hgl2;have HOwn2:=A0 Iv;clear G6 hT2 hsc2 A9 hlo2 hgl2 Iv hgrow2 hat2)
    refine bodyPost_ret (v:=.tuple #[.slice (some ⟨g2,0,none⟩) (acc.length+1) cap2,.agg #[.int .i64 0,.int .i64 0]]) (by simp[results,Tryz.results49,go_sem,z0,z1]) rfl ?_;refine⟨?_,.inr ⟨_,some ⟨g2,0,none⟩,acc.length+1,cap2,HE.o,rfl,?_,?_⟩⟩
    ·repeat (first|exact Ai.o|refine Below.alloc ?_ (by simp[World.setCell];omega) _|refine Below.setCell ?_ (by simp) _|refine Below.drew ?_)
    ·have h1:=HOwn2.o;rw[HCs.o,←Xg]at h1;rw[List.length_append];have hg:w.heap.size+1<g2:=HLo2.o;exact Bb h1 (fun k hk _=>by simp only[Value.ownBlock,Option.some.injEq]at hk;rw[Below.heap_setCell _ _ _ _ (by show k≠w.heap.size;omega),Below.heap_setCell _ _ _ _ (by show k≠w.heap.size;omega)])
    ·intro g e;simp only[Value.ownBlock,Option.some.injEq]at e;have hg:w.heap.size+1<g2:=HLo2.o;omega
   ·have t0:((x.1.k:Int)==0)=false:=V9 Kr;have HE:Hid (lex (l.length+1) l 1 false=Nt (acc++[⟨x.1.k,q,x.1.s,x.1.n⟩]) (lex ((l.drop (i+x.2)).length+1) (l.drop (i+x.2)) q false)):=by
     show _=_;rw[HLx1.o,if_neg Kr,A8r]
    have Iu:=HK4.o Kr;clear Kr;go_wp2_with (at_builtin;refine F1 (w1.alloc (.cells #[.int .i64 (x.1.k:Nat),.int .i64 (q:Nat),.string ⟨x.1.s.toArray⟩,.int .i64 x.1.n] 198)) #[.int .i64 (x.1.k:Nat),.int .i64 (q:Nat),.string ⟨x.1.s.toArray⟩,.int .i64 x.1.n] 198 rfl (.tmp 23) (.tmp 25) 123 rfl 0 4 40 (.agg #[.int .i64 0,.int .i64 0,.string ⟨#[]⟩,.int .i64 0]) Tryz.underlying123 Z8 rfl (by omega) _ _ _ rfl (by simp;rfl) HOwnA.o rfl (fun u hu=>by simp at hu;rcases hu with rfl|rfl|rfl|rfl <;> rfl) (by omega) (by omega) (Nat.zero_le _) ?_;intro g2 cap2 w2 Iv hgrow2 hat2 Eo;obtain⟨G6,hT2,hsc2,A9,hlo2,hgl2,hsz2⟩:=HSA.o g2 w2 hgrow2 hat2;obtain⟨z0,z1,fz,lz⟩:=Lg G6;obtain⟨y0,y1,y2,y3,fy,ly⟩:=Ci hT2;have F9:=A0 G6;have HSc2:=A0 hsc2;have Ai:=A0 A9;have HLo2:=A0 hlo2;have HG2:=A0 hgl2;have HOwn2:=A0 Iv;clear G6 hT2 hsc2 A9 hlo2 hgl2 Iv hgrow2 hat2)
    go_roundg (gk-x.2)
    case measure=>omega
    case rel=>
     refine⟨i+x.2,q,acc++[⟨x.1.k,q,x.1.s,x.1.n⟩],some ⟨g2,0,none⟩,acc.length+1,cap2,rfl,by omega,by omega,by simp;omega,HSc2.o,HG2.o,Ai.o,F9.o,?_,?_,HE.o⟩
     ·have:=HOwn2.o;rw[Xg,List.length_append];exact this
     ·intro g e;simp only[Value.ownBlock,Option.some.injEq]at e;rw[←e];exact HLo2.o
  ·have HE:Hid (lex (l.length+1) l 1 false=.inl (ln+(Ga (l.drop i)).1)):=by
    show _=_;rw[HLx.o,A7o _ _ hx];rfl
   have hR1:=B5.blk HR.o (by omega);obtain⟨z0,z1,fz,lz⟩:=Lg hR1;obtain⟨c0,c1,c2,fc,lc⟩:=hsc1.cells;have Ab:Hid (Below w.heap.size w w1):=⟨B5.os.trans HB.o.os,B5.tape.trans HB.o.tape,B5.output.trans HB.o.output,Nat.le_trans HB.o.size B5.size,fun k hk=>(B5.block k (by omega) (by omega)).trans (HB.o.block k hk)⟩;have Cz:=B5.size;clear B5 hx hR1 hsc1;generalize hq:ln+(Ga (l.drop i)).1=q at *;clear hq;go_wp2;go_region
   all_goals go_wp2
   all_goals refine bodyPost_ret (v:=.tuple #[.slice none 0 0,.agg #[.int .i64 2,.int .i64 (q:Nat)]]) (by simp[results,Tryz.results49,go_sem,z0,z1,lz]) rfl ?_
   all_goals refine⟨?_,.inl ⟨q,HE.o,rfl⟩⟩
   all_goals repeat (first|exact Ab.o|refine Below.alloc ?_ (by simp[World.setCell];omega) _|refine Below.setCell ?_ (by simp) _|refine Below.drew ?_)
end
section
open Go.RowKit
open Go.Deep (BT)
theorem A48{ts:List Tk}(h1:ts.length<=2001)(h2:Gk 1 2000 ts):Uh ts:=
 ⟨by omega,Gk.last _ h2,fun x hx=>by have:=Gk.mem _ h2 x hx;exact⟨this.1,by omega,this.2.2⟩⟩
theorem A4h{n:Nat}(h:2000<n):decide (2000<(n:Int))=true:=decide_eq_true (by omega)
theorem A4i{n:Nat}(h:¬2000<n):decide (2000<(n:Int))=false:=decide_eq_false (by omega)
end
end Go.Proofs.YtjdlndhfaaolaaaGreatDoor
