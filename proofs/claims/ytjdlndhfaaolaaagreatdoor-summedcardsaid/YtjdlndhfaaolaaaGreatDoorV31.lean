import Derived.Test.YtjdlndhfaaolaaaGreatDoorV22
import Derived.Test.YtjdlndhfaaolaaaGreatDoorV28
set_option maxHeartbeats 20000000
namespace Go.Proofs.YtjdlndhfaaolaaaGreatDoor
section
set_option maxRecDepth 100000
open Go.RowKit
theorem A1a:(Tryz.prog.info? 198).map (fun i=>(i.zero,i.size,i.bytes))=some (some (.agg #[.int .i64 0,.int .i64 0,.string ⟨#[]⟩,.int .i64 0]),4,40):=by kernel_rfl
def A5r(l:List UInt8)(w:World)(k:Nat)(v:Value)(wr:World):Prop:=
 ∃(i ln:Nat) (acc:List Tk) (va:Option Addr) (vn vc:Nat),v=.slice va vn vc/\i+k=l.length/\ln<=i+1/\acc.length<=i/\Sc (w.heap.size+1) 195 wr l i ln/\It wr/\Below w.heap.size w wr/\
  wr.heap[w.heap.size]?=some (.cells #[.int .i64 0,.int .i64 0] 50 (0,0))/\wr.ownsRow 0 198 4 (.slice va vn vc) acc.length (L8 acc)/\(∀g,(Value.slice va vn vc).ownBlock=some g->w.heap.size+1<g)/\
  lex (l.length+1) l 1 false=N8 acc (lex ((l.drop i).length+1) (l.drop i) ln false)
def A5q(l:List UInt8)(w:World)(e:Ending)(w':World):Prop:=
 Below w.heap.size w w'/\((∃n,lex (l.length+1) l 1 false=.inl n/\e=.returned (.tuple #[.slice none 0 0,.agg #[.int .i64 2,.int .i64 (n:Nat)]]))\/
  (∃ts va vn vc,lex (l.length+1) l 1 false=.inr ts/\e=.returned (.tuple #[.slice va vn vc,.agg #[.int .i64 0,.int .i64 0]])/\w'.ownsRow 0 198 4 (.slice va vn vc) ts.length (L8 ts)/\(∀g,(Value.slice va vn vc).ownBlock=some g->w.heap.size<=g)))
theorem ke0{k:Nat}(h:k=0):((k:Int)==0)=true:=by subst h;rfl
theorem Xj{k:Nat}(h:k≠0):((k:Int)==0)=false:=by rw[beq_eq_false_iff_ne];omega
theorem j6(a b:List Tk):L8 (a++b)=L8 a++L8 b:=by simp[L8]
theorem Akb{l:List UInt8}{w wr w1 w2:World}{i q m:Nat}{T:Obj}{va:Option Addr}{vn vc g2:Nat}{cs:List Value}(hw:4<=w.heap.size)(lsc:w.heap.size+1<wr.heap.size)(Dt:wr.heap.size<=w1.heap.size)(hR:w1.heap[w.heap.size]?=some (.cells #[.int .i64 0,.int .i64 0] 50 (0,0)))
  (hsc:Sc (w.heap.size+1) 195 w1 l i q) (hb:Below w.heap.size w w1) (hg:It w1) (hown:wr.ownsRow 0 198 4 (.slice va vn vc) m cs) (hlo:∀g,(Value.slice va vn vc).ownBlock=some g->w.heap.size+1<g)
  (hgrow:(w1.alloc T).grownBy w2 (Value.slice va vn vc).ownBlock) (hat:(Value.slice va vn vc).ownBlock=some g2\/g2=(w1.alloc T).heap.size+1) :
  w2.heap[w.heap.size]?=some (.cells #[.int .i64 0,.int .i64 0] 50 (0,0))/\w2.heap[w1.heap.size]?=some T/\Sc (w.heap.size+1) 195 w2 l i q/\Below w.heap.size w w2/\w.heap.size+1<g2/\It w2/\w1.heap.size<w2.heap.size:=by
 have hkeep:∀k,k<=w1.heap.size->k<=w.heap.size+1\/k=w1.heap.size->w2.heap[k]?=(w1.alloc T).heap[k]?:=by
  intro k hk1 Ci;refine hgrow.block k z4ya (fun e=>?_);have:=hlo k e.symm;rcases Ci with h|h
  ·omega
  ·have:=Bn hown k e.symm;omega
 have hs:=hgrow.size;rw[World.size_alloc]at hs;refine⟨(hkeep _ z4va (.inl z4va)).trans (alloc_old hR),(hkeep _ z4va (.inr rfl)).trans (heap_alloc_new _ _),(hkeep _ z4va (.inl z4va)).trans (alloc_old hsc),?_,?_,?_,by omega⟩
 ·exact⟨hgrow.os.trans hb.os,hgrow.tape.trans hb.tape,hgrow.output.trans hb.output,by omega,fun k hk=>(hkeep k z4va (.inl z4va)).trans ((Below.heap_alloc _ _ _ z4va).trans (hb.block k hk))⟩
 ·rcases hat with h|h
  ·exact hlo g2 h
  ·rw[h,World.size_alloc];omega
 ·exact hg.keep (fun k h1 h2=>(hkeep k z4va z4va).trans (Below.heap_alloc _ _ _ h2))
theorem Aka(l:List UInt8)(w:World)(hl:l.length<=99990)(hg:It w)(hw:4<=w.heap.size) :
  Calls Tryz.prog 49 #[.string ⟨l.toArray⟩] w (A5q l w):=by
 have HG0:=A0 hg;clear hg;go_enter Tryz.func49,Tryz.ntmps49;go_wp2;go_loopg [5] l.length (fun k v wr=>A5r l w k v wr)
 case atStart=>
  refine⟨0,1,[],none,0,0,rfl,by omega,by omega,by simp,?_,HG0.o.below (Below.alloc (Below.alloc (Below.refl _ _) (Nat.le_refl _) _) z50a _),Below.alloc (Below.alloc (Below.refl _ _) (Nat.le_refl _) _) z50a _,alloc_old (heap_alloc_new _ _),World.ownsRow_nil _ _ _ _,by simp[Value.ownBlock],by simp[Ahw]⟩;have:=heap_alloc_new (w.alloc (.cells #[.int .i64 0,.int .i64 0] 50)) (.cells #[.string ⟨l.toArray⟩,.int .i64 0,.int .i64 1] 195);simp only[World.size_alloc]at this;exact this
 case round=>
  clear HG0;obtain⟨i,ln,acc,va,vn,vc,rfl,hik,hln,hacc,hsc,hgl,hbel,hR,hown,hlo,hlex⟩:=hrel;have HSc:=A0 hsc;have HG:=A0 hgl;have HB:=A0 hbel;have HR:=A0 hR;have HOwn:=A0 hown;have HLo:=A0 hlo;have HLx:=A0 hlex;have lsz:=hbel.size;have lsc:=A5 hsc;have HN:=A0 (Agl hsc hgl z4va z4va z4va hln);clear hsc hgl hbel hR hown hlo hlex;go_wp2_with fail
  refine HN.o.mono ?_;rintro e w1 ⟨Bx,⟨x,hx,rfl,hsc1⟩|⟨hx,rfl,j,hsc1⟩⟩
  ·obtain⟨k1,k2,k3,k4,k5⟩:=Agp (l.drop i) ln x hx;rw[List.length_drop]at k2;have hR1:=Bx.blk HR.o z4va;have A4:Hid (Below w.heap.size w w1):=⟨Bx.os.trans HB.o.os,Bx.tape.trans HB.o.tape,Bx.output.trans HB.o.output,Nat.le_trans HB.o.size Bx.size,fun k hk=>(Bx.block k z4va z4va).trans (HB.o.block k hk)⟩;have HG1:=A0 (HG.o.only Bx z4va);have Dt:=Bx.size;have F0:w1.ownsRow 0 198 4 (.slice va vn vc) acc.length (L8 acc):=B4 HOwn.o (fun k hk hl=>Bx.block k hl (by have:=HLo.o k hk;omega));have F6:=A0 hR1;have HSc1:=A0 hsc1;have HLx1:Hid (lex (l.length+1) l 1 false=N8 acc (if x.1.k=0 then .inr [⟨0,ln+(Fv (l.drop i)).1,[],0⟩] else N8 [⟨x.1.k,ln+(Fv (l.drop i)).1,x.1.s,x.1.n⟩] (lex ((l.drop (i+x.2)).length+1) (l.drop (i+x.2)) (ln+(Fv (l.drop i)).1) false))):=by
    show _=_;rw[HLx.o,k1,List.drop_drop]
   have HK3:=A0 k3;have HK4:=A0 k4;clear hx Bx k1 hR1 hsc1 k3 k4 HLx HG HB HR HSc HN;have F1:ln+(Fv (l.drop i)).1<=i+x.2+1:=by omega
   generalize hq:ln+(Fv (l.drop i)).1=q at *;clear hq k5;have HOwnA:=A0 (F0.alloc (.cells #[.int .i64 (x.1.k:Nat),.int .i64 (q:Nat),.string ⟨x.1.s.toArray⟩,.int .i64 x.1.n] 198));clear F0;have HSA:=A0 (fun g2 w2 hgrow hat=>Akb (g2:=g2) (w2:=w2) (T:=(.cells #[.int .i64 (x.1.k:Nat),.int .i64 (q:Nat),.string ⟨x.1.s.toArray⟩,.int .i64 x.1.n] 198)) hw lsc Dt F6.o HSc1.o A4.o HG1.o HOwn.o HLo.o hgrow hat);by_cases hk0:x.1.k=0
   ·have t0:((x.1.k:Int)==0)=true:=ke0 hk0;have F9:=HK3.o hk0;have HE:Hid (lex (l.length+1) l 1 false=.inr (acc++[⟨0,q,[],0⟩])):=by
     show _=_;rw[HLx1.o,if_pos hk0];rfl
    have HCs:Hid (#[Value.int .i64 (x.1.k:Nat),.int .i64 (q:Nat),.string ⟨x.1.s.toArray⟩,.int .i64 x.1.n].toList=L8 [⟨0,q,[],0⟩]):=by
     show _=_;rw[F9];rfl
    clear F9 hk0;go_wp2_with (at_builtin;refine Kj (w1.alloc (.cells #[.int .i64 (x.1.k:Nat),.int .i64 (q:Nat),.string ⟨x.1.s.toArray⟩,.int .i64 x.1.n] 198)) #[.int .i64 (x.1.k:Nat),.int .i64 (q:Nat),.string ⟨x.1.s.toArray⟩,.int .i64 x.1.n] 198 rfl (.tmp 23) (.tmp 25) 123 rfl 0 4 40 (.agg #[.int .i64 0,.int .i64 0,.string ⟨#[]⟩,.int .i64 0]) Tryz.underlying123 A1a rfl z4va _ _ _ rfl (by simp;rfl) HOwnA.o rfl (fun u hu=>by simp at hu;rcases hu with rfl|rfl|rfl|rfl <;> rfl) z4va z4va (Nat.zero_le _) ?_;intro g2 cap2 w2 hown2 hgrow2 hat2 Hv;obtain⟨Ei,Jd,hsc2,A8,hlo2,hgl2,hsz2⟩:=HSA.o g2 w2 hgrow2 hat2;obtain⟨z0,z1,fz,lz⟩:=W8 Ei;obtain⟨y0,y1,y2,y3,fy,ly⟩:=E5 Jd;have Cd:=A0 Ei;have HSc2:=A0 hsc2;have Aa:=A0 A8;have HLo2:=A0 hlo2;have HG2:=A0 hgl2;have HOwn2:=A0 hown2;clear Ei Jd hsc2 A8 hlo2 hgl2 hown2 hgrow2 hat2)
    refine bodyPost_ret (v:=.tuple #[.slice (some ⟨g2,0,none⟩) (acc.length+1) cap2,.agg #[.int .i64 0,.int .i64 0]]) (by simp[results,Tryz.results49,go_sem,z0,z1]) rfl ?_;refine⟨?_,.inr ⟨_,some ⟨g2,0,none⟩,acc.length+1,cap2,HE.o,rfl,?_,?_⟩⟩
    ·repeat (first|exact Aa.o|refine Below.alloc ?_ (by simp[World.setCell];omega) _|refine Below.setCell ?_ z50a _|refine Below.drew ?_)
    ·have h1:=HOwn2.o;rw[HCs.o,←j6]at h1;rw[List.length_append];have hg:w.heap.size+1<g2:=HLo2.o;exact B4 h1 (fun k hk _=>by simp only[Value.ownBlock,Option.some.injEq]at hk;rw[Below.heap_setCell _ _ _ _ (by show k≠w.heap.size;omega),Below.heap_setCell _ _ _ _ (by show k≠w.heap.size;omega)])
    ·intro g e;simp only[Value.ownBlock,Option.some.injEq]at e;have hg:w.heap.size+1<g2:=HLo2.o;omega
   ·have t0:((x.1.k:Int)==0)=false:=Xj hk0;have HE:Hid (lex (l.length+1) l 1 false=N8 (acc++[⟨x.1.k,q,x.1.s,x.1.n⟩]) (lex ((l.drop (i+x.2)).length+1) (l.drop (i+x.2)) q false)):=by
     show _=_;rw[HLx1.o,if_neg hk0,Ahv]
    have Gr:=HK4.o hk0;clear hk0;go_wp2_with (at_builtin;refine Kj (w1.alloc (.cells #[.int .i64 (x.1.k:Nat),.int .i64 (q:Nat),.string ⟨x.1.s.toArray⟩,.int .i64 x.1.n] 198)) #[.int .i64 (x.1.k:Nat),.int .i64 (q:Nat),.string ⟨x.1.s.toArray⟩,.int .i64 x.1.n] 198 rfl (.tmp 23) (.tmp 25) 123 rfl 0 4 40 (.agg #[.int .i64 0,.int .i64 0,.string ⟨#[]⟩,.int .i64 0]) Tryz.underlying123 A1a rfl z4va _ _ _ rfl (by simp;rfl) HOwnA.o rfl (fun u hu=>by simp at hu;rcases hu with rfl|rfl|rfl|rfl <;> rfl) z4va z4va (Nat.zero_le _) ?_;intro g2 cap2 w2 hown2 hgrow2 hat2 Hv;obtain⟨Ei,Jd,hsc2,A8,hlo2,hgl2,hsz2⟩:=HSA.o g2 w2 hgrow2 hat2;obtain⟨z0,z1,fz,lz⟩:=W8 Ei;obtain⟨y0,y1,y2,y3,fy,ly⟩:=E5 Jd;have Cd:=A0 Ei;have HSc2:=A0 hsc2;have Aa:=A0 A8;have HLo2:=A0 hlo2;have HG2:=A0 hgl2;have HOwn2:=A0 hown2;clear Ei Jd hsc2 A8 hlo2 hgl2 hown2 hgrow2 hat2)
    go_roundg (gk-x.2)
    case measure=>omega
    case rel=>
     refine⟨i+x.2,q,acc++[⟨x.1.k,q,x.1.s,x.1.n⟩],some ⟨g2,0,none⟩,acc.length+1,cap2,rfl,by omega,by omega,by simp;omega,HSc2.o,HG2.o,Aa.o,Cd.o,?_,?_,HE.o⟩
     ·have:=HOwn2.o;rw[j6,List.length_append];exact this
     ·intro g e;simp only[Value.ownBlock,Option.some.injEq]at e;rw[←e];exact HLo2.o
  ·have HE:Hid (lex (l.length+1) l 1 false=.inl (ln+(Fv (l.drop i)).1)):=by
    show _=_;rw[HLx.o,Ago _ _ hx];rfl
   have hR1:=Bx.blk HR.o z4va;obtain⟨z0,z1,fz,lz⟩:=W8 hR1;obtain⟨c0,c1,c2,fc,lc⟩:=hsc1.cells;have A4:Hid (Below w.heap.size w w1):=⟨Bx.os.trans HB.o.os,Bx.tape.trans HB.o.tape,Bx.output.trans HB.o.output,Nat.le_trans HB.o.size Bx.size,fun k hk=>(Bx.block k z4va z4va).trans (HB.o.block k hk)⟩;have Dt:=Bx.size;clear Bx hx hR1 hsc1;generalize hq:ln+(Fv (l.drop i)).1=q at *;clear hq;go_wp2;go_region
   all_goals go_wp2
   all_goals refine bodyPost_ret (v:=.tuple #[.slice none 0 0,.agg #[.int .i64 2,.int .i64 (q:Nat)]]) (by simp[results,Tryz.results49,go_sem,z0,z1,lz]) rfl ?_
   all_goals refine⟨?_,.inl ⟨q,HE.o,rfl⟩⟩
   all_goals repeat (first|exact A4.o|refine Below.alloc ?_ (by simp[World.setCell];omega) _|refine Below.setCell ?_ z50a _|refine Below.drew ?_)
end
section
open Go.RowKit
open Go.Deep (BT)
theorem Ab6{ts:List Tk}(h1:ts.length<=2001)(h2:Jl 1 2000 ts):Vf ts:=
 ⟨by omega,Jl.last _ h2,fun x hx=>by have:=Jl.mem _ h2 x hx;exact⟨this.1,by omega,this.2.2⟩⟩
theorem Abk{n:Nat}(h:2000<n):decide (2000<(n:Int))=true:=decide_eq_true z4va
theorem Abo{n:Nat}(h:¬2000<n):decide (2000<(n:Int))=false:=decide_eq_false z4va
end
end Go.Proofs.YtjdlndhfaaolaaaGreatDoor
