import Derived.Test.YtjdlndhfaaolaaaGreatDoorX24
import Derived.Test.YtjdlndhfaaolaaaGreatDoorX31
set_option maxHeartbeats 20000000
namespace Go.Proofs.YtjdlndhfaaolaaaGreatDoor
section
set_option maxRecDepth 100000
open Go.RowKit
theorem A1d:(Tryz.prog.info? 198).map (fun i=>(i.zero,i.size,i.bytes))=some (some (.agg #[.int .i64 0,.int .i64 0,.string ⟨#[]⟩,.int .i64 0]),4,40):=by kernel_rfl
def A5z(l:List UInt8)(w:World)(k:Nat)(v:Value)(wr:World):Prop:=
 ∃(i ln:Nat) (acc:List Tk) (va:Option Addr) (vn vc:Nat),v=.slice va vn vc/\i+k=l.length/\ln<=i+1/\acc.length<=i/\Sc (w.heap.size+1) 195 wr l i ln/\Ix wr/\Below w.heap.size w wr/\
  wr.heap[w.heap.size]?=some (.cells #[.int .i64 0,.int .i64 0] 50 (0,0))/\wr.ownsRow 0 198 4 (.slice va vn vc) acc.length (L0 acc)/\(∀g,(Value.slice va vn vc).ownBlock=some g->w.heap.size+1<g)/\
  lex (l.length+1) l 1 false=N5 acc (lex ((l.drop i).length+1) (l.drop i) ln false)
def A5y(l:List UInt8)(w:World)(e:Ending)(w':World):Prop:=
 Below w.heap.size w w'/\((∃n,lex (l.length+1) l 1 false=.inl n/\e=.returned (.tuple #[.slice none 0 0,.agg #[.int .i64 2,.int .i64 (n:Nat)]]))\/
  (∃ts va vn vc,lex (l.length+1) l 1 false=.inr ts/\e=.returned (.tuple #[.slice va vn vc,.agg #[.int .i64 0,.int .i64 0]])/\w'.ownsRow 0 198 4 (.slice va vn vc) ts.length (L0 ts)/\(∀g,(Value.slice va vn vc).ownBlock=some g->w.heap.size<=g)))
theorem ke0{k:Nat}(h:k=0):((k:Int)==0)=true:=by subst h;rfl
theorem Xt{k:Nat}(h:k≠0):((k:Int)==0)=false:=by rw[beq_eq_false_iff_ne];omega
theorem x8(a b:List Tk):L0 (a++b)=L0 a++L0 b:=by simp[L0]
theorem Ain{l:List UInt8}{w wr w1 w2:World}{i q m:Nat}{T:Obj}{va:Option Addr}{vn vc g2:Nat}{cs:List Value}(hw:4<=w.heap.size)(lsc:w.heap.size+1<wr.heap.size)(Df:wr.heap.size<=w1.heap.size)(hR:w1.heap[w.heap.size]?=some (.cells #[.int .i64 0,.int .i64 0] 50 (0,0)))
  (hsc:Sc (w.heap.size+1) 195 w1 l i q) (hb:Below w.heap.size w w1) (hg:Ix w1) (hown:wr.ownsRow 0 198 4 (.slice va vn vc) m cs) (hlo:∀g,(Value.slice va vn vc).ownBlock=some g->w.heap.size+1<g)
  (hgrow:(w1.alloc T).grownBy w2 (Value.slice va vn vc).ownBlock) (hat:(Value.slice va vn vc).ownBlock=some g2\/g2=(w1.alloc T).heap.size+1) :
  w2.heap[w.heap.size]?=some (.cells #[.int .i64 0,.int .i64 0] 50 (0,0))/\w2.heap[w1.heap.size]?=some T/\Sc (w.heap.size+1) 195 w2 l i q/\Below w.heap.size w w2/\w.heap.size+1<g2/\Ix w2/\w1.heap.size<w2.heap.size:=by
 have hkeep:∀k,k<=w1.heap.size->k<=w.heap.size+1\/k=w1.heap.size->w2.heap[k]?=(w1.alloc T).heap[k]?:=by
  intro k hk1 C7;refine hgrow.block k z4za (fun e=>?_);have:=hlo k e.symm;rcases C7 with h|h
  ·omega
  ·have:=Bg hown k e.symm;omega
 have hs:=hgrow.size;rw[World.size_alloc]at hs;refine⟨(hkeep _ z4sa (.inl z4sa)).trans (alloc_old hR),(hkeep _ z4sa (.inr rfl)).trans (heap_alloc_new _ _),(hkeep _ z4sa (.inl z4sa)).trans (alloc_old hsc),?_,?_,?_,by omega⟩
 ·exact⟨hgrow.os.trans hb.os,hgrow.tape.trans hb.tape,hgrow.output.trans hb.output,by omega,fun k hk=>(hkeep k z4sa (.inl z4sa)).trans ((Below.heap_alloc _ _ _ z4sa).trans (hb.block k hk))⟩
 ·rcases hat with h|h
  ·exact hlo g2 h
  ·rw[h,World.size_alloc];omega
 ·exact hg.keep (fun k h1 h2=>(hkeep k z4sa z4sa).trans (Below.heap_alloc _ _ _ h2))
theorem Aim(l:List UInt8)(w:World)(hl:l.length<=99990)(hg:Ix w)(hw:4<=w.heap.size) :
  Calls Tryz.prog 49 #[.string ⟨l.toArray⟩] w (A5y l w):=by
 have HG0:=A0 hg;clear hg;go_enter Tryz.func49,Tryz.ntmps49;go_wp2;go_loopg [5] l.length (fun k v wr=>A5z l w k v wr)
 case atStart=>
  refine⟨0,1,[],none,0,0,rfl,by omega,by omega,by simp,?_,HG0.o.below (Below.alloc (Below.alloc (Below.refl _ _) (Nat.le_refl _) _) z4wa _),Below.alloc (Below.alloc (Below.refl _ _) (Nat.le_refl _) _) z4wa _,alloc_old (heap_alloc_new _ _),World.ownsRow_nil _ _ _ _,by simp[Value.ownBlock],by simp[Agp]⟩;have:=heap_alloc_new (w.alloc (.cells #[.int .i64 0,.int .i64 0] 50)) (.cells #[.string ⟨l.toArray⟩,.int .i64 0,.int .i64 1] 195);simp only[World.size_alloc]at this;exact this
 case round=>
  clear HG0;obtain⟨i,ln,acc,va,vn,vc,rfl,hik,hln,hacc,hsc,hgl,hbel,hR,hown,hlo,hlex⟩:=hrel;have HSc:=A0 hsc;have HG:=A0 hgl;have HB:=A0 hbel;have HR:=A0 hR;have HOwn:=A0 hown;have HLo:=A0 hlo;have HLx:=A0 hlex;have lsz:=hbel.size;have lsc:=A6 hsc;have HN:=A0 (Afa hsc hgl z4sa z4sa z4sa hln);clear hsc hgl hbel hR hown hlo hlex;go_wp2_with fail
  refine HN.o.mono ?_;rintro e w1 ⟨Bt,⟨x,hx,rfl,hsc1⟩|⟨hx,rfl,j,hsc1⟩⟩
  ·obtain⟨k1,k2,k3,k4,k5⟩:=Afe (l.drop i) ln x hx;rw[List.length_drop]at k2;have hR1:=Bt.blk HR.o z4sa;have A4:Hid (Below w.heap.size w w1):=⟨Bt.os.trans HB.o.os,Bt.tape.trans HB.o.tape,Bt.output.trans HB.o.output,Nat.le_trans HB.o.size Bt.size,fun k hk=>(Bt.block k z4sa z4sa).trans (HB.o.block k hk)⟩;have HG1:=A0 (HG.o.only Bt z4sa);have Df:=Bt.size;have Es:w1.ownsRow 0 198 4 (.slice va vn vc) acc.length (L0 acc):=B2 HOwn.o (fun k hk hl=>Bt.block k hl (by have:=HLo.o k hk;omega));have Jj:=A0 hR1;have HSc1:=A0 hsc1;have HLx1:Hid (lex (l.length+1) l 1 false=N5 acc (if x.1.k=0 then .inr [⟨0,ln+(Fo (l.drop i)).1,[],0⟩] else N5 [⟨x.1.k,ln+(Fo (l.drop i)).1,x.1.s,x.1.n⟩] (lex ((l.drop (i+x.2)).length+1) (l.drop (i+x.2)) (ln+(Fo (l.drop i)).1) false))):=by
    show _=_;rw[HLx.o,k1,List.drop_drop]
   have HK3:=A0 k3;have HK4:=A0 k4;clear hx Bt k1 hR1 hsc1 k3 k4 HLx HG HB HR HSc HN;have I3:ln+(Fo (l.drop i)).1<=i+x.2+1:=by omega
   generalize hq:ln+(Fo (l.drop i)).1=q at *;clear hq k5;have HOwnA:=A0 (Es.alloc (.cells #[.int .i64 (x.1.k:Nat),.int .i64 (q:Nat),.string ⟨x.1.s.toArray⟩,.int .i64 x.1.n] 198));clear Es;have HSA:=A0 (fun g2 w2 hgrow hat=>Ain (g2:=g2) (w2:=w2) (T:=(.cells #[.int .i64 (x.1.k:Nat),.int .i64 (q:Nat),.string ⟨x.1.s.toArray⟩,.int .i64 x.1.n] 198)) hw lsc Df Jj.o HSc1.o A4.o HG1.o HOwn.o HLo.o hgrow hat);by_cases J2:x.1.k=0
   ·have t0:((x.1.k:Int)==0)=true:=ke0 J2;have Hf:=HK3.o J2;have HE:Hid (lex (l.length+1) l 1 false=.inr (acc++[⟨0,q,[],0⟩])):=by
     show _=_;rw[HLx1.o,if_pos J2];rfl
    have HCs:Hid (#[Value.int .i64 (x.1.k:Nat),.int .i64 (q:Nat),.string ⟨x.1.s.toArray⟩,.int .i64 x.1.n].toList=L0 [⟨0,q,[],0⟩]):=by
     show _=_;rw[Hf];rfl
    clear Hf J2;go_wp2_with (at_builtin;refine Ju (w1.alloc (.cells #[.int .i64 (x.1.k:Nat),.int .i64 (q:Nat),.string ⟨x.1.s.toArray⟩,.int .i64 x.1.n] 198)) #[.int .i64 (x.1.k:Nat),.int .i64 (q:Nat),.string ⟨x.1.s.toArray⟩,.int .i64 x.1.n] 198 rfl (.tmp 23) (.tmp 25) 123 rfl 0 4 40 (.agg #[.int .i64 0,.int .i64 0,.string ⟨#[]⟩,.int .i64 0]) Tryz.underlying123 A1d rfl z4sa _ _ _ rfl (by simp;rfl) HOwnA.o rfl (fun u hu=>by simp at hu;rcases hu with rfl|rfl|rfl|rfl <;> rfl) z4sa z4sa (Nat.zero_le _) ?_;intro g2 cap2 w2 hown2 hgrow2 hat2 Io;obtain⟨Eg,Il,hsc2,A9,hlo2,hgl2,hsz2⟩:=HSA.o g2 w2 hgrow2 hat2;obtain⟨z0,z1,fz,lz⟩:=Vw Eg;obtain⟨y0,y1,y2,y3,fy,ly⟩:=Dt Il;have Dv:=A0 Eg;have HSc2:=A0 hsc2;have Aa:=A0 A9;have HLo2:=A0 hlo2;have HG2:=A0 hgl2;have HOwn2:=A0 hown2;clear Eg Il hsc2 A9 hlo2 hgl2 hown2 hgrow2 hat2)
    refine bodyPost_ret (v:=.tuple #[.slice (some ⟨g2,0,none⟩) (acc.length+1) cap2,.agg #[.int .i64 0,.int .i64 0]]) (by simp[results,Tryz.results49,go_sem,z0,z1]) rfl ?_;refine⟨?_,.inr ⟨_,some ⟨g2,0,none⟩,acc.length+1,cap2,HE.o,rfl,?_,?_⟩⟩
    ·repeat (first|exact Aa.o|refine Below.alloc ?_ (by simp[World.setCell];omega) _|refine Below.setCell ?_ z4wa _|refine Below.drew ?_)
    ·have h1:=HOwn2.o;rw[HCs.o,←x8]at h1;rw[List.length_append];have hg:w.heap.size+1<g2:=HLo2.o;exact B2 h1 (fun k hk _=>by simp only[Value.ownBlock,Option.some.injEq]at hk;rw[Below.heap_setCell _ _ _ _ (by show k≠w.heap.size;omega),Below.heap_setCell _ _ _ _ (by show k≠w.heap.size;omega)])
    ·intro g e;simp only[Value.ownBlock,Option.some.injEq]at e;have hg:w.heap.size+1<g2:=HLo2.o;omega
   ·have t0:((x.1.k:Int)==0)=false:=Xt J2;have HE:Hid (lex (l.length+1) l 1 false=N5 (acc++[⟨x.1.k,q,x.1.s,x.1.n⟩]) (lex ((l.drop (i+x.2)).length+1) (l.drop (i+x.2)) q false)):=by
     show _=_;rw[HLx1.o,if_neg J2,Ago]
    have Gs:=HK4.o J2;clear J2;go_wp2_with (at_builtin;refine Ju (w1.alloc (.cells #[.int .i64 (x.1.k:Nat),.int .i64 (q:Nat),.string ⟨x.1.s.toArray⟩,.int .i64 x.1.n] 198)) #[.int .i64 (x.1.k:Nat),.int .i64 (q:Nat),.string ⟨x.1.s.toArray⟩,.int .i64 x.1.n] 198 rfl (.tmp 23) (.tmp 25) 123 rfl 0 4 40 (.agg #[.int .i64 0,.int .i64 0,.string ⟨#[]⟩,.int .i64 0]) Tryz.underlying123 A1d rfl z4sa _ _ _ rfl (by simp;rfl) HOwnA.o rfl (fun u hu=>by simp at hu;rcases hu with rfl|rfl|rfl|rfl <;> rfl) z4sa z4sa (Nat.zero_le _) ?_;intro g2 cap2 w2 hown2 hgrow2 hat2 Io;obtain⟨Eg,Il,hsc2,A9,hlo2,hgl2,hsz2⟩:=HSA.o g2 w2 hgrow2 hat2;obtain⟨z0,z1,fz,lz⟩:=Vw Eg;obtain⟨y0,y1,y2,y3,fy,ly⟩:=Dt Il;have Dv:=A0 Eg;have HSc2:=A0 hsc2;have Aa:=A0 A9;have HLo2:=A0 hlo2;have HG2:=A0 hgl2;have HOwn2:=A0 hown2;clear Eg Il hsc2 A9 hlo2 hgl2 hown2 hgrow2 hat2)
    go_roundg (gk-x.2)
    case measure=>omega
    case rel=>
     refine⟨i+x.2,q,acc++[⟨x.1.k,q,x.1.s,x.1.n⟩],some ⟨g2,0,none⟩,acc.length+1,cap2,rfl,by omega,by omega,by simp;omega,HSc2.o,HG2.o,Aa.o,Dv.o,?_,?_,HE.o⟩
     ·have:=HOwn2.o;rw[x8,List.length_append];exact this
     ·intro g e;simp only[Value.ownBlock,Option.some.injEq]at e;rw[←e];exact HLo2.o
  ·have HE:Hid (lex (l.length+1) l 1 false=.inl (ln+(Fo (l.drop i)).1)):=by
    show _=_;rw[HLx.o,Afd _ _ hx];rfl
   have hR1:=Bt.blk HR.o z4sa;obtain⟨z0,z1,fz,lz⟩:=Vw hR1;obtain⟨c0,c1,c2,fc,lc⟩:=hsc1.cells;have A4:Hid (Below w.heap.size w w1):=⟨Bt.os.trans HB.o.os,Bt.tape.trans HB.o.tape,Bt.output.trans HB.o.output,Nat.le_trans HB.o.size Bt.size,fun k hk=>(Bt.block k z4sa z4sa).trans (HB.o.block k hk)⟩;have Df:=Bt.size;clear Bt hx hR1 hsc1;generalize hq:ln+(Fo (l.drop i)).1=q at *;clear hq;go_wp2;go_region
   all_goals go_wp2
   all_goals refine bodyPost_ret (v:=.tuple #[.slice none 0 0,.agg #[.int .i64 2,.int .i64 (q:Nat)]]) (by simp[results,Tryz.results49,go_sem,z0,z1,lz]) rfl ?_
   all_goals refine⟨?_,.inl ⟨q,HE.o,rfl⟩⟩
   all_goals repeat (first|exact A4.o|refine Below.alloc ?_ (by simp[World.setCell];omega) _|refine Below.setCell ?_ z4wa _|refine Below.drew ?_)
end
section
open Go.RowKit
open Go.Deep (BT)
theorem Aan{ts:List Tk}(h1:ts.length<=2001)(h2:Hu 1 2000 ts):V4 ts:=
 ⟨by omega,Hu.last _ h2,fun x hx=>by have:=Hu.mem _ h2 x hx;exact⟨this.1,by omega,this.2.2⟩⟩
theorem Aav{n:Nat}(h:2000<n):decide (2000<(n:Int))=true:=decide_eq_true z4sa
theorem Aaw{n:Nat}(h:¬2000<n):decide (2000<(n:Int))=false:=decide_eq_false z4sa
end
end Go.Proofs.YtjdlndhfaaolaaaGreatDoor
