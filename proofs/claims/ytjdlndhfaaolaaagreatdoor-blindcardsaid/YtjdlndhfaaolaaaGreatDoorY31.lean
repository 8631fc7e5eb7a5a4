import Derived.Test.YtjdlndhfaaolaaaGreatDoorY24
import Derived.Test.YtjdlndhfaaolaaaGreatDoorY30
set_option maxHeartbeats 20000000
set_option linter.all false
namespace Go.Proofs.YtjdlndhfaaolaaaGreatDoor
section
set_option maxRecDepth 100000
open Go.RowKit
def A6r:(Tryz.prog.info? 198).map (fun i=>(i.zero,i.size,i.bytes))=some (some (.agg #[.i 0,.i 0,.string ⟨#[]⟩,.i 0]),4,40):=by kernel_rfl
def Abh(l:List UInt8)(w:World)(k:Nat)(v:Value)(wr:World):Prop:=
 ∃(i ln:Nat) (acc:List Tk) (va:Option Addr) (vn vc:Nat),v=.slice va vn vc/\i+k=l.length/\ln<=i+1/\acc.length<=i/\Sc (w.heap.size+1) 195 wr l i ln/\K6 wr/\Bw w wr/\
  wr.heap[w.heap.size]?=some (.cells #[.i 0,.i 0] 50 (0,0))/\wr.ownsRow 0 198 4 (.slice va vn vc) acc.length (Nh acc)/\(∀g,(Value.slice va vn vc).ownBlock=some g->w.heap.size+1<g)/\
  lex (l.length+1) l 1 false=Pq acc (lex ((l.drop i).length+1) (l.drop i) ln false)
def Abg(l:List UInt8)(w:World)(e:Ending)(w':World):Prop:=
 Bw w w'/\((∃n,lex (l.length+1) l 1 false=.inl n/\e=.returned (.tuple #[.slice none 0 0,.agg #[.i 2,.n n]]))\/
  (∃ts va vn vc,lex (l.length+1) l 1 false=.inr ts/\e=.returned (.tuple #[.slice va vn vc,.agg #[.i 0,.i 0]])/\w'.ownsRow 0 198 4 (.slice va vn vc) ts.length (Nh ts)/\(∀g,(Value.slice va vn vc).ownBlock=some g->w.heap.size<=g)))
def ke0{k:Nat}(h:k=0):((k:Int)==0)=true:=by subst h;rfl
def kn0{k:Nat}(h:k≠0):((k:Int)==0)=false:=by rw[Am];omega
def A5a(a b:List Tk):Nh (a++b)=Nh a++Nh b:=by simp[Nh]
def Aqz{l:List UInt8}{w wr w1 w2:World}{i q m:Nat}{T:Obj}{va:Option Addr}{vn vc g2:Nat}{cs:List Value}(hw:4<=w.heap.size)(lsc:w.heap.size+1<wr.heap.size)(Ef:wr.heap.size<=w1.heap.size)(hR:w1.heap[w.heap.size]?=some (.cells #[.i 0,.i 0] 50 (0,0)))
  (hsc:Sc (w.heap.size+1) 195 w1 l i q) (hb:Bw w w1) (hg:K6 w1) (hown:wr.ownsRow 0 198 4 (.slice va vn vc) m cs) (hlo:∀g,(Value.slice va vn vc).ownBlock=some g->w.heap.size+1<g)
  (hgrow:(w1.alloc T).grownBy w2 (Value.slice va vn vc).ownBlock) (hat:(Value.slice va vn vc).ownBlock=some g2\/g2=(w1.alloc T).heap.size+1) :
  w2.heap[w.heap.size]?=some (.cells #[.i 0,.i 0] 50 (0,0))/\w2.heap[w1.heap.size]?=some T/\Sc (w.heap.size+1) 195 w2 l i q/\Bw w w2/\w.heap.size+1<g2/\K6 w2/\w1.heap.size<w2.heap.size:=by
 have hkeep:∀k,k<=w1.heap.size->k<=w.heap.size+1\/k=w1.heap.size->w2.heap[k]?=(w1.alloc T).heap[k]?:=by
  intro k hk1 D4;refine hgrow.block k z4qa (fun e=>?_);have:=hlo k e.symm;rcases D4 with h|h
  ·omega
  ·have:=Bs hown k e.symm;omega
 have hs:=hgrow.size;rw[K3]at hs;refine⟨(hkeep _ z4ma (.inl z4ma)).trans (alloc_old hR),(hkeep _ z4ma (.inr rfl)).trans (Bp _ _),(hkeep _ z4ma (.inl z4ma)).trans (alloc_old hsc),?_,?_,?_,by omega⟩
 ·exact⟨hgrow.os.trans hb.os,hgrow.tape.trans hb.tape,hgrow.output.trans hb.output,by omega,fun k hk=>(hkeep k z4ma (.inl z4ma)).trans ((Ck _ _ _ z4ma).trans (hb.block k hk))⟩
 ·rcases hat with h|h
  ·exact hlo g2 h
  ·rw[h,K3];omega
 ·exact hg.keep (fun k h1 h2=>(hkeep k z4ma z4ma).trans (Ck _ _ _ h2))
def Aqy(l:List UInt8)(w:World)(hl:l.length<=99990)(hg:K6 w)(hw:4<=w.heap.size) :
  Calls Tryz.prog 49 #[.s l] w (Abg l w):=by
 have HG0:=A0 hg;clear hg;go_in;go_wp2;go_loopg [5] l.length (fun k v wr=>Abh l w k v wr)
 case atStart=>
  refine⟨0,1,[],none,0,0,rfl,by omega,by omega,by simp,?_,HG0.o.below (Ah (Ah (Al _ _) (Af _) _) z4ra _),Ah (Ah (Al _ _) (Af _) _) z4ra _,alloc_old (Bp _ _),M9 _ _ _ _,by simp[Value.ownBlock],by simp[Aov]⟩;have:=Bp (w.alloc (.cells #[.i 0,.i 0] 50)) (.cells #[.s l,.i 0,.i 1] 195);simp only[K3]at this;exact this
 case round=>
  clear HG0;obtain⟨i,ln,acc,va,vn,vc,rfl,hik,hln,hacc,hsc,hgl,hbel,hR,hown,hlo,hlex⟩:=hrel;have HSc:=A0 hsc;have HG:=A0 hgl;have HB:=A0 hbel;have HR:=A0 hR;have HOwn:=A0 hown;have HLo:=A0 hlo;have HLx:=A0 hlex;have lsz:=hbel.size;have lsc:=A6 hsc;have HN:=A0 (Amm hsc hgl z4ma z4ma z4ma hln);clear hsc hgl hbel hR hown hlo hlex;go_wp2_with fail
  refine HN.o.mono ?_;rintro e w1 ⟨Cy,⟨x,hx,rfl,hsc1⟩|⟨hx,rfl,j,hsc1⟩⟩
  ·obtain⟨k1,k2,k3,k4,k5⟩:=Amq (l.drop i) ln x hx;rw[Qs]at k2;have hR1:=Cy.blk HR.o z4ma;have A9:Hid (Bw w w1):=⟨Cy.os.trans HB.o.os,Cy.tape.trans HB.o.tape,Cy.output.trans HB.o.output,Fu HB.o.size Cy.size,fun k hk=>(Cy.block k z4ma z4ma).trans (HB.o.block k hk)⟩;have HG1:=A0 (HG.o.only Cy z4ma);have Ef:=Cy.size;have Ev:w1.ownsRow 0 198 4 (.slice va vn vc) acc.length (Nh acc):=Bc HOwn.o (fun k hk hl=>Cy.block k hl (by have:=HLo.o k hk;omega));have HR1:=A0 hR1;have HSc1:=A0 hsc1;have HLx1:Hid (lex (l.length+1) l 1 false=Pq acc (if x.1.k=0 then .inr [⟨0,ln+(Gs (l.drop i)).1,[],0⟩] else Pq [⟨x.1.k,ln+(Gs (l.drop i)).1,x.1.s,x.1.n⟩] (lex ((l.drop (i+x.2)).length+1) (l.drop (i+x.2)) (ln+(Gs (l.drop i)).1) false))):=by
    show _=_;rw[HLx.o,k1,Uz]
   have HK3:=A0 k3;have HK4:=A0 k4;clear hx Cy k1 hR1 hsc1 k3 k4 HLx HG HB HR HSc HN;have Gd:ln+(Gs (l.drop i)).1<=i+x.2+1:=by omega
   generalize hq:ln+(Gs (l.drop i)).1=q at *;clear hq k5;have HOwnA:=A0 (Ev.alloc (.cells #[.n x.1.k,.n q,.s x.1.s,.i x.1.n] 198));clear Ev;have HSA:=A0 (fun g2 w2 hgrow hat=>Aqz (g2:=g2) (w2:=w2) (T:=(.cells #[.n x.1.k,.n q,.s x.1.s,.i x.1.n] 198)) hw lsc Ef HR1.o HSc1.o A9.o HG1.o HOwn.o HLo.o hgrow hat);by_cases hk0:x.1.k=0
   ·have t0:((x.1.k:Int)==0)=true:=ke0 hk0;have Fz:=HK3.o hk0;have HE:Hid (lex (l.length+1) l 1 false=.inr (acc++[⟨0,q,[],0⟩])):=by
     show _=_;rw[HLx1.o,A7 hk0];rfl
    have HCs:Hid (#[Value.n x.1.k,.n q,.s x.1.s,.i x.1.n].toList=Nh [⟨0,q,[],0⟩]):=by
     show _=_;rw[Fz];rfl
    clear Fz hk0;go_wp2_with (at_builtin;refine Lh (w1.alloc (.cells #[.n x.1.k,.n q,.s x.1.s,.i x.1.n] 198)) #[.n x.1.k,.n q,.s x.1.s,.i x.1.n] 198 rfl (.tmp 23) (.tmp 25) 123 rfl 0 4 40 (.agg #[.i 0,.i 0,.string ⟨#[]⟩,.i 0]) Tryz.underlying123 A6r rfl z4ma _ _ _ rfl (by simp;rfl) HOwnA.o rfl (fun u hu=>by simp at hu;rcases hu with rfl|rfl|rfl|rfl <;> rfl) z4ma z4ma (De _) ?_;intro g2 cap2 w2 hown2 hgrow2 hat2 Jw;obtain⟨G7,Kz,hsc2,Ad,hlo2,hgl2,hsz2⟩:=HSA.o g2 w2 hgrow2 hat2;obtain⟨z0,z1,fz,lz⟩:=s7 G7;obtain⟨y0,y1,y2,y3,fy,ly⟩:=Eo Kz;have Hx:=A0 G7;have HSc2:=A0 hsc2;have Ab:=A0 Ad;have HLo2:=A0 hlo2;have HG2:=A0 hgl2;have HOwn2:=A0 hown2;clear G7 Kz hsc2 Ad hlo2 hgl2 hown2 hgrow2 hat2)
    refine B9 (v:=.tuple #[.slice (some ⟨g2,0,none⟩) (acc.length+1) cap2,.agg #[.i 0,.i 0]]) (by simp[results,Tryz.results49,go_sem,z0,z1]) rfl ?_;refine⟨?_,.inr ⟨_,some ⟨g2,0,none⟩,acc.length+1,cap2,HE.o,rfl,?_,?_⟩⟩
    ·exact z30a
    ·have h1:=HOwn2.o;rw[HCs.o,←A5a]at h1;rw[Ds];have hg:w.heap.size+1<g2:=HLo2.o;exact Bc h1 (fun k hk _=>by simp only[Value.ownBlock,Cg]at hk;rw[Bh _ _ _ _ z5ta,Bh _ _ _ _ z5ta])
    ·intro g e;simp only[Value.ownBlock,Cg]at e;have hg:w.heap.size+1<g2:=HLo2.o;omega
   ·have t0:((x.1.k:Int)==0)=false:=kn0 hk0;have HE:Hid (lex (l.length+1) l 1 false=Pq (acc++[⟨x.1.k,q,x.1.s,x.1.n⟩]) (lex ((l.drop (i+x.2)).length+1) (l.drop (i+x.2)) q false)):=by
     show _=_;rw[HLx1.o,A1 hk0,Aou]
    have Jk:=HK4.o hk0;clear hk0;go_wp2_with (at_builtin;refine Lh (w1.alloc (.cells #[.n x.1.k,.n q,.s x.1.s,.i x.1.n] 198)) #[.n x.1.k,.n q,.s x.1.s,.i x.1.n] 198 rfl (.tmp 23) (.tmp 25) 123 rfl 0 4 40 (.agg #[.i 0,.i 0,.string ⟨#[]⟩,.i 0]) Tryz.underlying123 A6r rfl z4ma _ _ _ rfl (by simp;rfl) HOwnA.o rfl (fun u hu=>by simp at hu;rcases hu with rfl|rfl|rfl|rfl <;> rfl) z4ma z4ma (De _) ?_;intro g2 cap2 w2 hown2 hgrow2 hat2 Jw;obtain⟨G7,Kz,hsc2,Ad,hlo2,hgl2,hsz2⟩:=HSA.o g2 w2 hgrow2 hat2;obtain⟨z0,z1,fz,lz⟩:=s7 G7;obtain⟨y0,y1,y2,y3,fy,ly⟩:=Eo Kz;have Hx:=A0 G7;have HSc2:=A0 hsc2;have Ab:=A0 Ad;have HLo2:=A0 hlo2;have HG2:=A0 hgl2;have HOwn2:=A0 hown2;clear G7 Kz hsc2 Ad hlo2 hgl2 hown2 hgrow2 hat2)
    go_roundg (gk-x.2)
    case measure=>omega
    case rel=>
     refine⟨i+x.2,q,acc++[⟨x.1.k,q,x.1.s,x.1.n⟩],some ⟨g2,0,none⟩,acc.length+1,cap2,rfl,by omega,by omega,by simp;omega,HSc2.o,HG2.o,Ab.o,Hx.o,?_,?_,HE.o⟩
     ·have:=HOwn2.o;rw[A5a,Ds];exact this
     ·intro g e;simp only[Value.ownBlock,Cg]at e;rw[←e];exact HLo2.o
  ·have HE:Hid (lex (l.length+1) l 1 false=.inl (ln+(Gs (l.drop i)).1)):=by
    show _=_;rw[HLx.o,Amp _ _ hx];rfl
   have hR1:=Cy.blk HR.o z4ma;obtain⟨z0,z1,fz,lz⟩:=s7 hR1;obtain⟨c0,c1,c2,fc,lc⟩:=hsc1.cells;have A9:Hid (Bw w w1):=⟨Cy.os.trans HB.o.os,Cy.tape.trans HB.o.tape,Cy.output.trans HB.o.output,Fu HB.o.size Cy.size,fun k hk=>(Cy.block k z4ma z4ma).trans (HB.o.block k hk)⟩;have Ef:=Cy.size;clear Cy hx hR1 hsc1;generalize hq:ln+(Gs (l.drop i)).1=q at *;clear hq;go_wp2;go_region
   all_goals go_wp2
   all_goals refine B9 (v:=.tuple #[.slice none 0 0,.agg #[.i 2,.n q]]) (by simp[results,Tryz.results49,go_sem,z0,z1,lz]) rfl ?_
   all_goals refine⟨?_,.inl ⟨q,HE.o,rfl⟩⟩
   all_goals repeat (first|exact A9.o|refine Ah ?_ z4sa _|refine B0 ?_ z4ra _|refine B8 ?_)
end
section
open Go.RowKit
open Go.Deep (BT)
def Ahb{ts:List Tk}(h1:ts.length<=2001)(h2:Kt 1 2000 ts):Zo ts:=
 ⟨by omega,Kt.last _ h2,fun x hx=>by have:=Kt.mem _ h2 x hx;exact⟨this.1,by omega,this.2.2⟩⟩
def Ahj{n:Nat}(h:2000<n):decide (2000<(n:Int))=true:=Sa z4ma
def Ahk{n:Nat}(h:¬2000<n):decide (2000<(n:Int))=false:=O2 z4ma
