import Derived.Test.YtjdlndhfaaolaaaGreatDoorR11
import Derived.Test.YtjdlndhfaaolaaaGreatDoorR29
set_option maxHeartbeats 20000000
namespace Go.Proofs.YtjdlndhfaaolaaaGreatDoor
section
set_option maxRecDepth 100000
open Go.RowKit
open Go.Deep (BT)
theorem Rq:(Tryz.prog.info? 9).map (fun i=>(i.zero,i.size,i.bytes))=some (some (.string ⟨#[]⟩),1,16):=by kernel_rfl
theorem V6:(Tryz.prog.info? 3).map (fun i=>(i.zero,i.size,i.bytes))=some (some (.int .i64 0),1,8):=by kernel_rfl
theorem Zd{D:Nat->Prop}{sb pb te:Nat}{w:World}{outer cur:List Nm}{ob:List Nat}{blk wh:Nat}{inn:Bool}{f:B3}(h:L9 D sb pb te w outer ob cur blk wh inn f)(hlen:(outer++cur).length<=900000)(hlo:∀g,D g->g<w.heap.size)(s:Nm) :
  Calls Tryz.prog 116 #[.pointer (some ⟨sb,0,none⟩),.string ⟨s.toArray⟩] w fun e w'=>e=.returned (.tuple #[])/\L9 D sb pb te w' outer ob (cur++[s]) blk wh inn f/\A4 D w w':=by
 obtain⟨na,nn,nc,ba,bn,bc,bs,h⟩:=h;obtain⟨c0,c1,c2,c3,c4,c5,c6,c7,fz,ls⟩:=Gn h.cell;have J5:=h.len;have HH:=A0 h;have hown:=h.names;have Iv:=h.blocks;have h2:=h.C5;have h3:=h.Ed;have HLo1:=A0 h.Di;clear h;generalize hns:outer++cur=ns at hown hlen J5;have HNS:=A0 hns;have HLo2:=A0 h2;have HLo3:=A0 h3;have hnn:nn=ns.length:=(C9 hown).1;have hbn:bn=bs.length:=(C9 Iv).1;have hlb:bs.length<=900000:=by omega
 subst hnn hbn;have C8:=A0 J5;clear hns h2 h3 J5;go_enter Tryz.func116,Tryz.ntmps116;have HOwn2:=A0 Iv;have HSb:=A0 HH.o.cell;go_wp2_with (at_builtin;first
  | (refine F1 w #[.string ⟨s.toArray⟩] 9 rfl (.tmp 8) (.tmp 10) 37 rfl 0 1 16 (.string ⟨#[]⟩) Tryz.underlying37 Rq rfl (by omega) _ _ _ rfl rfl hown rfl (fun u hu=>by simp at hu;rw[hu];rfl) (by omega) (by omega) (Nat.zero_le _) ?_;intro g1 Bw w1 E1 hgrow1 hat1 hg1
     replace hgrow1:w.grownBy w1 (Value.slice na ns.length nc).ownBlock:=hgrow1;replace hat1:(Value.slice na ns.length nc).ownBlock=some g1\/g1=w.heap.size+1:=hat1;have HG1:Hid (¬D g1/\g1≠sb/\(Value.slice ba bs.length bc).ownBlock≠some g1):=(by rcases hat1 with e|e;exact HLo2.o g1 e;refine⟨fun hd=>by have:=hlo _ hd;omega,by omega,fun e2=>?_⟩;have:=Ca HOwn2.o g1 e2;omega);have hsb1:=(hgrow1.block sb ls (fun e=>(HLo2.o sb e.symm).2.1 rfl)).trans HSb.o;obtain⟨y0,y1,y2,y3,y4,y5,y6,y7,fy,ly⟩:=Gn hsb1;have HSb1:=A0 hsb1;have J6:(w1.setCell ⟨sb,1,none⟩ (.slice (some ⟨g1,0,none⟩) (ns.length+1) Bw)).ownsRow 0 3 1 (.slice ba bs.length bc) bs.length (bs.map N1):=Bb HOwn2.o (fun k hk hl=>by have hk3:=HLo3.o k hk;exact(Below.heap_setCell _ _ _ _ (by exact hk3.2)).trans (hgrow1.block k hl (fun e=>(HLo2.o k e.symm).2.2 hk)));have HGrow1:=A0 hgrow1;have Ad:(w1.setCell ⟨sb,1,none⟩ (.slice (some ⟨g1,0,none⟩) (ns.length+1) Bw)).heap.size=w1.heap.size:=(by simp[World.setCell]);have HOwn1:=A0 E1;clear hsb1 hgrow1 hat1 E1 hown Iv c0 c1 c2 c3 c4 c5 c6 c7 fz)
  | fail)
 go_region_law (refine P9 _ w1.heap.size #[.int .i64 (blk:Nat)] 3 (by show((w1.setCell ⟨sb,1,none⟩ (.slice (some ⟨g1,0,none⟩) (ns.length+1) Bw)).alloc _).heap[w1.heap.size]?=_;have:=heap_alloc_new (w1.setCell ⟨sb,1,none⟩ (.slice (some ⟨g1,0,none⟩) (ns.length+1) Bw)) (.cells #[.int .i64 (blk:Nat)] 3);rw[Ad]at this;exact this) rfl (.tmp 18) (.tmp 23) 34 rfl 0 1 8 (.int .i64 0) Tryz.underlying34 V6 rfl (by omega) (.slice ba bs.length bc) bs.length (bs.map N1) rfl rfl (J6.alloc _) rfl (fun u hu=>by simp at hu;rw[hu];rfl) (by omega) (by omega) (Nat.zero_le _) ?_;intro g2 cap2 w2 Iv hgrow2' hat2' Eo;have hgrow2:(w1.setCell ⟨sb,1,none⟩ (.slice (some ⟨g1,0,none⟩) (ns.length+1) Bw)).grownBy w2 (Value.slice ba bs.length bc).ownBlock:=N6 (World.grownBy_alloc (w1.setCell ⟨sb,1,none⟩ (.slice (some ⟨g1,0,none⟩) (ns.length+1) Bw)) (.cells #[.int .i64 (blk:Nat)] 3) none) ⟨hgrow2'.os,hgrow2'.tape,hgrow2'.output,hgrow2'.size,hgrow2'.block⟩;have hat2:(Value.slice ba bs.length bc).ownBlock=some g2\/g2=w1.heap.size+1:=(hat2'.imp id (fun e=>e.trans (by show((w1.setCell ⟨sb,1,none⟩ (.slice (some ⟨g1,0,none⟩) (ns.length+1) Bw)).alloc _).heap.size=_;rw[World.size_alloc,Ad])));have hsb2:=(hgrow2.block sb (by rw[Ad];exact ly) (fun e=>(HLo3.o sb e.symm).2 rfl)).trans (heap_set (j:=1) HSb1.o _);simp only[List.setIfInBounds_toArray,List.set_cons_zero,List.set_cons_succ]at hsb2;obtain⟨z0,z1,z2,z3,z4,z5,z6,z7,fz2,lz⟩:=Gn hsb2;have HSb2:=A0 hsb2;clear hsb2 hgrow2' hat2')
 all_goals go_wp2
 all_goals go_end0
 all_goals
  have Bm:=HGrow1.o.size;have hG1:=HG1.o;have hG2:¬D g2/\g2≠sb/\g1≠g2:=by
   rcases hat2 with e|e
   ·exact⟨(HLo3.o g2 e).1,(HLo3.o g2 e).2,fun e2=>hG1.2.2 (by rw[e,e2])⟩
   ·exact⟨fun hd=>by have:=hlo _ hd;omega,by omega,by omega⟩
  have hW1:(w1.setCell ⟨sb,1,none⟩ (.slice (some ⟨g1,0,none⟩) (ns.length+1) Bw)).ownsRow 0 9 1 (.slice (some ⟨g1,0,none⟩) (ns.length+1) Bw) (ns.length+1) (ns.map Lr++[.string ⟨s.toArray⟩]):=Bb HOwn1.o (fun k hk _=>Below.heap_setCell _ _ _ _ (by simp only[Value.ownBlock,Option.some.injEq]at hk;rw[←hk];exact hG1.2.1));refine⟨rfl,⟨some ⟨g1,0,none⟩,ns.length+1,Bw,some ⟨g2,0,none⟩,bs.length+1,cap2,bs++[blk],?_⟩,?_⟩
  ·refine⟨?_,?_,?_,?_,?_,?_,HLo1.o,?_,?_,HH.o.few,?_⟩
   ·have:=heap_set (j:=2) HSb2.o (.slice (some ⟨g2,0,none⟩) (bs.length+1) cap2);simpa using this
   ·rw[←List.append_assoc,HNS.o];simp only[List.length_append,List.length_singleton,List.map_append,List.map_cons,List.map_nil];exact Bb (Bb hW1 (fun k hk hl=>hgrow2.block k hl (fun e=>by simp only[Value.ownBlock,Option.some.injEq]at hk;rw[←hk]at e;exact hG1.2.2 e.symm))) (fun k hk _=>Below.heap_setCell _ _ _ _ (by simp only[Value.ownBlock,Option.some.injEq]at hk;rw[←hk];exact hG1.2.1))
   ·simp only[List.length_append,List.length_singleton,List.map_append,List.map_cons,List.map_nil];exact Bb Iv (fun k hk _=>Below.heap_setCell _ _ _ _ (by simp only[Value.ownBlock,Option.some.injEq]at hk;rw[←hk];exact hG2.2.1))
   ·rw[←List.append_assoc,HNS.o];simp[C8.o]
   ·intro i hi ho;have hob:outer.length<=bs.length:=by have:=HH.o.len;rw[this];simp
    rw[List.getElem_append_left (by omega)];exact HH.o.out i (by omega) ho
   ·intro i hi ho;by_cases hib:i<bs.length
    ·rw[List.getElem_append_left hib];exact HH.o.inn' i hib ho
    ·rw[List.getElem_append_right (by omega)];simp
   ·intro k hk;simp only[Value.ownBlock,Option.some.injEq]at hk;subst hk;exact⟨hG1.1,hG1.2.1,by simp only[Value.ownBlock,ne_eq,Option.some.injEq];exact fun e=>hG2.2.2 e.symm⟩
   ·intro k hk;simp only[Value.ownBlock,Option.some.injEq]at hk;subst hk;exact⟨hG2.1,hG2.2.1⟩
   ·refine⟨?_,HH.o.bsE.2⟩;rw[HH.o.bsE.1,List.length_append,List.length_singleton,List.replicate_succ',List.append_assoc]
  ·exact A4.set (p:=⟨sb,2,none⟩) (A4.grown (A4.set (p:=⟨sb,1,none⟩) (A4.grown (A4.refl _ _) HGrow1.o hlo (fun k e=>(HLo2.o k e).1)) HLo1.o _) hgrow2 hlo (fun k e=>(HLo3.o k e).1)) HLo1.o _
structure Rf (D : Nat -> Prop) (pb tp : Nat) (w : World) (fns : List (Nm × Nat)) (la : Option Addr) (ln lc : Nat) (fa : Option Addr) (fn fc : Nat) : Prop where
 cell:w.heap[pb]?=some (.cells #[.slice la ln lc,.slice fa fn fc] tp (0,0))
 lt:D pb
 len:fn=fns.length
 few:fns.length<=100000
 at':∀i (h:i<fns.length),∃g,fa=some ⟨g,0,none⟩/\D g/\g<w.heap.size/\fn<=fc/\w.cell? ⟨g,i*6+2,none⟩=some (.string ⟨fns[i].1.toArray⟩)/\∃pa pc,w.cell? ⟨g,i*6+5,none⟩=some (.slice pa fns[i].2 pc)
theorem Rf.keep{D:Nat->Prop}{pb tp:Nat}{w w':World}{fns:List (Nm×Nat)}{la:Option Addr}{ln lc:Nat}{fa:Option Addr}{fn fc:Nat}(h:Rf D pb tp w fns la ln lc fa fn fc)(hb:A4 D w w'):Rf D pb tp w' fns la ln lc fa fn fc:=by
 refine⟨(hb.block pb h.lt).trans h.cell,h.lt,h.len,h.few,fun i hi=>?_⟩;obtain⟨g,e1,e2,e3,e4,e5,pa,pc,e6⟩:=h.at' i hi;exact⟨g,e1,e2,Nat.lt_of_lt_of_le e3 hb.size,e4,(World.cell?_of_block (hb.block g e2)).trans e5,pa,pc,(World.cell?_of_block (hb.block g e2)).trans e6⟩
def Uj(fns:List (Nm×Nat))(s:Nm)(q:Int):Prop:=(∃i,∃h:i<fns.length,q=i/\fns[i].1=s/\∀j,j<i->∀h':j<fns.length,fns[j].1≠s)\/(q=-1/\∀j,∀h:j<fns.length,fns[j].1≠s)
theorem Yr:∀(fns:List (Nm×Nat)) (s:Nm) (i:Nat) (h:i<fns.length),fns[i].1=s->(∀j,j<i->∀h':j<fns.length,fns[j].1≠s)->Ph fns s=some fns[i].2:=by
 intro fns;induction fns with
 | nil=>intro s i h;simp at h
 | cons f r ih=>
  intro s i h e hno;cases i with
  | zero=>rw[Ph,if_pos (by simpa using e)];rfl
  | succ i=>
   have h0:f.1≠s:=by have:=hno 0 (by omega) (by simp);simpa using this
   rw[Ph,if_neg h0,ih s i (by simpa using h) (by simpa using e) (fun j hj h'=>by have:=hno (j+1) (by omega) (by simpa using h');simpa using this)];rfl
theorem Ys:∀(fns:List (Nm×Nat)) (s:Nm),(∀j,∀h:j<fns.length,fns[j].1≠s)->Ph fns s=none:=by
 intro fns;induction fns with
 | nil=>intro s _;rfl
 | cons f r ih=>
  intro s hno;have h0:f.1≠s:=by have:=hno 0 (by simp);simpa using this
  rw[Ph,if_neg h0];exact ih s (fun j h=>by have:=hno (j+1) (by simpa using h);simpa using this)
theorem Yx{D:Nat->Prop}{pb tp:Nat}{w:World}{fns:List (Nm×Nat)}{la:Option Addr}{ln lc:Nat}{fa:Option Addr}{fn fc:Nat}(h:Rf D pb tp w fns la ln lc fa fn fc)(s:Nm) :
  Calls Tryz.prog 65 #[.pointer (some ⟨pb,0,none⟩),.string ⟨s.toArray⟩] w fun e w'=>∃q,e=.returned (.int .i64 q)/\Uj fns s q/\w'=w:=by
 have hfn:=h.len;subst hfn;have hfew:=h.few;have c0:=Ac h.cell 0 _ rfl;have c1:=Ac h.cell 1 _ rfl;have lp:=A5 h.cell;have HH:=A0 h;clear h;go_enter Tryz.func65,Tryz.ntmps65;go_wp2;go_loopg [5] fns.length (fun k v wr=>∃n:Nat,v=.int .i64 n/\n+k=fns.length/\(∀j,j<n->∀h':j<fns.length,fns[j].1≠s)/\wr=w)
 case atStart=>
  exact⟨0,rfl,by omega,fun i hi=>by omega,rfl⟩
 case round=>
  obtain⟨n,rfl,hnk,hno,rfl⟩:=hrel;have HNo:=A0 hno;clear hno;by_cases hlt:n<fns.length
  ·obtain⟨g,rfl,_,lg,hcap,cg,pa,pc,cg2⟩:=HH.o.at' n hlt;have HI:Hid (fns[n].1=s->Uj fns s n):=fun e=>.inl ⟨n,hlt,rfl,e,HNo.o⟩;have HS:Hid (fns[n].1≠s->∀j,j<n+1->∀h':j<fns.length,fns[j].1≠s):=by
    intro hn j hj h' e;by_cases hjn:j=n
    ·subst hjn;exact hn e
    ·exact HNo.o j (by omega) h' e
   generalize fns[n]=x at *;cases hq:(x.1==s)
   ·have HQ:Hid (x.1≠s):=by rw[beq_eq_false_iff_ne]at hq;exact hq
    go_wp2;go_roundg (gk-1)
    case measure=>omega
    case rel=>exact⟨n+1,rfl,by omega,HS.o HQ.o,rfl⟩
   ·have HQ:Hid (x.1=s):=A0 (by simpa using hq);go_wp2;go_ret;exact⟨_,rfl,HI.o HQ.o,rfl⟩
  ·have HT:Hid (Uj fns s (-1)):=.inr ⟨rfl,fun j h=>HNo.o j (by omega) h⟩;go_wp2;go_ret;exact⟨_,rfl,HT.o,rfl⟩
end
section
open Go.RowKit
open Go.Deep (BT)
variable {D:Nat->Prop}{sb pb te:Nat}{w w':World}{outer cur:List Nm}{ob:List Nat}{blk wh:Nat}{inn:Bool}{f:B3}
theorem Zq{w:World}{base:Nat}{e:TypeId}{size:Nat}{va:Option Addr}{vn vc n m:Nat}{xs:List Value}(h:w.ownsRow base e size (.slice va vn vc) n xs)(hm:m<=n):w.ownsRow base e size (.slice va m vc) m (xs.take (m*size)):=by
 obtain⟨hl,⟨h2,h3⟩|⟨g,cap,cur,hv,hb,hg,hcap,hmx,hsz,ht⟩⟩:=h
 ·injection h2 with e1 e2 e3;subst e1 e2 e3 h3;obtain rfl:m=0:=by omega
  exact⟨by simp,.inl ⟨rfl,rfl⟩⟩
 ·injection hv with e1 e2 e3;subst e1 e2 e3;have hle:m*size<=vn*size:=Nat.mul_le_mul_right _ hm;refine⟨by rw[List.length_take,hl];omega,.inr ⟨g,vc,cur,rfl,hb,hg,by omega,hmx,hsz,?_⟩⟩;rw[←ht,List.take_take,Nat.min_eq_left hle]
theorem P2(a:Option Addr)(n m c:Nat):(Value.slice a n c).ownBlock=(Value.slice a m c).ownBlock:=by cases a <;> rfl
theorem L9.keep(h:L9 D sb pb te w outer ob cur blk wh inn f)(hk:∀g,g<w.heap.size->w'.heap[g]?=w.heap[g]?):L9 D sb pb te w' outer ob cur blk wh inn f:=by
 obtain⟨na,nn,nc,ba,bn,bc,bs,h⟩:=h;exact⟨na,nn,nc,ba,bn,bc,bs,h.keep hk⟩
theorem Kk.opened{na:Option Addr}{nn nc:Nat}{ba:Option Addr}{bn bc:Nat}{bs:List Nat}(h:Kk D sb pb te w outer ob cur blk wh inn f na nn nc ba bn bc bs)(hb:blk+1<=100000)
  (hc:w'.heap[sb]?=some (.cells #[.pointer (some ⟨pb,0,none⟩),.slice na nn nc,.slice ba bn bc,.int .i64 ((blk+1:Nat):Nat),.int .i64 (wh:Nat),.bool inn,.int .i64 (f.1:Nat),.int .i64 (f.2:Nat)] te (0,0)))
  (hk:∀g,g<w.heap.size->g≠sb->w'.heap[g]?=w.heap[g]?):Kk D sb pb te w' (outer++cur) bs [] (blk+1) wh inn f na nn nc ba bn bc bs:=by
 refine⟨hc,?_,Bb h.blocks (fun g hg hl=>hk g hl (h.Ed g hg).2),?_,?_,?_,h.Di,h.C5,h.Ed,⟨hb,h.few.2⟩,?_⟩
 ·rw[List.append_nil];exact Bb h.names (fun g hg hl=>hk g hl (h.C5 g hg).2.1)
 ·rw[List.append_nil];exact h.len
 ·intro i hi _;by_cases ho:i<outer.length
  ·have:=h.out i hi ho;omega
  ·have:=h.inn' i hi (by omega);omega
 ·intro i hi ho;have:=h.len;omega
 ·refine⟨by simp,h.len⟩
theorem Kk.closed{D:Nat->Prop}{sb pb te:Nat}{w w':World}{outer cur cur':List Nm}{ob:List Nat}{blk wh:Nat}{inn:Bool}{f:B3}{na:Option Addr}{nn nc:Nat}{ba:Option Addr}{bn bc:Nat}{bs':List Nat}
  (hl:ob.length=outer.length) (ho:∀x∈ob,x<blk) (h:Kk D sb pb te w (outer++cur) (ob++List.replicate cur.length blk) cur' (blk+1) wh inn f na nn nc ba bn bc bs')
  (hc:w'.heap[sb]?=some (.cells #[.pointer (some ⟨pb,0,none⟩),.slice na (outer++cur).length nc,.slice ba (outer++cur).length bc,.int .i64 (blk:Nat),.int .i64 (wh:Nat),.bool inn,.int .i64 (f.1:Nat),.int .i64 (f.2:Nat)] te (0,0)))
  (hk:∀g,g<w.heap.size->g≠sb->w'.heap[g]?=w.heap[g]?):Kk D sb pb te w' outer ob cur blk wh inn f na (outer++cur).length nc ba (outer++cur).length bc (ob++List.replicate cur.length blk):=by
 have hn:(outer++cur).length<=((outer++cur)++cur').length:=by simp
 have hbs:=h.bsE.1;have hle:(ob++List.replicate cur.length blk).length=(outer++cur).length:=by simp[hl]
 refine⟨hc,?_,?_,hle,?_,?_,h.Di,?_,?_,⟨by have:=h.few.1;omega,h.few.2⟩,rfl,hl⟩
 ·have:=Zq (Bb h.names (fun g hg hl=>hk g hl (h.C5 g hg).2.1)) hn;rw[Nat.mul_one,←List.map_take,List.take_left]at this;exact this
 ·have h2:=Zq (m:=(outer++cur).length) (Bb h.blocks (fun g hg hl=>hk g hl (h.Ed g hg).2)) (by rw[h.len];exact hn);rw[Nat.mul_one,←List.map_take,hbs,List.take_append_of_le_length (by omega),List.take_of_length_le (by omega)]at h2;rw[hle];exact h2
 ·intro i hi hi2;rw[List.getElem_append_left (by omega)];exact ho _ (List.getElem_mem _)
 ·intro i hi hi2;rw[List.getElem_append_right (by omega)];simp
 ·intro g hg;have h2:=h.C5 g ((P2 _ _ _ _).trans hg);exact⟨h2.1,h2.2.1,fun e=>h2.2.2 ((P2 _ _ _ _).trans e)⟩
 ·intro g hg;exact h.Ed g ((P2 _ _ _ _).trans hg)
theorem Kk.obs{D:Nat->Prop}{sb pb te:Nat}{w:World}{outer cur:List Nm}{ob:List Nat}{blk wh:Nat}{inn:Bool}{f:B3}{na:Option Addr}{nn nc:Nat}{ba:Option Addr}{bn bc:Nat}{bs:List Nat}(h:Kk D sb pb te w outer ob cur blk wh inn f na nn nc ba bn bc bs):∀x∈ob,x<blk:=by
 intro x hx;obtain⟨i,hi,e⟩:=List.getElem_of_mem hx;have hb:=h.bsE;have hl:i<bs.length:=by rw[hb.1];simp;omega
 have:=h.out i hl (by omega);have e2:bs[i]=ob[i]:=by
  have:bs[i]?=ob[i]?:=by rw[hb.1,List.getElem?_append_left hi]
  rw[List.getElem?_eq_getElem hl,List.getElem?_eq_getElem hi]at this;exact Option.some.inj this
 omega
end
end Go.Proofs.YtjdlndhfaaolaaaGreatDoor
