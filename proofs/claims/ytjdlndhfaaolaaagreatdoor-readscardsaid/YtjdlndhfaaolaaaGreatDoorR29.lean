import Derived.BigQuiet
import Derived.Deep.DrawnRows
import Derived.Deep.LoopGhost
import Derived.Deep.RegionHeld3
import Derived.Test.YtjdlndhfaaolaaaGreatDoorR09
set_option maxHeartbeats 20000000
namespace Go.Proofs.YtjdlndhfaaolaaaGreatDoor
section
open Go.RowKit
open Go.Deep (BT)
variable {D:Nat->Prop}{sb pb te:Nat}{w w':World}{outer cur:List Nm}{ob:List Nat}{blk wh:Nat}{inn:Bool}{f:B3}{na:Option Addr}{nn nc:Nat}{ba:Option Addr}{bn bc:Nat}{bs:List Nat}
def Lr(s:Nm):Value:=.string ⟨s.toArray⟩
def N1(n:Nat):Value:=.int .i64 (n:Nat)
structure A4 (D : Nat -> Prop) (w w' : World) : Prop where
 os:w'.os=w.os
 tape:w'.tape=w.tape
 output:w'.output=w.output
 size:w.heap.size<=w'.heap.size
 block:∀k,D k->w'.heap[k]?=w.heap[k]?
theorem A4.refl(D:Nat->Prop)(w:World):A4 D w w:=⟨rfl,rfl,rfl,Nat.le_refl _,fun _ _=>rfl⟩
theorem A4.trans{D:Nat->Prop}{w w1 w2:World}(h:A4 D w w1)(h2:A4 D w1 w2):A4 D w w2:=⟨h2.os.trans h.os,h2.tape.trans h.tape,h2.output.trans h.output,Nat.le_trans h.size h2.size,fun k hk=>(h2.block k hk).trans (h.block k hk)⟩
theorem A4.set{D:Nat->Prop}{x w:World}(h:A4 D x w){p:Addr}(hp:¬D p.block)(u:Value):A4 D x (w.setCell p u):=⟨h.os,h.tape,h.output,by simp[World.setCell];exact h.size,fun k hk=>(Below.heap_setCell _ _ _ _ (fun e=>hp (by rw[←e];exact hk))).trans (h.block k hk)⟩
theorem A4.alloc{D:Nat->Prop}{x w:World}(h:A4 D x w)(hn:∀g,D g->g<x.heap.size)(o:Obj):A4 D x (w.alloc o):=⟨h.os,h.tape,h.output,by simp;have:=h.size;omega,fun k hk=>(Below.heap_alloc _ _ _ (Nat.lt_of_lt_of_le (hn k hk) h.size)).trans (h.block k hk)⟩
theorem A4.grown{D:Nat->Prop}{x w w':World}{row:Option Nat}(h:A4 D x w)(hg:w.grownBy w' row)(hn:∀g,D g->g<x.heap.size)(hr:∀k,row=some k->¬D k):A4 D x w':=
 ⟨hg.os.trans h.os,hg.tape.trans h.tape,hg.output.trans h.output,Nat.le_trans h.size hg.size,fun k hk=>(hg.block k (Nat.lt_of_lt_of_le (hn k hk) h.size) (fun e=>hr k e.symm hk)).trans (h.block k hk)⟩
theorem Ok{D:Nat->Prop}{w w':World}(h:Below w.heap.size w w')(hn:∀g,D g->g<w.heap.size):A4 D w w':=⟨h.os,h.tape,h.output,h.size,fun k hk=>h.block k (hn k hk)⟩
theorem A4.weak{D E:Nat->Prop}{w w':World}(h:A4 D w w')(he:∀g,E g->D g):A4 E w w':=⟨h.os,h.tape,h.output,h.size,fun k hk=>h.block k (he k hk)⟩
structure Kk (D : Nat -> Prop) (sb pb te : Nat) (w : World) (outer : List Nm) (ob : List Nat) (cur : List Nm) (blk wh : Nat) (inn : Bool) (f : B3) (na : Option Addr) (nn nc : Nat) (ba : Option Addr) (bn bc : Nat) (bs : List Nat) : Prop where
 cell:w.heap[sb]?=some (.cells #[.pointer (some ⟨pb,0,none⟩),.slice na nn nc,.slice ba bn bc,.int .i64 (blk:Nat),.int .i64 (wh:Nat),.bool inn,.int .i64 (f.1:Nat),.int .i64 (f.2:Nat)] te (0,0))
 names:w.ownsRow 0 9 1 (.slice na nn nc) (outer++cur).length ((outer++cur).map Lr)
 blocks:w.ownsRow 0 3 1 (.slice ba bn bc) bs.length (bs.map N1)
 len:bs.length=(outer++cur).length
 out:∀i (h:i<bs.length),i<outer.length->bs[i]<blk
 inn':∀i (h:i<bs.length),outer.length<=i->bs[i]=blk
 Di:¬D sb
 C5:∀g,(Value.slice na nn nc).ownBlock=some g->¬D g/\g≠sb/\(Value.slice ba bn bc).ownBlock≠some g
 Ed:∀g,(Value.slice ba bn bc).ownBlock=some g->¬D g/\g≠sb
 few:blk<=100000/\wh<=100000
 bsE:bs=ob++List.replicate cur.length blk/\ob.length=outer.length
def L9(D:Nat->Prop)(sb pb te:Nat)(w:World)(outer:List Nm)(ob:List Nat)(cur:List Nm)(blk wh:Nat)(inn:Bool)(f:B3):Prop:=
 ∃na nn nc ba bn bc bs,Kk D sb pb te w outer ob cur blk wh inn f na nn nc ba bn bc bs
theorem Gn{w:World}{g:Nat}{a0 a1 a2 a3 a4 a5 a6 a7:Value}{t:TypeId}(h:w.heap[g]?=some (.cells #[a0,a1,a2,a3,a4,a5,a6,a7] t (0,0))) :
  w.cell? ⟨g,0,none⟩=some a0/\w.cell? ⟨g,1,none⟩=some a1/\w.cell? ⟨g,2,none⟩=some a2/\w.cell? ⟨g,3,none⟩=some a3/\w.cell? ⟨g,4,none⟩=some a4/\w.cell? ⟨g,5,none⟩=some a5/\w.cell? ⟨g,6,none⟩=some a6/\w.cell? ⟨g,7,none⟩=some a7/\(∀o,w.frozen? ⟨g,o,none⟩=false)/\g<w.heap.size:=
 ⟨Ac h 0 _ rfl,Ac h 1 _ rfl,Ac h 2 _ rfl,Ac h 3 _ rfl,Ac h 4 _ rfl,Ac h 5 _ rfl,Ac h 6 _ rfl,Ac h 7 _ rfl,Ce h,A5 h⟩
theorem Kk.keep(h:Kk D sb pb te w outer ob cur blk wh inn f na nn nc ba bn bc bs)
  (hk:∀g,g<w.heap.size->w'.heap[g]?=w.heap[g]?):Kk D sb pb te w' outer ob cur blk wh inn f na nn nc ba bn bc bs:=
 ⟨(hk sb (A5 h.cell)).trans h.cell,Bb h.names (fun g _ hl=>hk g hl),Bb h.blocks (fun g _ hl=>hk g hl),h.len,h.out,h.inn',h.Di,h.C5,h.Ed,h.few,h.bsE⟩
theorem Kk.put(h:Kk D sb pb te w outer ob cur blk wh inn f na nn nc ba bn bc bs)(wh':Nat)(inn':Bool)(f':B3)(hwh:wh'<=100000)
  (hc:w'.heap[sb]?=some (.cells #[.pointer (some ⟨pb,0,none⟩),.slice na nn nc,.slice ba bn bc,.int .i64 (blk:Nat),.int .i64 (wh':Nat),.bool inn',.int .i64 (f'.1:Nat),.int .i64 (f'.2:Nat)] te (0,0)))
  (hk:∀g,g<w.heap.size->g≠sb->w'.heap[g]?=w.heap[g]?):Kk D sb pb te w' outer ob cur blk wh' inn' f' na nn nc ba bn bc bs:=
 ⟨hc,Bb h.names (fun g hg hl=>hk g hl (h.C5 g hg).2.1),Bb h.blocks (fun g hg hl=>hk g hl (h.Ed g hg).2),h.len,h.out,h.inn',h.Di,h.C5,h.Ed,⟨h.few.1,hwh⟩,h.bsE⟩
theorem Nd{w:World}{base:Nat}{e:TypeId}{va:Option Addr}{vn vc n:Nat}{xs:List Value}(h:w.ownsRow base e 1 (.slice va vn vc) n xs)(i:Nat)(hi:i<n) :
  ∃g,va=some ⟨g,0,none⟩/\vn=n/\n<=vc/\g<w.heap.size/\(∀o,w.frozen? ⟨g,o,none⟩=false)/\∃hh:i<xs.length,w.cell? ⟨g,i,none⟩=some (xs[i]'hh):=by
 obtain⟨hl,⟨h2,h3⟩|⟨g,cap,cur,hv,_,hg,hcap,_,_,ht⟩⟩:=h
 ·omega
 ·injection hv with e1 e2 e3;subst e1 e2 e3;refine⟨g,rfl,rfl,hcap,A5 hg,Ce hg,by omega,?_⟩;have hi':i<xs.length:=by omega
  have hx:xs[i]?=some xs[i]:=List.getElem?_eq_getElem hi';have h2:xs[i]?=cur[i]?:=by
   rw[show xs[i]?=(List.take (vn*1) cur.toList)[i]? by rw[ht],List.getElem?_take,if_pos (by omega),Array.getElem?_toList]
  rw[cell_of_row w g i cur _ _ hg,←h2];exact hx
theorem A5y{outer cur:List Nm}{bs:List Nat}{blk:Nat}(hl:bs.length=(outer++cur).length)(ho:∀i (h:i<bs.length),i<outer.length->bs[i]<blk)(hc:∀i (h:i<bs.length),outer.length<=i->bs[i]=blk)(s:Nm) :
  s∈cur↔∃i,∃h:i<bs.length,∃h':i<(outer++cur).length,(outer++cur)[i]=s/\bs[i]=blk:=by
 constructor
 ·intro h;obtain⟨j,hj,e⟩:=List.getElem_of_mem h;have h1:outer.length+j<(outer++cur).length:=by simp;omega
  refine⟨outer.length+j,by omega,h1,?_,hc _ _ (by omega)⟩;rw[List.getElem_append_right (by omega)];simpa using e
 ·rintro⟨i,h,h',e1,e2⟩;by_cases hi:i<outer.length
  ·have:=ho i h hi;omega
  ·rw[List.getElem_append_right (by omega)]at e1;rw[←e1];exact List.getElem_mem _
end
section
set_option maxRecDepth 100000
open Go.RowKit
open Go.Deep (BT)
theorem Nz{D:Nat->Prop}{sb pb te:Nat}{w:World}{outer cur:List Nm}{ob:List Nat}{blk wh:Nat}{inn:Bool}{f:B3}(h:L9 D sb pb te w outer ob cur blk wh inn f)(is:Bool)(code line:Nat)(q1 q2:Int)(h1:q1=code)(h2:q2=line) :
  Calls Tryz.prog 66 #[.pointer (some ⟨sb,0,none⟩),.bool is,.int .i64 q1,.int .i64 q2] w fun e w'=>e=.returned (.tuple #[])/\L9 D sb pb te w' outer ob cur blk wh inn (Bu is code line f)/\A4 D w w':=by
 subst h1 h2;obtain⟨na,nn,nc,ba,bn,bc,bs,h⟩:=h;obtain⟨c0,c1,c2,c3,c4,c5,c6,c7,fz,ls⟩:=Gn h.cell;have HH:=A0 h;cases is
 ·have HE:Hid (Bu false code line f=f):=rfl;clear h;go_enter Tryz.func66,Tryz.ntmps66;go_wp2;go_end0;exact⟨rfl,by rw[HE.o];exact⟨na,nn,nc,ba,bn,bc,bs,HH.o⟩,A4.refl _ _⟩
 ·by_cases h0:f.1=0
  ·have HE:Hid (Bu true code line f=(code,line)):=by
    show _=_;unfold Bu;rw[h0];rfl
   rw[h0]at c6;clear h h0;go_enter Tryz.func66,Tryz.ntmps66;go_wp2;go_end0;rw[HE.o];refine⟨rfl,⟨na,nn,nc,ba,bn,bc,bs,HH.o.put wh inn (code,line) HH.o.few.2 ?_ ?_⟩,?_⟩
   ·have:=heap_set (j:=7) (heap_set (j:=6) HH.o.cell (.int .i64 (code:Nat))) (.int .i64 (line:Nat));simpa using this
   ·intro g hg hne;rw[Below.heap_setCell _ _ _ _ (by exact hne),Below.heap_setCell _ _ _ _ (by exact hne)]
   ·exact A4.set (p:=⟨sb,7,none⟩) (A4.set (p:=⟨sb,6,none⟩) (A4.refl _ _) HH.o.Di _) HH.o.Di _
  ·have HE:Hid (Bu true code line f=f):=by
    show _=_;exact A0f _ _ _ _ h0
   have t1:(((f.1:Nat):Int)==0)=false:=by rw[beq_eq_false_iff_ne];omega
   clear h h0;go_enter Tryz.func66,Tryz.ntmps66;go_wp2;go_end0;exact⟨rfl,by rw[HE.o];exact⟨na,nn,nc,ba,bn,bc,bs,HH.o⟩,A4.refl _ _⟩
end
section
set_option maxRecDepth 100000
open Go.RowKit
open Go.Deep (BT)
variable {D:Nat->Prop}{sb pb te:Nat}{w:World}{outer cur:List Nm}{ob:List Nat}{blk wh:Nat}{inn:Bool}{f:B3}
theorem below_drewN{n:Nat}{x w:World}(h:Below n x w)(q:Nat):Below n x (w.drewN q):=⟨h.os,h.tape,h.output,h.size,h.block⟩
theorem Z3(h:L9 D sb pb te w outer ob cur blk wh inn f)(hlen:(outer++cur).length<=1000000)(s:Nm) :
  Calls Tryz.prog 114 #[.pointer (some ⟨sb,0,none⟩),.string ⟨s.toArray⟩] w fun e w'=>e=.returned (.bool (decide (s∈cur)))/\L9 D sb pb te w' outer ob cur blk wh inn f/\Below w.heap.size w w':=by
 obtain⟨na,nn,nc,ba,bn,bc,bs,h⟩:=h;have HH:=A0 h;have hnn:nn=(outer++cur).length:=(C9 h.names).1;have hbn:bn=bs.length:=(C9 h.blocks).1;have J5:=h.len;have HI:=A0 (A5y h.len h.out h.inn' s);have hblk:=h.few.1;have HBs:Hid (∀i (hi:i<bs.length),bs[i]<=100000):=by
  intro i hi;by_cases ho:i<outer.length
  ·have:=h.out i hi ho;omega
  ·have:=h.inn' i hi (by omega);omega
 have HNames:Hid (∀wr:World,Kk D sb pb te wr outer ob cur blk wh inn f na nn nc ba bn bc bs->wr.ownsRow 0 9 1 (.slice na nn nc) (outer++cur).length ((outer++cur).map Lr)):=fun wr hh=>hh.names;clear h;generalize hns:outer++cur=ns at HI HNames hnn hlen J5;have HNS:=A0 hns;clear hns;subst hnn hbn;go_enter Tryz.func114,Tryz.ntmps114;go_wp2;go_loopg [5] ns.length (fun k v wr=>∃n:Nat,v=.int .i64 n/\n+k=ns.length/\(∀i,i<n->∀(h:i<bs.length) (h':i<ns.length),¬(ns[i]=s/\bs[i]=blk))/\Kk D sb pb te wr outer ob cur blk wh inn f na ns.length nc ba bs.length bc bs/\Below w.heap.size w wr)
 case atStart=>
  exact⟨0,rfl,by omega,fun i hi=>by omega,HH.o,Below.refl _ _⟩
 case round=>
  clear HH;obtain⟨n,rfl,hnk,hno,hh,hbel⟩:=hrel;have HH:=A0 hh;have HNo:=A0 hno;have HBel:=A0 hbel;obtain⟨c0,c1,c2,c3,c4,c5,c6,c7,fz,ls⟩:=Gn hh.cell;clear hno hh hbel;by_cases hlt:n<ns.length
  ·have A9:n<bs.length:=by omega
   obtain⟨g,rfl,_,hcap,lg,fg,hx,cg⟩:=Nd (HNames.o _ HH.o) n hlt;obtain⟨g2,rfl,_,hcap2,lg2,fg2,G9,cg2⟩:=Nd HH.o.blocks n A9;simp only[List.getElem_map,Lr]at cg;simp only[List.getElem_map,N1]at cg2;have hbn:=HBs.o n A9;have HI1:=A0 (fun e1 e2=>HI.o.2 ⟨n,A9,hlt,e1,e2⟩);have HS:Hid (¬(ns[n]=s/\bs[n]=blk)->∀i,i<n+1->∀(h:i<bs.length) (h':i<ns.length),¬(ns[i]=s/\bs[i]=blk)):=by
    intro hn i hi h h' e;by_cases hin:i=n
    ·subst hin;exact hn e
    ·exact HNo.o i (by omega) h h' e
   generalize ns[n]=x at *;generalize bs[n]=y at *;cases hq:(x==s)
   ·have HQ:Hid (¬(x=s/\y=blk)):=fun e=>by rw[beq_eq_false_iff_ne]at hq;exact hq e.1
    go_wp2;go_quiet (fail)
    go_wp2;go_roundg (gk-1)
    case measure=>omega
    case rel=>exact⟨n+1,rfl,by omega,HS.o HQ.o,HH.o.keep (fun _ _=>rfl),below_drewN HBel.o _⟩
   ·have HQ:Hid (x=s):=A0 (by simpa using hq);by_cases hy:y=blk
    ·have HT:=A0 (HI1.o HQ.o hy);have t2:(((y:Nat):Int)==((blk:Nat):Int))=true:=by rw[hy];simp
     clear hy;go_wp2;go_quiet (fail)
     go_wp2;go_ret;refine⟨?_,⟨_,_,_,_,_,_,_,HH.o.keep (fun _ _=>rfl)⟩,below_drewN HBel.o _⟩;rw[decide_eq_true HT.o];rfl
    ·have HQ2:Hid (¬(x=s/\y=blk)):=fun e=>hy e.2;have t2:(((y:Nat):Int)==((blk:Nat):Int))=false:=by rw[beq_eq_false_iff_ne];omega
     clear hy;go_wp2;go_quiet (fail)
     go_wp2;go_roundg (gk-1)
     case measure=>omega
     case rel=>exact⟨n+1,rfl,by omega,HS.o HQ2.o,HH.o.keep (fun _ _=>rfl),below_drewN HBel.o _⟩
  ·have HT:Hid (¬s∈cur):=by
    intro hm;obtain⟨i,h,h',e⟩:=HI.o.1 hm;exact HNo.o i (by omega) h h' e
   go_wp2;go_ret;refine⟨?_,⟨_,_,_,_,_,_,_,HH.o⟩,HBel.o⟩;rw[decide_eq_false HT.o];rfl
theorem o4(h:L9 D sb pb te w outer ob cur blk wh inn f)(hlen:(outer++cur).length<=1000000)(s:Nm) :
  Calls Tryz.prog 115 #[.pointer (some ⟨sb,0,none⟩),.string ⟨s.toArray⟩] w fun e w'=>e=.returned (.bool (decide (s∈outer++cur)))/\L9 D sb pb te w' outer ob cur blk wh inn f/\Below w.heap.size w w':=by
 obtain⟨na,nn,nc,ba,bn,bc,bs,h⟩:=h;have HH:=A0 h;have hnn:nn=(outer++cur).length:=(C9 h.names).1;have HNames:Hid (∀wr:World,Kk D sb pb te wr outer ob cur blk wh inn f na nn nc ba bn bc bs->wr.ownsRow 0 9 1 (.slice na nn nc) (outer++cur).length ((outer++cur).map Lr)):=fun wr hh=>hh.names;clear h;generalize hns:outer++cur=ns at HNames hnn hlen ⊢;have HNS:=A0 hns;clear hns;subst hnn;go_enter Tryz.func115,Tryz.ntmps115;go_wp2;go_loopg [5] ns.length (fun k v wr=>∃n:Nat,v=.int .i64 n/\n+k=ns.length/\(∀i,i<n->∀(h':i<ns.length),¬(ns[i]=s))/\Kk D sb pb te wr outer ob cur blk wh inn f na ns.length nc ba bn bc bs/\Below w.heap.size w wr)
 case atStart=>
  exact⟨0,rfl,by omega,fun i hi=>by omega,HH.o,Below.refl _ _⟩
 case round=>
  clear HH;obtain⟨n,rfl,hnk,hno,hh,hbel⟩:=hrel;have HH:=A0 hh;have HNo:=A0 hno;have HBel:=A0 hbel;obtain⟨c0,c1,c2,c3,c4,c5,c6,c7,fz,ls⟩:=Gn hh.cell;clear hno hh hbel;by_cases hlt:n<ns.length
  ·obtain⟨g,rfl,_,hcap,lg,fg,hx,cg⟩:=Nd (HNames.o _ HH.o) n hlt;simp only[List.getElem_map,Lr]at cg;have HM:Hid (ns[n]∈ns):=List.getElem_mem _;have HS:Hid (¬ns[n]=s->∀i,i<n+1->∀(h':i<ns.length),¬(ns[i]=s)):=by
    intro hn i hi h' e;by_cases hin:i=n
    ·subst hin;exact hn e
    ·exact HNo.o i (by omega) h' e
   generalize ns[n]=x at *;cases hq:(x==s)
   ·have HQ:Hid (¬x=s):=by rw[beq_eq_false_iff_ne]at hq;exact hq
    go_wp2;go_roundg (gk-1)
    case measure=>omega
    case rel=>exact⟨n+1,rfl,by omega,HS.o HQ.o,HH.o,HBel.o⟩
   ·have HT:Hid (s∈ns):=by
     have:x=s:=by simpa using hq
     rw[this]at HM;exact HM
    go_wp2;go_ret;refine⟨?_,⟨_,_,_,_,_,_,_,HH.o⟩,HBel.o⟩;rw[decide_eq_true HT.o];rfl
  ·have HT:Hid (¬s∈ns):=by
    intro hm;obtain⟨i,h,e⟩:=List.getElem_of_mem hm;exact HNo.o i (by omega) h e
   go_wp2;go_ret;refine⟨?_,⟨_,_,_,_,_,_,_,HH.o⟩,HBel.o⟩;rw[decide_eq_false HT.o];rfl
end
end Go.Proofs.YtjdlndhfaaolaaaGreatDoor
