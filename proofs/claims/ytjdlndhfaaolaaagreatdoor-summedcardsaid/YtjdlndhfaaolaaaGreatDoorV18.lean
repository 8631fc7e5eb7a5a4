import Derived.BigQuiet
import Derived.Deep.DrawnRows
import Derived.Deep.LoopGhost
import Derived.Deep.RegionHeld3
import Derived.Deep.RegionLaw
import Derived.Test.YtjdlndhfaaolaaaGreatDoorV08
set_option maxHeartbeats 20000000
namespace Go.Proofs.YtjdlndhfaaolaaaGreatDoor
section
open Go.RowKit
open Go.Deep (BT)
theorem Ah6{n:Nat}{acc:BT A6}{s:PS}{r:BT A6×PS}(hk:kT s=0)(h:Ah (n+1) 10 0 acc s=some r):r=(acc,s):=by
 rw[Ah,if_neg z4wa,if_neg z4wa,if_neg z4wa,if_neg z4wa,if_neg z4wa,if_neg z4wa,if_neg z4wa,if_neg z4wa,if_neg z4wa,if_neg z4wa,if_pos rfl,if_pos hk]at h;exact z1pa
theorem Ah7{n:Nat}{acc:BT A6}{s:PS}{r:BT A6×PS}(hk:kT s=4)(h:Ah (n+1) 10 0 acc s=some r):∃x,Ah n 11 0 .nil s=some x/\Ah n 10 0 (Bu acc x.1) x.2=some r:=by
 rw[Ah,if_neg z4wa,if_neg z4wa,if_neg z4wa,if_neg z4wa,if_neg z4wa,if_neg z4wa,if_neg z4wa,if_neg z4wa,if_neg z4wa,if_neg z4wa,if_pos rfl,if_neg z4va,if_pos hk]at h;exact bind_some h
theorem Ah8{n:Nat}{acc:BT A6}{s:PS}{r:BT A6×PS}(hk0:kT s≠0)(hk:kT s≠4)(h:Ah (n+1) 10 0 acc s=some r):∃x,Ah n 9 0 .nil s=some x/\Ah n 10 0 (Bu acc x.1) x.2=some r:=by
 rw[Ah,if_neg z4wa,if_neg z4wa,if_neg z4wa,if_neg z4wa,if_neg z4wa,if_neg z4wa,if_neg z4wa,if_neg z4wa,if_neg z4wa,if_neg z4wa,if_pos rfl,if_neg hk0,if_neg hk]at h;exact bind_some h
def opens(k:Nat):Bool:=k==18||k==20||k==22
def Pm(k:Nat):Bool:=k==19||k==21||k==23
theorem Agj(ts:List Tk)(i:Nat)(h:i<ts.length)(o:Int):nest (ts.drop i) o=if opens ts[i].k then(if 30<=o then ts[i].line else nest (ts.drop (i+1)) (o+1)) else if Pm ts[i].k then nest (ts.drop (i+1)) (o-1) else nest (ts.drop (i+1)) o:=by
 rw[List.drop_eq_getElem_cons h,nest];have e1:(ts[i].k=18\/ts[i].k=20\/ts[i].k=22)↔opens ts[i].k=true:=by simp[opens,or_assoc]
 have e2:(ts[i].k=19\/ts[i].k=21\/ts[i].k=23)↔Pm ts[i].k=true:=by simp[Pm,or_assoc]
 simp only[e1,e2]
theorem Agi(ts:List Tk)(i:Nat)(h:ts.length<=i)(o:Int):nest (ts.drop i) o=0:=by
 rw[List.drop_eq_nil_of_le h,nest]
def O4(s:Nm):Value:=.string ⟨s.toArray⟩
def Pj(n:Nat):Value:=.int .i64 (n:Nat)
structure A3 (D : Nat -> Prop) (w w' : World) : Prop where
 os:w'.os=w.os
 tape:w'.tape=w.tape
 output:w'.output=w.output
 size:w.heap.size<=w'.heap.size
 block:∀k,D k->w'.heap[k]?=w.heap[k]?
theorem A3.refl(D:Nat->Prop)(w:World):A3 D w w:=⟨rfl,rfl,rfl,Nat.le_refl _,fun _ _=>rfl⟩
theorem A3.trans{D:Nat->Prop}{w w1 w2:World}(h:A3 D w w1)(h2:A3 D w1 w2):A3 D w w2:=⟨h2.os.trans h.os,h2.tape.trans h.tape,h2.output.trans h.output,Nat.le_trans h.size h2.size,fun k hk=>(h2.block k hk).trans (h.block k hk)⟩
theorem A3.set{D:Nat->Prop}{x w:World}(h:A3 D x w){p:Addr}(hp:¬D p.block)(u:Value):A3 D x (w.setCell p u):=⟨h.os,h.tape,h.output,by simp[World.setCell];exact h.size,fun k hk=>(Below.heap_setCell _ _ _ _ (fun e=>hp (by rw[←e];exact hk))).trans (h.block k hk)⟩
theorem A3.alloc{D:Nat->Prop}{x w:World}(h:A3 D x w)(hn:∀g,D g->g<x.heap.size)(o:Obj):A3 D x (w.alloc o):=⟨h.os,h.tape,h.output,by simp;have:=h.size;omega,fun k hk=>(Below.heap_alloc _ _ _ (Nat.lt_of_lt_of_le (hn k hk) h.size)).trans (h.block k hk)⟩
theorem A3.weak{D E:Nat->Prop}{w w':World}(h:A3 D w w')(he:∀g,E g->D g):A3 E w w':=⟨h.os,h.tape,h.output,h.size,fun k hk=>h.block k (he k hk)⟩
theorem Nu{w:World}{g:Nat}{a0 a1 a2 a3 a4 a5 a6 a7:Value}{t:TypeId}(h:w.heap[g]?=some (.cells #[a0,a1,a2,a3,a4,a5,a6,a7] t (0,0))) :
  w.cell? ⟨g,0,none⟩=some a0/\w.cell? ⟨g,1,none⟩=some a1/\w.cell? ⟨g,2,none⟩=some a2/\w.cell? ⟨g,3,none⟩=some a3/\w.cell? ⟨g,4,none⟩=some a4/\w.cell? ⟨g,5,none⟩=some a5/\w.cell? ⟨g,6,none⟩=some a6/\w.cell? ⟨g,7,none⟩=some a7/\(∀o,w.frozen? ⟨g,o,none⟩=false)/\g<w.heap.size:=
 ⟨A2 h 0 _ rfl,A2 h 1 _ rfl,A2 h 2 _ rfl,A2 h 3 _ rfl,A2 h 4 _ rfl,A2 h 5 _ rfl,A2 h 6 _ rfl,A2 h 7 _ rfl,Bd h,A5 h⟩
theorem P5{w:World}{base:Nat}{e:TypeId}{va:Option Addr}{vn vc n:Nat}{xs:List Value}(h:w.ownsRow base e 1 (.slice va vn vc) n xs)(i:Nat)(hi:i<n) :
  ∃g,va=some ⟨g,0,none⟩/\vn=n/\n<=vc/\g<w.heap.size/\(∀o,w.frozen? ⟨g,o,none⟩=false)/\∃hh:i<xs.length,w.cell? ⟨g,i,none⟩=some (xs[i]'hh):=by
 obtain⟨hl,⟨h2,h3⟩|⟨g,cap,cur,hv,_,hg,hcap,_,_,ht⟩⟩:=h
 ·omega
 ·injection hv with e1 e2 e3;subst e1 e2 e3;refine⟨g,rfl,rfl,hcap,A5 hg,Bd hg,by omega,?_⟩;have hi':i<xs.length:=by omega
  have hx:xs[i]?=some xs[i]:=List.getElem?_eq_getElem hi';have h2:xs[i]?=cur[i]?:=by
   rw[show xs[i]?=(List.take (vn*1) cur.toList)[i]? by rw[ht],List.getElem?_take,if_pos z4va,Array.getElem?_toList]
  rw[cell_of_row w g i cur _ _ hg,←h2];exact hx
theorem Xf:(Tryz.prog.info? 9).map (fun i=>(i.zero,i.size,i.bytes))=some (some (.string ⟨#[]⟩),1,16):=by kernel_rfl
theorem Xc:(Tryz.prog.info? 3).map (fun i=>(i.zero,i.size,i.bytes))=some (some (.int .i64 0),1,8):=by kernel_rfl
theorem Ade:∀(fns:List (Nm×Nat)) (s:Nm) (i:Nat) (h:i<fns.length),fns[i].1=s->(∀j,j<i->∀h':j<fns.length,fns[j].1≠s)->Pp fns s=some fns[i].2:=by
 intro fns;induction fns with
 | nil=>intro s i h;simp at h
 | cons f r ih=>
  intro s i h e hno;cases i with
  | zero=>rw[Pp,if_pos (by simpa using e)];rfl
  | succ i=>
   have h0:f.1≠s:=by have:=hno 0 z4va z50a;simpa using this
   rw[Pp,if_neg h0,ih s i z60a (by simpa using e) (fun j hj h'=>by have:=hno (j+1) z4va (by simpa using h');simpa using this)];rfl
theorem Adf:∀(fns:List (Nm×Nat)) (s:Nm),(∀j,∀h:j<fns.length,fns[j].1≠s)->Pp fns s=none:=by
 intro fns;induction fns with
 | nil=>intro s _;rfl
 | cons f r ih=>
  intro s hno;have h0:f.1≠s:=by have:=hno 0 z50a;simpa using this
  rw[Pp,if_neg h0];exact ih s (fun j h=>by have:=hno (j+1) z60a;simpa using this)
theorem Mi(a:Option Addr)(n m c:Nat):(Value.slice a n c).ownBlock=(Value.slice a m c).ownBlock:=by cases a <;> rfl
end
section
open Go.RowKit
open Go.Deep (BT)
variable {w:World}{base:Nat}{e:TypeId}{size:Nat}{va:Option Addr}{vn vc n:Nat}{xs:List Value}
theorem Fo(h:w.ownsRow base e size (.slice va vn vc) n xs)(hn:0<n) :
  ∃g,va=some ⟨g,0,none⟩/\vn=n/\n<=vc/\g<w.heap.size/\∀j u,xs[j]?=some u->w.cell? ⟨g,j,none⟩=some u:=by
 obtain⟨hl,⟨h2,h3⟩|⟨g,cap,cur,hv,_,hg,hcap,_,_,ht⟩⟩:=h
 ·omega
 ·injection hv with e1 e2 e3;subst e1 e2 e3;refine⟨g,rfl,rfl,hcap,A5 hg,fun j u hu=>?_⟩;rw[←ht,List.getElem?_take]at hu;split at hu
  ·rw[cell_of_row w g j cur _ _ hg,←Array.getElem?_toList];exact hu
  ·cases hu
theorem Agx(h:w.ownsRow base e size (.slice va vn vc) n xs):n<=vc:=by
 obtain⟨hl,⟨h2,h3⟩|⟨g,cap,cur,hv,_,hg,hcap,_⟩⟩:=h
 ·injection h2 with e1 e2 e3;omega
 ·injection hv with e1 e2 e3;omega
theorem Nt:∀f:BT A6,Ax f<=bsize f:=by
 intro f;induction f with
 | nil=>exact Nat.le_refl _
 | node x y l c r _ ih=>rw[Ax,bsize];omega
theorem A3b(ps:List (Nat×Nm))(i:Nat)(h:i<ps.length)(cur:List Nm)(f:Ct):J4 (ps.drop i) cur f=J4 (ps.drop (i+1)) (cur++[ps[i].2]) (Ed (decide (ps[i].2∈cur)) 3 ps[i].1 f):=by
 rw[List.drop_eq_getElem_cons h,J4]
theorem A3a(ps:List (Nat×Nm))(i:Nat)(h:ps.length<=i)(cur:List Nm)(f:Ct):J4 (ps.drop i) cur f=(cur,f):=by
 rw[List.drop_eq_nil_of_le h,J4]
end
section
open Go.RowKit
open Go.Deep (BT)
def Ca:Nat->BT A6->BT A6
 | 0,f=>f
 | _+1,.nil=>.nil
 | n+1,.node _ _ _ _ r=>Ca n r
theorem Po:∀n f,Ax (Ca n f)=Ax f-n:=by
 intro n;induction n with
 | zero=>intro f;rw[Ca];rfl
 | succ n ih=>
  intro f;cases f with
  | nil=>rw[Ca];simp[Ax]
  | node x y l c r=>rw[Ca,ih,Ax];omega
theorem Om:∀n f x y l c r,Ca n f=.node x y l c r->Ca (n+1) f=r:=by
 intro n;induction n with
 | zero=>intro f x y l c r h;rw[Ca]at h;subst h;rfl
 | succ n ih=>
  intro f x y l c r h;cases f with
  | nil=>rw[Ca]at h;cases h
  | node x' y' l' c' r'=>rw[Ca]at h ⊢;exact ih r' x y l c r h
theorem Wj:∀n f,bsize (Ca n f)<=bsize f:=by
 intro n;induction n with
 | zero=>intro f;exact Nat.le_refl _
 | succ n ih=>
  intro f;cases f with
  | nil=>exact Nat.le_refl _
  | node x y l c r=>rw[Ca,bsize];have:=ih r;omega
end
end Go.Proofs.YtjdlndhfaaolaaaGreatDoor
