import Derived.Deep.Slices
import Derived.ProofKit
import Derived.Test.YtjdlndhfaaolaaaGreatDoorY17
set_option maxHeartbeats 20000000
set_option linter.defProp false
namespace Go.Proofs.YtjdlndhfaaolaaaGreatDoor
section
set_option maxRecDepth 100000
open Go.ChangeShapes Go.WideShapes Go.ChangeAt Go.RowKit Go.ChangeMaps
def A4c{W:World}{a:Addr}{v:Value}(h:W.cell? a=some v):a.spot=none:=by
 cases hs:a.spot with
 | none=>rfl
 | some k=>exact absurd h (by unfold World.cell?;split <;> simp[hs])
def addr_add{a:Addr}(h:a.spot=none)(i:Nat):a.add i=⟨a.block,a.off+i,none⟩:=by
 obtain⟨b,o,s⟩:=a;cases (show s=none from h);unfold Addr.add;split
 ·rename_i h0;subst h0;rfl
 ·rfl
def A1d{n:Int}(h:(Lit.int .i64 n).wf=true):Fk n:=by
 simp only[Lit.wf,F3,Jg]at h;exact h
variable {H:Type} {enc:TypeId×Value->H} {W:World}
def A8q{t e:TypeId}{fuel:Nat}{v:Value}{x:DataW H×List MemPlace}(ht:Tryz.prog.underlying t=some (.slice e))(he:Tryz.prog.underlying e=some (.int .i64))(hc:Tryz.prog.cellsOf e=1)
  (h:DataW.trod enc Tryz.prog W 0 (fun _=>true) true fuel t [v]=some x):∃l:List Int,Na M1 W v (ints l)/\∀n∈l,Fk n:=by
 rcases open_ints ht he hc h with⟨hcs,_⟩|⟨ad,len,cap,zs,hcs,_,hl,_,hz,_,hcell,hwz⟩
 ·injection hcs with e _;exact⟨[],⟨none,0,e,fun q=>absurd rfl q⟩,fun n hn=>by cases hn⟩
 ·injection hcs with e _;rw[A7 rfl]at hz;have hlen:(zs.take len).length=len:=by rw[G3];omega
  refine⟨zs.take len,⟨some ad,cap,by rw[e];simp[ints];omega,fun q=>?_⟩,fun m hm'=>A1d (hwz m (Zj hm'))⟩;have hn:len≠0:=fun e=>q (by simp[ints,e]);have h0:=hcell 0 z4ma;have hs:=A4c (show W.cell? ad=some _ from h0);refine⟨ad.block,ad.off,by cases ad;cases (show _=none from hs);rfl,trivial,O3 h0,fun j x hx=>?_⟩;have hj:j<len:=by
   have:=(K4.1 hx).1;rw[ints,Mb,hlen]at this;exact this
  have hjz:j<zs.length:=by omega
  have:=hcell j hjz;rw[addr_add hs]at this;rw[this];simp only[ints,Qt,Te,hj,P6,Eh hjz,X6,Cg]at hx;rw[←hx,List.getD_eq_getElem?_getD,Eh hjz];rfl
def A4w:Tryz.prog.cellsOf 3=1:=by kernel_rfl
def Ag2:Tryz.prog.cellsOf 2=1:=by kernel_rfl
def Ag4:Tryz.prog.cellsOf 34=1:=by kernel_rfl
def Ag3:Tryz.prog.cellsOf 35=1:=by kernel_rfl
def Ag1:Tryz.prog.cellsOf 95=4:=by kernel_rfl
def Afu:Tryz.prog.bytesOf 95=64:=by kernel_rfl
def Aew{fuel:Nat}{v:Value}{x:DataW H×List MemPlace}(h:DataW.trod enc Tryz.prog W 0 (fun _=>true) true fuel 58 [v]=some x) :
  ∃(raws:List Cl) (a:Option Addr) (c:Nat),v=.slice a raws.length c/\H7 M1 W v raws/\(∀b∈raws,Ly b/\Fk b.fn/\Fk b.after)/\(raws=[]\/∃el sp,x.1=.slice el sp/\el.length=raws.length):=by
 rcases Go.Deep.open_slice Tryz.underlying58 h with⟨hcs,_⟩|⟨a,len,cap,m,n,D,Pl,hcs,_,hl,_,hm,hx,hel⟩
 ·injection hcs with e _;exact⟨[],none,0,e,⟨none,0,e,Af _,fun q=>absurd rfl q⟩,(fun b q=>by cases q),.inl rfl⟩
 ·injection hcs with e _;rw[A7 rfl]at hm;have each:∀i,i<len->∃b:Cl,(Ly b/\Fk b.fn/\Fk b.after)/\W.cell? (a.add (i*4))=some (.int .i64 b.fn)/\W.cell? (a.add (i*4+1))=some (.int .i64 b.after)/\∃kv iv,W.cell? (a.add (i*4+2))=some kv/\W.cell? (a.add (i*4+3))=some iv/\Na M1 W kv (ints b.kinds)/\Na M1 W iv (ints b.ints):=by
   intro i hi;obtain⟨cs',h1,h2⟩:=hel i z4ma;rw[Ag1]at h1;obtain⟨_,hlen,hcell⟩:=World.cells?_some h1;obtain⟨xs,k,_,_,_,hxl,hf⟩:=DataW.trod_struct Tryz.underlying95 h2;match xs,hxl,cs',hlen with
   | [y0,y1,y2,y3],_,[c0,c1,c2,c3],_=>
    have g0:=hf 0 _ rfl;have g1:=hf 1 _ rfl;have g2:=hf 2 _ rfl;have g3:=hf 3 _ rfl;simp[A4w]at g0 g1;simp[Ag4]at g2;simp[Ag3]at g3;have e0:=hcell 0 z4ma;have e1:=hcell 1 z4ma;have e2:=hcell 2 z4ma;have e3:=hcell 3 z4ma;rw[Go.Deep.add_add]at e0 e1 e2 e3;obtain⟨n0,q0,_,w0⟩:=A36 Tryz.underlying3 g0;obtain⟨n1,q1,_,w1⟩:=A36 Tryz.underlying3 g1;obtain⟨l2,r2,_⟩:=A8q Tryz.underlying34 Tryz.underlying3 A4w g2;obtain⟨l3,r3,i3⟩:=A8q Tryz.underlying35 Tryz.underlying2 Ag2 g3;injection q0 with q0 _;injection q1 with q1 _;rw[q0]at e0;rw[q1]at e1;exact⟨⟨n0,n1,l2,l3⟩,⟨i3,A1d w0,A1d w1⟩,e0,e1,c2,c3,e2,e3,r2,r3⟩
  haveI:Inhabited Cl:=⟨⟨0,0,[],[]⟩⟩
  obtain⟨f,hf⟩:=Go.Deep.choose_lt each;have hlen:((List.range len).map f).length=len:=by simp
  refine⟨(List.range len).map f,some a,cap,by rw[hlen];exact e,⟨some a,cap,by rw[hlen];exact e,by rw[hlen];exact hl,fun q=>?_⟩,fun b hb=>?_,.inr ⟨_,_,by rw[hx],by simp⟩⟩
  ·rw[hlen]at q;have h0:=(hf 0 z4ma).2.1;have hs:=A4c (show W.cell? a=some _ from h0);refine⟨a.block,a.off,by cases a;cases (show _=none from hs);rfl,trivial,O3 h0,fun i hi=>?_⟩;rw[hlen]at hi;obtain⟨_,k1,k2,kv,iv,k3,k4,k5,k6⟩:=hf i hi;rw[addr_add hs]at k1 k2 k3 k4;have hg:((List.range len).map f)[i]'(by rw[hlen];exact hi)=f i:=by simp
   rw[hg];exact⟨k1,k2,kv,iv,k3,k4,k5,k6⟩
  ·obtain⟨i,hi,rfl⟩:=Qu.1 hb;exact(hf i (List.mem_range.1 hi)).1
