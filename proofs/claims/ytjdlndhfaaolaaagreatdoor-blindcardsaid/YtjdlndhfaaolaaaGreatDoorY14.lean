import Derived.Deep.LoopGhost
import Derived.Test.YtjdlndhfaaolaaaGreatDoorY10
set_option maxHeartbeats 20000000
set_option linter.defProp false
namespace Go.Proofs.YtjdlndhfaaolaaaGreatDoor
section
set_option maxRecDepth 100000
open Go.RowKit
open Go.Deep (BT)
def A6p:(Tryz.prog.info? 150).map (fun i=>(i.zero,i.size,i.bytes))=some (some .nilIface,1,16):=by kernel_rfl
def A1h:(Tryz.prog.info? 142).map (fun i=>(i.zero,i.size,i.bytes))=some (some .nilIface,1,16):=by kernel_rfl
def A6q:(Tryz.prog.info? 148).map (fun i=>(i.zero,i.size,i.bytes))=some (some (.agg #[.i 0,.string ⟨#[]⟩]),2,24):=by kernel_rfl
def l7{b n g:Nat}{wr w4 w5:World}{T:TypeId}{v val:Value}{m:Nat}{cs cs0:List Value}{acc x:BT A5}(hb:b<n)(hn:n<=wr.heap.size)(hr:Ar (fun g=>n<=g/\v.ownBlock≠some g) wr acc cs)(ho:A8 b wr w4)(hx:Ar (fun g=>wr.heap.size<=g) w4 x [val])(hown:wr.ownsRow 0 T 1 v m cs0)
  (hgrow:w4.grownBy w5 v.ownBlock) (hat:v.ownBlock=some g\/g=w4.heap.size+1):Ar (fun k=>n<=k/\(some g:Option Nat)≠some k) w5 (Dw acc x) (cs++[val]):=by
 have hlt:=Bs hown;have hs:=ho.size;refine Ar.app _ _ _ _ (Ar.keep ?_ _ _ hr) (Ar.keep ?_ _ _ hx)
 ·intro k ⟨h1,h2⟩ hk;refine⟨(hgrow.block k z4ma (fun e=>h2 e.symm)).trans (ho.block k hk z4ma),h1,fun e=>?_⟩;have e:=Dl e;subst e;rcases hat with h|h
  ·exact h2 h
  ·omega
 ·intro k h1 hk;refine⟨hgrow.block k hk (fun e=>?_),by omega,fun e=>?_⟩
  ·have:=hlt k e.symm;omega
  ·have e:=Dl e;subst e;rcases hat with h|h
   ·have:=hlt g h;omega
   ·omega
def Nz{k:Nat}{s:PS}(h:(Be k s).bad=0):s.bad=0:=by
 by_cases h0:s.bad=0
 ·exact h0
 ·exfalso;unfold Be at h;split at h
  ·rw[Us]at h;exact h0 h
  ·unfold Et at h;rw[A1 h0]at h;exact h0 h
def T5{n t a:Nat}{acc:BT A5}{s:PS}{r:BT A5×PS}(hs:s.bad≠0->s.ts=[Kx])(h:Ak n t a acc s=some r)(hb:r.2.bad=0):s.bad=0:=by
 by_cases h0:s.bad=0
 ·exact h0
 ·rw[Uf (hs h0) h0 _ _ _ _ _ h]at hb;exact absurd hb h0
def Mu{b tb cap te:Nat}{ts:List Tk}{n:Nat}(ih:K5 b tb cap te ts n)(w:World)(s:PS)(r:BT A5×PS)(hs:PR b tb cap te ts w s)(hp:Ak n 0 0 .nil s=some r) :
  Calls Tryz.prog 189 #[.p b] w (J4 b tb cap te ts w r):=by
 have HC:=ih.expr w s 0 r z4ma hs hp;go_in;go_wp2_with fail
 refine HC.mono ?_;rintro e w1 ⟨t,x,rfl,h1,Cy,Cd⟩;have HE:=C3 h1 (C3 Cy Cd);go_wp2;go_ret;exact⟨t,x,rfl,HE⟩
def A3z(a b tb cap te:Nat)(ts:List Tk)(n:Nat)(r:BT A5×PS)(w:World)(k:Nat)(v:Value)(wr:World):Prop:=
 ∃(acc:BT A5) (st:PS) (va:Option Addr) (vn vc:Nat) (cs:List Value),v=.slice va vn vc/\k<=n/\Ak k 6 a acc st=some r/\PR b tb cap te ts wr st/\A8 b w wr/\cs.length+k<=n+1/\
  Dj (fun g=>w.heap.size<=g) wr 150 1 (.slice va vn vc) cs.length cs/\(st.bad=0->Ar (fun g=>w.heap.size<=g/\(Value.slice va vn vc).ownBlock≠some g) wr acc cs)
def PR.grown{b tb cap te:Nat}{ts:List Tk}{w w':World}{s:PS}{row:Option Nat}(h:PR b tb cap te ts w s)(hg:w.grownBy w' row)(h1:row≠some b)(h2:row≠some tb):PR b tb cap te ts w' s:=
 h.keep (hg.block b h.lt.1 (fun e=>h1 e.symm)) (hg.block tb h.lt.2.1 (fun e=>h2 e.symm))
def z59a {P:Prop} (h:P:=by rw[←e];exact hk):P:=h
def z5ea {P:Prop} (h:P:=by simp[Value.ownBlock]):P:=h
def Akz{b tb cap te:Nat}{ts:List Tk}{n:Nat}(ih:∀m,m<=n->K5 b tb cap te ts m)(hn:n<=500000)(w:World)(s:PS)(a:Nat)(r:BT A5×PS)(hs:PR b tb cap te ts w s)(hp:Ak (n+1) 5 a .nil s=some r) :
  Calls Tryz.prog 309 #[.p b,.n a] w (Xe 150 b tb cap te ts w r):=by
 have HS:=A0 hs;obtain⟨lb,lt,lne⟩:=hs.lt;by_cases hc:kT s=a
 ·have t:((kT s:Int) !=(a:Int))=false:=by rw[hc];simp
  have HR:=A0 (Ano hc hp);have HW:Hid (Be a s=At s):=by show _=_;unfold Be;rw[A7 hc]
  go_in;go_wp2_with fail
  refine(E9 HS.o).mono ?_;rintro e w1 ⟨rfl,h1,A2⟩;have H1:=A0 h1;have Bd:Hid (A8 b w w1):=Below.only A2;go_wp2_with fail
  refine(Kc H1.o a).mono ?_;rintro e w2 ⟨kk,ln,nn,S,rfl,htk,h2,C4⟩;have Bo:Hid (A8 b w w2):=Bd.o.trans C4;rw[HW.o]at h2;have H2:=A0 h2;go_wp2;go_ret;rw[HR.o];exact⟨none,0,0,[],rfl,Rr _ _ _ _,H2.o,Bo.o,fun _=>rfl⟩
 ·have hpos:n≠0:=by
   intro e;subst e;obtain⟨y,hy,_⟩:=bind_some (A85 hc hp);exact M6 _ _ _ _ _ hy
  obtain⟨y,hy1,hy2⟩:=bind_some (A85 hc hp);have t:((kT s:Int) !=(a:Int))=true:=by simp;omega
  have HY2:=A0 hy2;have HX:=A0 (fun(W:World) (h:PR b tb cap te ts W s)=>Mu (ih n (Af _)) W s y h hy1);go_in;go_wp2_with fail
  refine(E9 HS.o).mono ?_;rintro e w1 ⟨rfl,h1,A2⟩;have H1:=A0 h1;have Bd:Hid (A8 b w w1):=Below.only A2;go_wp2_with fail
  refine(HX.o _ H1.o).mono ?_;rintro e w2 ⟨ty,x,rfl,h2,C4,C7⟩;have Bo:Hid (A8 b w w2):=Bd.o.trans C4;have HO2':=A0 C4;have H2:=A0 h2;have Hx:=A0 C7;have Ef:=Bd.o.size;have G0:=C4.size;go_wp2_with (at_builtin;refine Lh w2 #[.iface ty x] 150 rfl (.tmp 10) (.tmp 13) 298 rfl 0 1 16 .nilIface Tryz.underlying298 A6p rfl z4ma (.slice none 0 0) 0 [] rfl rfl (M9 _ _ _ _) rfl (fun u hu=>by simp at hu;rw[hu];rfl) z4ma z4ma (De _) ?_;intro g cap1 w3 hown3 hgrow hat hg)
  replace hgrow:w2.grownBy w3 (Value.slice none 0 0).ownBlock:=hgrow;have hat:(Value.slice none 0 0).ownBlock=some g\/g=w2.heap.size+1:=hat;have HGg:Hid (g=w2.heap.size+1):=by rcases hat with h|h;simp[Value.ownBlock]at h;exact h
  have HRel:Hid (A3z a b tb cap te ts n r w n (.slice (some ⟨g,0,none⟩) 1 cap1) w3):=by
   refine⟨y.1,y.2,some ⟨g,0,none⟩,1,cap1,[.iface ty x],rfl,Af _,HY2.o,PR.grown H2.o hgrow z5ea z5ea,Bo.o.grown hgrow z5ea,by simp;omega,⟨hown3,fun k hk=>?_⟩,fun hb=>?_⟩
   ·simp only[Value.ownBlock,Cg]at hk;have:=HGg.o;omega
   ·have:=l7 (T:=150) (acc:=.nil) (cs:=[]) (n:=w.heap.size) lb Ef rfl HO2'.o (Hx.o hb) (M9 _ _ _ _) hgrow hat;exact this
  have HG:=A0 hgrow;go_wp2;go_loopg [5] n (fun k v wr=>A3z a b tb cap te ts n r w k v wr)
  case atStart=>exact HRel.o
  case round=>
   obtain⟨acc,st,va,vn,vc,cs,rfl,hkn,hpk,hrs,hO,hcn,hown,hrep⟩:=hrel;cases gk with
   | zero=>exact absurd hpk (M6 _ _ _ _ _)
   | succ m=>
   have HRS:=A0 hrs;have HO:=A0 hO;have HOwn:=A0 hown;have HRep:=A0 hrep;have lwr:=hO.size;by_cases h24:kT st=24
   ·obtain⟨z,Cu,Dg⟩:=bind_some (Anr h24 hpk);have HZ2:=A0 Dg;have HX:=A0 (fun(W:World) (h:PR b tb cap te ts W (At st))=>Mu (ih m z4ma) W (At st) z h Cu);have tk:(kT st==24)=true:=by simpa using h24
    have HM:Hid (Jb 24 st=At st):=by show _=_;unfold Jb;rw[A7 h24]
    have Ag:Hid (st.bad=0):=hrs.Ij z4ma;go_wp2_with fail
    refine(Pb HRS.o 24).mono ?_;rintro e w4 ⟨rfl,h4,Cx⟩;rw[tk];rw[HM.o]at h4;have H4:=A0 h4;have Ce:=A0 Cx;go_wp2_with fail
    refine(HX.o _ H4.o).mono ?_;rintro e w5 ⟨ty5,x5,rfl,h5,Fc,hr5⟩;have Cq:Hid (A8 b wr w5):=Ce.o.trans Fc;have H5:=A0 h5;have HR5:=A0 hr5;have lw4:=Ce.o.size;have lw5:=Fc.size;have hne:(Value.slice va vn vc).ownBlock≠some b:=fun e=>by have:=HOwn.o.2 b e;omega
    have hown5:w5.ownsRow 0 150 1 (.slice va vn vc) cs.length cs:=Bc HOwn.o.1 (fun k hk hl=>Cq.o.block k hl (fun e=>hne z59a));go_wp2_with (at_builtin;refine Lh w5 #[.iface ty5 x5] 150 rfl (.tmp 17) (.tmp 20) 298 rfl 0 1 16 .nilIface Tryz.underlying298 A6p rfl z4ma _ _ _ rfl rfl hown5 rfl (fun u hu=>by simp at hu;rw[hu];rfl) z4ma z4ma (De _) ?_;intro g6 cap6 w6 hown6 hgrow6 hat6 hg6)
    replace hgrow6:w5.grownBy w6 (Value.slice va vn vc).ownBlock:=hgrow6;replace hat6:(Value.slice va vn vc).ownBlock=some g6\/g6=w5.heap.size+1:=hat6;have hrow:∀k,(Value.slice va vn vc).ownBlock=some k->k≠b/\k≠tb/\w.heap.size<=k:=fun k e=>by have:=HOwn.o.2 k e;omega
    go_roundg m
    case measure=>omega
    case rel=>
     refine⟨Dw acc z.1,z.2,some ⟨g6,0,none⟩,cs.length+1,cap6,cs++[.iface ty5 x5],rfl,by omega,HZ2.o,PR.grown H5.o hgrow6 (fun e=>(hrow b e).1 rfl) (fun e=>(hrow tb e).2.1 rfl),(HO.o.trans Cq.o).grown hgrow6 (fun k e=>.inr (hrow k e).2.2),by simp;omega,⟨by simpa using hown6,fun k hk=>?_⟩,fun hb=>?_⟩
     ·simp only[Value.ownBlock,Cg]at hk;rw[←hk];rcases hat6 with h|h
      ·exact(hrow g6 h).2.2
      ·omega
     ·exact l7 lb lwr (HRep.o Ag.o) Cq.o (Ar.weak lw4 (HR5.o hb)) HOwn.o.1 hgrow6 hat6
   ·have HE:=A0 (Anm h24 hpk);have tk:(kT st==24)=false:=by simpa using h24
    have HM:Hid (Jb 24 st=st):=by show _=_;unfold Jb;rw[A1 h24]
    go_wp2_with fail
    refine(Pb HRS.o 24).mono ?_;rintro e w4 ⟨rfl,h4,Cx⟩;rw[tk];rw[HM.o]at h4;have H4:=A0 h4;have Ce:=A0 Cx;go_wp2_with fail
    refine(Kc H4.o a).mono ?_;rintro e w5 ⟨kk,ln,nn,S,rfl,htk,h5,Fc⟩;have Cq:Hid (A8 b wr w5):=Ce.o.trans Fc;have H5:=A0 h5;go_wp2;go_ret;rw[HE.o];have hne:(Value.slice va vn vc).ownBlock≠some b:=fun e=>by have:=HOwn.o.2 b e;omega
    refine⟨va,vn,vc,cs,rfl,⟨Bc HOwn.o.1 (fun k hk hl=>Cq.o.block k hl (fun e=>hne z59a)),HOwn.o.2⟩,H5.o,HO.o.trans Cq.o,fun hb=>?_⟩;exact Ar.keep (fun k hk hl=>⟨Cq.o.block k hl z4ma,hk.1⟩) _ _ (HRep.o (Nz hb))
