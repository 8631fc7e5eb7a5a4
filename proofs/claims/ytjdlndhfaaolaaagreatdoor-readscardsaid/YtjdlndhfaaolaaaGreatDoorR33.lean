import Derived.Test.YtjdlndhfaaolaaaGreatDoorR30
import Derived.Test.YtjdlndhfaaolaaaGreatDoorR32
set_option maxHeartbeats 20000000
namespace Go.Proofs.YtjdlndhfaaolaaaGreatDoor
section
open Go.RowKit
open Go.Deep (BT)
theorem Ak.E2{D:Nat->Prop}{w:World}:∀(f:BT A2) (cs:List Value),Ek f->Ak D w f cs->Ak D w (E2 f) cs:=by
 intro f;induction f with
 | nil=>intro cs _ h;exact h
 | node x y l c r C2 Bl=>
  intro cs hs h;rw[Ak]at h;rw[YtjdlndhfaaolaaaGreatDoor.E2];split at h
  ·rename_i h8;rw[if_pos h8];obtain⟨c1,c2,rfl,h1,h2⟩:=h;exact Ak.app _ _ _ _ (C2 c1 hs.2.2.2.1 h1) (Bl c2 hs.2.2.2.2 h2)
  ·rename_i h8;rw[if_neg h8,Ak,if_neg h8];obtain⟨ln,nn,S,v,pv,c1,c2,hv,rfl,h1,h2,h3,h12,h4,h5,h6,h7⟩:=h;exact⟨ln,nn,S,v,pv,c1,c2,hv,rfl,h1,h2,h3,h12,by rw[Sh c hs.2.2.2.1];exact h4,C2 c1 hs.2.2.2.1 h5,h6,Bl c2 hs.2.2.2.2 h7⟩
def Au:Nat->BT A2->BT A2
 | 0,f=>f
 | _+1,.nil=>.nil
 | n+1,.node _ _ _ _ r=>Au n r
theorem L4:∀n f,A8 (Au n f)=A8 f-n:=by
 intro n;induction n with
 | zero=>intro f;rw[Au];rfl
 | succ n ih=>
  intro f;cases f with
  | nil=>rw[Au];simp[A8]
  | node x y l c r=>rw[Au,ih,A8];omega
theorem Ko:∀n f x y l c r,Au n f=.node x y l c r->Au (n+1) f=r:=by
 intro n;induction n with
 | zero=>intro f x y l c r h;rw[Au]at h;subst h;rfl
 | succ n ih=>
  intro f x y l c r h;cases f with
  | nil=>rw[Au]at h;cases h
  | node x' y' l' c' r'=>rw[Au]at h ⊢;exact ih r' x y l c r h
theorem N2:∀n f,Dq f->Dq (Au n f):=by
 intro n;induction n with
 | zero=>intro f h;exact h
 | succ n ih=>
  intro f h;cases f with
  | nil=>exact h
  | node x y l c r=>exact ih r h.2
theorem M4:∀n f,bsize (Au n f)<=bsize f:=by
 intro n;induction n with
 | zero=>intro f;exact Nat.le_refl _
 | succ n ih=>
  intro f;cases f with
  | nil=>exact Nat.le_refl _
  | node x y l c r=>rw[Au,bsize];have:=ih r;omega
structure Ji (D : Nat -> Prop) (w : World) (l : A2) (c : BT A2) (ln nn : Int) (S : List UInt8) (va : Option Addr) (vn vc : Nat) (pa : Option Addr) (pn pc : Nat) (c1 : List Value) : Prop where
 line:Pn l.kd=true->ln=l.line
 name:Hv l.kd=true->S=l.s
 own:C1 D w 77 6 (.slice va vn vc) (A8 c) c1
 kids:Ak D w c c1
 prm:l.kd=20->∃xs:List (Tk×List UInt8),C1 D w 174 4 (.slice pa pn pc) xs.length (Jc xs)/\xs.map (fun x=>(x.1.line,x.2))=l.ps
theorem Ji.keep{D D':Nat->Prop}{w w':World}{l:A2}{c:BT A2}{ln nn:Int}{S:List UInt8}{va:Option Addr}{vn vc:Nat}{pa:Option Addr}{pn pc:Nat}{c1:List Value}(h:Ji D w l c ln nn S va vn vc pa pn pc c1)
  (hk:∀g,D g->g<w.heap.size->w'.heap[g]?=w.heap[g]?/\D' g):Ji D' w' l c ln nn S va vn vc pa pn pc c1:=
 ⟨h.line,h.name,h.own.keep hk,Ak.keep hk _ _ h.kids,fun e=>by obtain⟨xs,k1,k2⟩:=h.prm e;exact⟨xs,k1.keep hk,k2⟩⟩
theorem Ak.at'{D:Nat->Prop}{w:World}:∀(i:Nat) (f:BT A2) (cs:List Value),Hs f->Ak D w f cs->i<A8 f->
  ∃x y l c r,Au i f=.node x y l c r/\∃ln nn S va vn vc pa pn pc c1,Ji D w l c ln nn S va vn vc pa pn pc c1/\
   cs[i*6]?=some (.string ⟨(Dy l.kd).toArray⟩)/\cs[i*6+1]?=some (.int .i64 ln)/\cs[i*6+2]?=some (.string ⟨S.toArray⟩)/\cs[i*6+3]?=some (.int .i64 nn)/\cs[i*6+4]?=some (.slice va vn vc)/\cs[i*6+5]?=some (.slice pa pn pc):=by
 intro i;induction i with
 | zero=>
  intro f cs hs h hi;cases f with
  | nil=>simp[A8]at hi
  | node x y l c r=>
   rw[Ak,if_neg hs.1]at h;obtain⟨ln,nn,S,v,pv,c1,c2,⟨va,vn,vc,pa,pn,pc,rfl,rfl⟩,rfl,h1,h2,h3,h12,h4,h5,h6,h7⟩:=h;exact⟨x,y,l,c,r,rfl,ln,nn,S,va,vn,vc,pa,pn,pc,c1,⟨h1,h2,h4,h5,h6⟩,rfl,rfl,rfl,rfl,rfl,rfl⟩
 | succ i ih=>
  intro f cs hs h hi;cases f with
  | nil=>simp[A8]at hi
  | node x y l c r=>
   rw[Ak,if_neg hs.1]at h;obtain⟨ln,nn,S,v,pv,c1,c2,hv,rfl,h1,h2,h3,h12,h4,h5,h6,h7⟩:=h;obtain⟨x',y',l',c',r',e,ln',nn',S',va,vn,vc,pa,pn,pc,c1',k0,k1,k2,k3,k4,k5,k6⟩:=ih r c2 hs.2.2.2.2 h7 (by simp only[A8]at hi;omega);refine⟨x',y',l',c',r',e,ln',nn',S',va,vn,vc,pa,pn,pc,c1',k0,?_,?_,?_,?_,?_,?_⟩
   ·rw[show(i+1)*6=i*6+6 by omega];exact k1
   ·rw[show(i+1)*6+1=(i*6+1)+6 by omega];exact k2
   ·rw[show(i+1)*6+2=(i*6+2)+6 by omega];exact k3
   ·rw[show(i+1)*6+3=(i*6+3)+6 by omega];exact k4
   ·rw[show(i+1)*6+4=(i*6+4)+6 by omega];exact k5
   ·rw[show(i+1)*6+5=(i*6+5)+6 by omega];exact k6
end
section
set_option maxRecDepth 100000
open Go.RowKit
open Go.Deep (BT)
variable {w:World}{base:Nat}{e:TypeId}{size:Nat}{va:Option Addr}{vn vc n:Nat}{xs:List Value}
def Cy(kd:Nat):Nat:=if kd=32 then 1 else 0
structure Ctx where
 sb:Nat
 pb:Nat
 te:Nat
 tp:Nat
 fns:List (Nm×Nat)
 la:Option Addr
 ln:Nat
 lc:Nat
 fa:Option Addr
 fn:Nat
 fc:Nat
structure Ctx.St (K : Ctx) (D : Nat -> Prop) (w : World) (outer : List Nm) (ob : List Nat) (cur : List Nm) (blk wh : Nat) (inn : Bool) (f : B3) : Prop where
 st:L9 D K.sb K.pb K.te w outer ob cur blk wh inn f
 fr:Rf D K.pb K.tp w K.fns K.la K.ln K.lc K.fa K.fn K.fc
 lo:∀g,D g->g<w.heap.size
def Lo(K:Ctx)(l:A2)(c:BT A2):Prop:=∀(D:Nat->Prop) (w:World) (outer:List Nm) (ob:List Nat) (cur:List Nm) (blk wh:Nat) (inn:Bool) (f:B3) (ln nn:Int) (S:List UInt8) (va:Option Addr) (vn vc:Nat) (pa:Option Addr) (pn pc:Nat) (c1:List Value),
 K.St D w outer ob cur blk (wh+Cy l.kd) inn f->Ji D w l c ln nn S va vn vc pa pn pc c1->(outer++cur).length+bsize (nd l c)<=900000->blk+bsize (nd l c)<=99990->wh+bsize (nd l c)<=99990->
 Calls Tryz.prog 64 #[.pointer (some ⟨K.sb,0,none⟩),.agg #[.string ⟨(Dy l.kd).toArray⟩,.int .i64 ln,.string ⟨S.toArray⟩,.int .i64 nn,.slice va vn vc,.slice pa pn pc]] w fun e w'=>
  e=.returned (.tuple #[])/\K.St D w' outer ob (Ag K.fns (nd l c) outer cur wh inn f).1 blk (wh+Cy l.kd) inn (Ag K.fns (nd l c) outer cur wh inn f).2/\A4 D w w'
def Mc(K:Ctx)(f:BT A2):Prop:=∀i x y l c r,Au i f=.node x y l c r->Lo K l c
theorem Mi(fns:List (Nm×Nat))(x y:Nat)(l:A2)(c r:BT A2)(outer cur:List Nm)(wh:Nat)(inn:Bool)(f:B3):Ag fns (.node x y l c r) outer cur wh inn f=Ag fns r outer (Ag fns (nd l c) outer cur wh inn f).1 wh inn (Ag fns (nd l c) outer cur wh inn f).2:=by
 rw[Sb];rfl
theorem Ctx.St.keep{K:Ctx}{D:Nat->Prop}{w w':World}{outer:List Nm}{ob:List Nat}{cur:List Nm}{blk wh:Nat}{inn:Bool}{f:B3}(h:K.St D w outer ob cur blk wh inn f)(hk:∀g,g<w.heap.size->w'.heap[g]?=w.heap[g]?)(hb:A4 D w w'):K.St D w' outer ob cur blk wh inn f:=
 ⟨h.st.keep hk,h.fr.keep hb,fun g hg=>Nat.lt_of_lt_of_le (h.lo g hg) hb.size⟩
theorem Fs(h:w.ownsRow base e size (.slice va vn vc) n xs)(hn:0<n) :
  ∃g,va=some ⟨g,0,none⟩/\vn=n/\n<=vc/\g<w.heap.size/\∀j u,xs[j]?=some u->w.cell? ⟨g,j,none⟩=some u:=by
 obtain⟨hl,⟨h2,h3⟩|⟨g,cap,cur,hv,_,hg,hcap,_,_,ht⟩⟩:=h
 ·omega
 ·injection hv with e1 e2 e3;subst e1 e2 e3;refine⟨g,rfl,rfl,hcap,A5 hg,fun j u hu=>?_⟩;rw[←ht,List.getElem?_take]at hu;split at hu
  ·rw[cell_of_row w g j cur _ _ hg,←Array.getElem?_toList];exact hu
  ·cases hu
theorem Vk(h:w.ownsRow base e size (.slice va vn vc) n xs):n<=vc:=by
 obtain⟨hl,⟨h2,h3⟩|⟨g,cap,cur,hv,_,hg,hcap,_⟩⟩:=h
 ·injection h2 with e1 e2 e3;omega
 ·injection hv with e1 e2 e3;omega
theorem Kl:∀f:BT A2,A8 f<=bsize f:=by
 intro f;induction f with
 | nil=>exact Nat.le_refl _
 | node x y l c r _ ih=>rw[A8,bsize];omega
theorem Vs(ps:List (Nat×Nm))(i:Nat)(h:i<ps.length)(cur:List Nm)(f:B3):Ge (ps.drop i) cur f=Ge (ps.drop (i+1)) (cur++[ps[i].2]) (Bu (decide (ps[i].2∈cur)) 3 ps[i].1 f):=by
 rw[List.drop_eq_getElem_cons h,Ge]
theorem Vr(ps:List (Nat×Nm))(i:Nat)(h:ps.length<=i)(cur:List Nm)(f:B3):Ge (ps.drop i) cur f=(cur,f):=by
 rw[List.drop_eq_nil_of_le h,Ge]
theorem Ctx.St.next{K:Ctx}{D:Nat->Prop}{w w':World}{outer outer':List Nm}{ob ob':List Nat}{cur cur':List Nm}{blk blk' wh wh':Nat}{inn inn':Bool}{f f':B3}(h:K.St D w outer ob cur blk wh inn f)(h2:L9 D K.sb K.pb K.te w' outer' ob' cur' blk' wh' inn' f')(hb:A4 D w w'):K.St D w' outer' ob' cur' blk' wh' inn' f':=
 ⟨h2,h.fr.keep hb,fun g hg=>Nat.lt_of_lt_of_le (h.lo g hg) hb.size⟩
theorem Uu(K:Ctx)(c:BT A2)(hok:Mc K c)(hshp:Hs c)(F2:Dq c)(D:Nat->Prop)(w:World)(outer:List Nm)(ob:List Nat)(cur:List Nm)(blk wh:Nat)(inn:Bool)(f:B3)(va:Option Addr)(vn vc:Nat)(pa:Option Addr)(pn pc:Nat)(c1:List Value)(xs:List (Tk×List UInt8))
  (hst:K.St D w outer ob cur blk wh inn f) (hown:C1 D w 77 6 (.slice va vn vc) (A8 c) c1) (hrep:Ak D w c c1) (hprm:C1 D w 174 4 (.slice pa pn pc) xs.length (Jc xs))
  (A3:(outer++cur).length+xs.length+bsize c+1<=900000) (A9:blk+bsize c+1<=99990) (Ar:wh+bsize c<=99990) (Bc:xs.length<=100000) :
  Calls Tryz.prog 67 #[.pointer (some ⟨K.sb,0,none⟩),.slice va vn vc,.slice pa pn pc] w fun e w'=>e=.returned (.tuple #[])/\K.St D w' outer ob cur blk wh inn (Ag K.fns c (outer++cur) (Ge (xs.map (fun x=>(x.1.line,x.2))) [] f).1 wh inn (Ge (xs.map (fun x=>(x.1.line,x.2))) [] f).2).2/\A4 D w w':=by
 obtain⟨⟨na,nn,nc,ba,bn,bc,bs,h⟩,hfr,hlo⟩:=hst;obtain⟨y0,y1,y2,y3,y4,y5,y6,y7,fy,ly⟩:=Gn h.cell;have hnn:nn=(outer++cur).length:=(C9 h.names).1;have HH:=A0 h;have HOwn:=A0 hown;have HRep:=A0 hrep;have HPrm:=A0 hprm;have HOk:=A0 hok;have HShp:=A0 hshp;have HT:=A0 F2;have HFr:=A0 hfr;have hvn:vn=A8 c:=(C9 hown.1).1;have hbls:=Kl c;have hpn:pn=xs.length:=(C9 hprm.1).1;subst hvn hpn;have hlen:(outer++cur).length=nn:=hnn.symm;have HLen:=A0 hlen;rw[hlen]at A3;clear h hown hrep hprm hok hshp F2 hfr hnn hlen;go_enter Tryz.func67,Tryz.ntmps67;have hbsE:bs=ob++List.replicate cur.length blk:=HH.o.bsE.1;have HBs:=A0 hbsE;have E9:Hid (K.St D (w.setCell ⟨K.sb,3,none⟩ (.int .i64 ((blk:Int)+1))) (outer++cur) bs [] (blk+1) wh inn f/\A4 D w (w.setCell ⟨K.sb,3,none⟩ (.int .i64 ((blk:Int)+1)))):=by
  have hbel:A4 D w (w.setCell ⟨K.sb,3,none⟩ (.int .i64 ((blk:Int)+1))):=A4.set (p:=⟨K.sb,3,none⟩) (A4.refl _ _) HH.o.Di _;refine⟨⟨⟨na,nn,nc,ba,bn,bc,bs,HH.o.opened (by omega) ?_ (fun g _ hne=>Below.heap_setCell _ _ _ _ (by exact hne))⟩,HFr.o.keep hbel,fun g hg=>Nat.lt_of_lt_of_le (hlo g hg) hbel.size⟩,hbel⟩;have:=heap_set (j:=3) HH.o.cell (.int .i64 ((blk:Int)+1));simpa using this
 have hbsl:bs.length=nn:=by rw[HH.o.len];exact HLen.o
 clear hbsE;go_wp2;clear y0 y1 y2 y3 y4 y5 y6 y7 fy;generalize hps:xs.map (fun x=>(x.1.line,x.2))=ps;have HPs:=A0 hps;have hpl:ps.length=xs.length:=by rw[←hps];simp
 clear hps;go_loopg [7] xs.length (fun k v wr=>∃(n:Nat) (cp:List Nm) (fp:B3),v=.int .i64 n/\n+k=xs.length/\cp.length=n/\K.St D wr (outer++cur) bs cp (blk+1) wh inn fp/\Ge (ps.drop n) cp fp=Ge ps [] f/\A4 D w wr)
 case atStart=>exact⟨0,[],f,rfl,by omega,rfl,E9.o.1,rfl,E9.o.2⟩
 case round=>
  clear E9;obtain⟨n,cp,fp,rfl,hnk,hcp,hst,hpr,hbel⟩:=hrel;have HSt:=A0 hst;have HPr:=A0 hpr;have HBel:=A0 hbel;have hlo2:=hst.lo;clear hst hpr hbel;by_cases hlt:n<xs.length
  ·have HPrm2:Hid (C1 D wr 174 4 (.slice pa xs.length pc) xs.length (Jc xs)):=HPrm.o.keep (fun g hg _=>⟨HBel.o.block g hg,hg⟩);obtain⟨g,rfl,_,hcap,lg,hcell⟩:=Fs HPrm2.o.1 (by omega);have d1:=hcell (n*4+1) (.string ⟨xs[n].2.toArray⟩) (by rw[U5 xs n 1 hlt (by omega)];rfl);have d3:=hcell (n*4+3) (.int .i64 (xs[n].1.line:Nat)) (by rw[U5 xs n 3 hlt (by omega)];rfl);have glo:D g:=HPrm2.o.2 g rfl;have hxp:ps[n]?=some (xs[n].1.line,xs[n].2):=by rw[←HPs.o,List.getElem?_map,List.getElem?_eq_getElem hlt];rfl
   have HStep:Hid (Ge (ps.drop n) cp fp=Ge (ps.drop (n+1)) (cp++[xs[n].2]) (Bu (decide (xs[n].2∈cp)) 3 xs[n].1.line fp)):=by
    show _=_;have hlp:n<ps.length:=by omega
    rw[List.getElem?_eq_getElem hlp]at hxp;rw[Vs ps n hlp,Option.some.inj hxp]
   clear hcell hxp;generalize xs[n]=x at *;go_wp2_with fail
   refine(Z3 HSt.o.st (by rw[List.length_append,HLen.o];omega) x.2).mono ?_;rintro e w2 ⟨rfl,Av,hbl2⟩;have Et:=A0 (HSt.o.next Av (Ok hbl2 hlo2));have Ai:Hid (A4 D wr w2):=Ok hbl2 hlo2;have d1':=(World.cell?_of_block (Ai.o.block g glo)).trans d1;have d3':=(World.cell?_of_block (Ai.o.block g glo)).trans d3;have lg2:g<w2.heap.size:=Nat.lt_of_lt_of_le lg Ai.o.size;clear Av hbl2 d1 d3;go_wp2_with fail
   refine(Nz Et.o.st (decide (x.2∈cp)) 3 x.1.line _ _ rfl rfl).mono ?_;rintro e w3 ⟨rfl,At,Fi⟩;have Hf:=A0 (Et.o.next At Fi);have B4:Hid (A4 D wr w3):=A4.trans Ai.o Fi;have d1:=(World.cell?_of_block (Fi.block g glo)).trans d1';have lg3:g<w3.heap.size:=Nat.lt_of_lt_of_le lg2 Fi.size;clear At Fi d1' d3';go_wp2_with fail
   refine(Zd Hf.o.st (by rw[List.length_append,HLen.o];omega) Hf.o.lo x.2).mono ?_;rintro e w4 ⟨rfl,Dx,hbl4⟩;have HSt4:=A0 (Hf.o.next Dx hbl4);have Dm:Hid (A4 D w w4):=A4.trans HBel.o (A4.trans B4.o hbl4);clear Dx hbl4 d1;go_wp2;go_roundg (gk-1)
   case measure=>omega
   case rel=>exact⟨n+1,cp++[x.2],_,rfl,by omega,by simp;omega,HSt4.o,HStep.o.symm.trans HPr.o,Dm.o⟩
  ·have HEnd:Hid ((cp,fp)=Ge ps [] f):=(Vr ps n (by omega) cp fp).symm.trans HPr.o;clear HPr;have hcpl:cp.length=xs.length:=by omega
   go_wp2;go_loopg [9] (A8 c) (fun k v wr=>∃(n:Nat) (cn:List Nm) (fn:B3),v=.int .i64 n/\n+k=A8 c/\cn.length+bsize (Au n c)<=cp.length+bsize c/\K.St D wr (outer++cur) bs cn (blk+1) wh inn fn/\Ag K.fns (Au n c) (outer++cur) cn wh inn fn=Ag K.fns c (outer++cur) cp wh inn fp/\A4 D w wr)
   case atStart=>exact⟨0,cp,fp,rfl,by omega,Nat.le_refl _,HSt.o,rfl,HBel.o⟩
   case round=>
    clear HSt HBel hlo2 hlt hnk hcp;obtain⟨n,cn,fn,rfl,hnk,hcn,hst,hse,hbel⟩:=hrel;have HSt:=A0 hst;have HSe:=A0 hse;have HBel:=A0 hbel;have hlo2:=hst.lo;have hbc:=HLen.o;clear hst hse hbel;by_cases hlt:n<A8 c
    ·have hk:∀g,D g->g<w.heap.size->wr.heap[g]?=w.heap[g]?/\D g:=fun g hg _=>⟨HBel.o.block g hg,hg⟩;obtain⟨x,y,l,cc,r,hd,ln,mm,S,Ev,G2,Ew,Eg,Gd,Eh,c2,hrt,k0,k1,k2,k3,k4,k5⟩:=Ak.at' n c c1 HShp.o (Ak.keep hk _ _ HRep.o) hlt;obtain⟨g,rfl,_,hcap,lg,hcell⟩:=Fs (HOwn.o.keep hk).1 (by omega);have d0:=hcell _ _ k0;have d1:=hcell _ _ k1;have d2:=hcell _ _ k2;have d3:=hcell _ _ k3;have d4:=hcell _ _ k4;have d5:=hcell _ _ k5;have h32:l.kd≠32:=by have:=N2 n c HT.o;rw[hd]at this;exact this.1
     have hw:wh+Cy l.kd=wh:=by unfold Cy;rw[if_neg h32];rfl
     have hsz:bsize (Au n c)=bsize (nd l cc)+bsize r:=by rw[hd,B8,bsize]
     have hdn:=M4 n c;have HNd:=A0 (HOk.o n x y l cc r hd);have HDs:=A0 (Ko n c x y l cc r hd);have HRt:=A0 hrt;have HSx:=A0 ((congrArg (fun q=>Ag K.fns q (outer++cur) cn wh inn fn) hd).trans (Mi K.fns x y l cc r (outer++cur) cn wh inn fn));have hcur:=M8 K.fns (nd l cc) (outer++cur) cn wh inn fn;have HW:=A0 hw;clear hcell k0 k1 k2 k3 k4 k5 hd hrt hw h32;go_wp2_with fail
     refine(HNd.o D wr (outer++cur) bs cn (blk+1) wh inn fn ln mm S Ev G2 Ew Eg Gd Eh c2 (by rw[HW.o];exact HSt.o) HRt.o (by rw[List.length_append,hbc];omega) (by omega) (by omega)).mono ?_;rintro e w2 ⟨rfl,Av,hbl2⟩;rw[HW.o]at Av;have Et:=A0 Av;have Ai:Hid (A4 D w w2):=A4.trans HBel.o hbl2;clear Av hbl2;go_wp2;go_roundg (gk-1)
     case measure=>omega
     case rel=>exact⟨n+1,_,_,rfl,by omega,by rw[HDs.o];omega,Et.o,by rw[HDs.o,←HSx.o];exact HSe.o,Ai.o⟩
    ·have HE:Hid ((cn,fn)=Ag K.fns c (outer++cur) cp wh inn fp):=by
      have h0:Au n c=.nil:=Ms _ (by rw[L4];omega);have:=HSe.o;rw[h0]at this;exact this
     clear HSe;obtain⟨na',nn',nc',ba',bn',bc',bs',h'⟩:=HSt.o.st;obtain⟨z0,z1,z2,z3,z4,z5,z6,z7,fz,lz⟩:=Gn h'.cell;have HH':=A0 h';have hc1:nn<=nc':=by have:=Vk h'.names;simp only[List.length_append]at this hbc;omega
     have hc2:nn<=bc':=by have:=Vk h'.blocks;have:=h'.len;simp only[List.length_append]at this hbc;omega
     clear h';go_wp2;go_end0;have hbel:A4 D w (((wr.setCell ⟨K.sb,3,none⟩ (.int .i64 (blk:Nat))).setCell ⟨K.sb,1,none⟩ (.slice na' nn nc')).setCell ⟨K.sb,2,none⟩ (.slice ba' nn bc')):=A4.set (p:=⟨K.sb,2,none⟩) (A4.set (p:=⟨K.sb,1,none⟩) (A4.set (p:=⟨K.sb,3,none⟩) HBel.o HH'.o.Di _) HH'.o.Di _) HH'.o.Di _;have hf:fn=(Ag K.fns c (outer++cur) (Ge (xs.map (fun x=>(x.1.line,x.2))) [] f).1 wh inn (Ge (xs.map (fun x=>(x.1.line,x.2))) [] f).2).2:=by
      rw[HPs.o,←HEnd.o];exact congrArg Prod.snd HE.o
     rw[←hf];have hx:=HH'.o;rw[HBs.o]at hx;refine⟨rfl,⟨⟨na',nn,nc',ba',nn,bc',ob++List.replicate cur.length blk,?_⟩,HFr.o.keep hbel,fun g hg=>Nat.lt_of_lt_of_le (hlo g hg) hbel.size⟩,hbel⟩;have hcl:=Kk.closed (w':=((wr.setCell ⟨K.sb,3,none⟩ (.int .i64 (blk:Nat))).setCell ⟨K.sb,1,none⟩ (.slice na' nn nc')).setCell ⟨K.sb,2,none⟩ (.slice ba' nn bc')) HH.o.bsE.2 HH.o.obs hx ?_ (fun g _ hne=>?_)
     ·rw[hbc]at hcl;exact hcl
     ·rw[hbc];have:=heap_set (j:=2) (heap_set (j:=1) (heap_set (j:=3) HH'.o.cell (.int .i64 (blk:Nat))) (.slice na' nn nc')) (.slice ba' nn bc');simpa using this
     ·rw[Below.heap_setCell _ _ _ _ (by exact hne),Below.heap_setCell _ _ _ _ (by exact hne),Below.heap_setCell _ _ _ _ (by exact hne)]
end
section
set_option maxRecDepth 100000
open Go.RowKit
open Go.Deep (BT)
variable {K:Ctx}{D:Nat->Prop}{w:World}{outer:List Nm}{ob:List Nat}{cur:List Nm}{blk wh:Nat}{inn:Bool}{f:B3}
theorem L9.weak{D E:Nat->Prop}{sb pb te:Nat}{w:World}{outer cur:List Nm}{ob:List Nat}{blk wh:Nat}{inn:Bool}{f:B3}(h:L9 D sb pb te w outer ob cur blk wh inn f)(he:∀g,E g->D g):L9 E sb pb te w outer ob cur blk wh inn f:=by
 obtain⟨na,nn,nc,ba,bn,bc,bs,h⟩:=h;exact⟨na,nn,nc,ba,bn,bc,bs,⟨h.cell,h.names,h.blocks,h.len,h.out,h.inn',fun e=>h.Di (he _ e),fun g hg=>⟨fun e=>(h.C5 g hg).1 (he _ e),(h.C5 g hg).2⟩,fun g hg=>⟨fun e=>(h.Ed g hg).1 (he _ e),(h.Ed g hg).2⟩,h.few,h.bsE⟩⟩
theorem Ctx.St.Lw(h:K.St D w outer ob cur blk wh inn f)(o:Obj):K.St (fun g=>D g\/g=w.heap.size) (w.alloc o) outer ob cur blk wh inn f:=by
 obtain⟨⟨na,nn,nc,ba,bn,bc,bs,hs⟩,hf,hl⟩:=h;have hk:∀g,g<w.heap.size->(w.alloc o).heap[g]?=w.heap[g]?:=fun g hg=>Below.heap_alloc _ _ _ hg;have ls:=A5 hs.cell;refine⟨⟨na,nn,nc,ba,bn,bc,bs,?_⟩,?_,?_⟩
 ·have h2:=hs.keep hk;exact⟨h2.cell,h2.names,h2.blocks,h2.len,h2.out,h2.inn',fun e=>by rcases e with e|e;exact hs.Di e;omega,fun g hg=>⟨fun e=>by rcases e with e|e;exact(hs.C5 g hg).1 e;have:=Ca hs.names g hg;omega,(hs.C5 g hg).2⟩,fun g hg=>⟨fun e=>by rcases e with e|e;exact(hs.Ed g hg).1 e;have:=Ca hs.blocks g hg;omega,(hs.Ed g hg).2⟩,h2.few,h2.bsE⟩
 ·have h2:=hf.keep (A4.alloc (A4.refl D w) hl o);refine⟨h2.cell,.inl h2.lt,h2.len,h2.few,fun i hi=>?_⟩;obtain⟨g,e1,e2,e3⟩:=h2.at' i hi;exact⟨g,e1,.inl e2,e3⟩
 ·intro g hg;rcases hg with e|e
  ·have:=hl g e;simp;omega
  ·simp;omega
theorem Md(h:K.St D w outer ob cur blk wh inn f)(o:Obj):A4 D w (w.alloc o):=A4.alloc (A4.refl D w) h.lo o
theorem Ctx.St.back{K:Ctx}{D:Nat->Prop}{x:Nat}{w w':World}{outer outer':List Nm}{ob ob':List Nat}{cur cur':List Nm}{blk blk' wh wh':Nat}{inn inn':Bool}{f f':B3}(h:K.St D w outer ob cur blk wh inn f)(h2:L9 (fun g=>D g\/g=x) K.sb K.pb K.te w' outer' ob' cur' blk' wh' inn' f')(hb:A4 D w w'):K.St D w' outer' ob' cur' blk' wh' inn' f':=h.next (h2.weak (fun _ hg=>.inl hg)) hb
def Q8(kd:Nat):Bool:=decide (kd<=140)&&(decide (kd<=30)||decide (127<=kd))&&!(kd==6||kd==7||kd==8||kd==20||kd==21||kd==23||kd==24||kd==25||kd==26||kd==28)
theorem A8j:∀kd,kd<=140->Q8 kd=true->(kd≠32/\(Dy kd==[98,108,111,99,107])=false/\(Dy kd==[108,101,116])=false/\(Dy kd==[110,97,109,101])=false/\(Dy kd==[115,101,116])=false/\(Dy kd==[99,97,108,108])=false/\(Dy kd==[98,114,101,97,107])=false/\(Dy kd==[99,111,110,116,105,110,117,101])=false/\(Dy kd==[114,101,116,117,114,110])=false/\(Dy kd==[119,104,105,108,101])=false):=by decide +kernel
theorem Aax(fns:List (Nm×Nat))(l:A2)(c:BT A2)(outer cur:List Nm)(wh:Nat)(inn:Bool)(f:B3)(h:Q8 l.kd=true)(h32:l.kd≠32)(h31:l.kd≠31):Ag fns (nd l c) outer cur wh inn f=Ag fns c outer cur wh inn f:=by
 unfold Q8 at h;simp only[Bool.and_eq_true,Bool.not_eq_true',Bool.or_eq_false_iff,beq_eq_false_iff_ne]at h;obtain⟨_,⟨⟨⟨⟨⟨⟨⟨⟨⟨h6,h7⟩,h8⟩,h20⟩,h21⟩,h23⟩,h24⟩,h25⟩,h26⟩,h28⟩⟩:=h;unfold nd;rw[Ag,if_neg h31,if_neg h32,if_neg h21];simp only[h6,h28,h7,h25,h26,h24,or_self,if_false,Ag]
theorem A7k(K:Ctx)(l:A2)(c:BT A2)(hkd:Q8 l.kd=true)(hok:Mc K c)(hshp:Hs c)(F2:Dq c):Lo K l c:=by
 have h140:l.kd<=140:=by unfold Q8 at hkd;simp only[Bool.and_eq_true,decide_eq_true_eq]at hkd;exact hkd.1.1
 have h31:l.kd≠31:=by unfold Q8 at hkd;simp only[Bool.and_eq_true,Bool.or_eq_true,decide_eq_true_eq]at hkd;omega
 obtain⟨J4,t1,t2,t3,t4,t5,t6,t7,t8,t9⟩:=A8j l.kd h140 hkd;have hsens:=fun(outer cur:List Nm) (wh:Nat) (inn:Bool) (f:B3)=>Aax K.fns l c outer cur wh inn f hkd J4 h31;clear h140 h31 hkd;intro D w outer ob cur blk wh inn f ln nn S va vn vc pa pn pc c1 hst hrt A3 A9 Ar;have Ig:wh+Cy l.kd=wh:=by unfold Cy;rw[if_neg J4];rfl
 rw[Ig]at hst ⊢;have HSens:=A0 (hsens outer cur wh inn f);have Dk:=A0 hst;have Gg:=A0 hrt;have E9:=A0 (hst.Lw (.cells #[.string ⟨(Dy l.kd).toArray⟩,.int .i64 ln,.string ⟨S.toArray⟩,.int .i64 nn,.slice va vn vc,.slice pa pn pc] 77));have HOk:=A0 hok;have HShp:=A0 hshp;have HT:=A0 F2;have hvn:vn=A8 c:=(C9 hrt.own.1).1;have hbls:=Kl c;have hnds:=B8 l c;have Ie:Ji (fun g=>D g\/g=w.heap.size) (w.alloc (.cells #[.string ⟨(Dy l.kd).toArray⟩,.int .i64 ln,.string ⟨S.toArray⟩,.int .i64 nn,.slice va vn vc,.slice pa pn pc] 77)) l c ln nn S va vn vc pa pn pc c1:=hrt.keep (fun g hg hl=>⟨Below.heap_alloc _ _ _ hl,.inl hg⟩);have HRt1':=A0 Ie;subst hvn;obtain⟨w1,Bm⟩:∃w1,w1=w.alloc (.cells #[.string ⟨(Dy l.kd).toArray⟩,.int .i64 ln,.string ⟨S.toArray⟩,.int .i64 nn,.slice va (A8 c) vc,.slice pa pn pc] 77):=⟨_,rfl⟩;have Hr:Hid (Ji (fun g=>D g\/g=w.heap.size) w1 l c ln nn S va (A8 c) vc pa pn pc c1):=by rw[Bm];exact HRt1'.o
 have Ea:Hid (w1.heap[w.heap.size]?=some (.cells #[.string ⟨(Dy l.kd).toArray⟩,.int .i64 ln,.string ⟨S.toArray⟩,.int .i64 nn,.slice va (A8 c) vc,.slice pa pn pc] 77)):=by show _=_;rw[Bm];exact heap_alloc_new w (.cells #[.string ⟨(Dy l.kd).toArray⟩,.int .i64 ln,.string ⟨S.toArray⟩,.int .i64 nn,.slice va (A8 c) vc,.slice pa pn pc] 77)
 have Br:Hid (A4 D w w1):=by rw[Bm];exact Md Dk.o (.cells #[.string ⟨(Dy l.kd).toArray⟩,.int .i64 ln,.string ⟨S.toArray⟩,.int .i64 nn,.slice va (A8 c) vc,.slice pa pn pc] 77)
 have HEq:=A0 Bm;have hsw1:w1.heap.size=w.heap.size+1:=by rw[Bm];simp
 have K4:=A0 Gg.o.line;have HNm0:=A0 Gg.o.name;clear hsens hst hrt Ie hok hshp F2 Ig J4 Bm HRt1' Gg;have Et:=E9;have Ai:Hid (A4 (fun g=>D g\/g=w.heap.size) w1 (w.alloc (.cells #[.string ⟨(Dy l.kd).toArray⟩,.int .i64 ln,.string ⟨S.toArray⟩,.int .i64 nn,.slice va (A8 c) vc,.slice pa pn pc] 77))):=by rw[HEq.o];exact A4.refl _ _
 go_enter Tryz.func64,Tryz.ntmps64;go_wp2;go_loopg [7] (A8 c) (fun k v wr=>∃(n:Nat) (cn:List Nm) (fn:B3),v=.int .i64 n/\n+k=A8 c/\cn.length+bsize (Au n c)<=(cur).length+bsize c/\K.St (fun g=>D g\/g=w.heap.size) wr outer ob cn blk wh inn fn/\Ag K.fns (Au n c) outer cn wh inn fn=Ag K.fns c outer (cur) wh inn (f)/\A4 (fun g=>D g\/g=w.heap.size) w1 wr)
 case atStart=>exact⟨0,cur,f,rfl,by omega,Nat.le_refl _,Et.o,rfl,Ai.o⟩
 case round=>
  clear Et Ai;obtain⟨n,cn,fn,rfl,hnk,hcn,hst,hse,hbel⟩:=hrel;have hX:=(hbel.block w.heap.size (.inr rfl)).trans Ea.o;obtain⟨x0,x1,x2,x3,x4,x5,fX,lX⟩:=As hX;have HSt:=A0 hst;have HSe:=A0 hse;have HBel:=A0 hbel;clear hst hse hbel;by_cases hlt:n<A8 c
  ·have hk:∀g,(D g\/g=w.heap.size)->g<w1.heap.size->wr.heap[g]?=w1.heap[g]?/\(D g\/g=w.heap.size):=fun g hg _=>⟨HBel.o.block g hg,hg⟩;obtain⟨x,y,l',cc,r,hd,ln',mm,S',Ev,G2,Ew,Eg,Gd,Eh,c2,hrt,k0,k1,k2,k3,k4,k5⟩:=Ak.at' n c c1 HShp.o (Ak.keep hk _ _ Hr.o.kids) hlt;obtain⟨g,rfl,_,hcap,lg,hcell⟩:=Fs (Hr.o.own.keep hk).1 (by omega);have d0:=hcell _ _ k0;have d1:=hcell _ _ k1;have d2:=hcell _ _ k2;have d3:=hcell _ _ k3;have d4:=hcell _ _ k4;have d5:=hcell _ _ k5;have h32:l'.kd≠32:=by have:=N2 n c HT.o;rw[hd]at this;exact this.1
   have hw:wh+Cy l'.kd=wh:=by unfold Cy;rw[if_neg h32];rfl
   have hsz:bsize (Au n c)=bsize (nd l' cc)+bsize r:=by rw[hd,B8,bsize]
   have hdn:=M4 n c;have HNd:=A0 (HOk.o n x y l' cc r hd);have HDs:=A0 (Ko n c x y l' cc r hd);have HRt:=A0 hrt;have HSx:=A0 ((congrArg (fun q=>Ag K.fns q outer cn wh inn fn) hd).trans (Mi K.fns x y l' cc r outer cn wh inn fn));have hcur:=M8 K.fns (nd l' cc) outer cn wh inn fn;have HW:=A0 hw;clear hcell hd hrt hw h32;clear k0 k1 k2 k3 k4 k5;go_wp2_with fail
   refine(HNd.o _ wr outer ob cn blk wh inn fn ln' mm S' Ev G2 Ew Eg Gd Eh c2 (by rw[HW.o];exact HSt.o) HRt.o (by simp only[List.length_append]at A3 ⊢;omega) (by omega) (by omega)).mono ?_;rintro e w3 ⟨rfl,At,Fi⟩;rw[HW.o]at At;have Hf:=A0 At;have B4:Hid (A4 (fun g=>D g\/g=w.heap.size) w1 w3):=HBel.o.trans Fi;clear At Fi;go_wp2;go_roundg (gk-1)
   case measure=>omega
   case rel=>exact⟨n+1,_,_,rfl,by omega,by rw[HDs.o];omega,Hf.o,by rw[HDs.o,←HSx.o];exact HSe.o,B4.o⟩
  ·have HE:Hid ((cn,fn)=Ag K.fns c outer (cur) wh inn (f)):=by
    have h0:Au n c=.nil:=Ms _ (by rw[L4];omega);have:=HSe.o;rw[h0]at this;exact this
   clear HSe;go_wp2;go_end0;have hbl:=Br.o.trans (HBel.o.weak (fun g hg=>.inl hg));rw[HSens.o,←HE.o];exact⟨rfl,Dk.o.back HSt.o.st hbl,hbl⟩
end
end Go.Proofs.YtjdlndhfaaolaaaGreatDoor
