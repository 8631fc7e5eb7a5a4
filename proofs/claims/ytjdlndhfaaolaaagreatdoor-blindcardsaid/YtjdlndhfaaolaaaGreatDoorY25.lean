import Derived.Test.YtjdlndhfaaolaaaGreatDoorY24
set_option maxHeartbeats 20000000
set_option linter.all false
namespace Go.Proofs.YtjdlndhfaaolaaaGreatDoor
section
set_option maxRecDepth 100000
open Go.RowKit
open Go.Deep (BT)
def z09a {P:Prop} (h:P:=by
  repeat (first|exact Al _ _|refine Ah ?_ z4ra _|refine B0 ?_ z4ra _|refine B8 ?_)):P:=h
def Yh(n:Int)(w:World):Calls Tryz.prog 85 #[.i n] w fun e w'=>e=.returned (.agg #[.i 2,.bool false,.i n,.string ⟨#[]⟩,.pointer none])/\Bw w w':=by
 go_in;go_wp2;refine B9 (v:=.agg #[.i 2,.bool false,.i n,.string ⟨#[]⟩,.pointer none]) (by simp[results,Tryz.results85,go_sem]) rfl ⟨rfl,?_⟩;exact z09a
def A1u(s:ByteArray)(w:World):Calls Tryz.prog 86 #[.string s] w fun e w'=>e=.returned (.agg #[.i 3,.bool false,.i 0,.string s,.pointer none])/\Bw w w':=by
 go_in;go_wp2;refine B9 (v:=.agg #[.i 3,.bool false,.i 0,.string s,.pointer none]) (by simp[results,Tryz.results86,go_sem]) rfl ⟨rfl,?_⟩;exact z09a
def A1t(b:Bool)(w:World):Calls Tryz.prog 87 #[.bool b] w fun e w'=>e=.returned (.agg #[.i 1,.bool b,.i 0,.string ⟨#[]⟩,.pointer none])/\Bw w w':=by
 go_in;go_wp2;refine B9 (v:=.agg #[.i 1,.bool b,.i 0,.string ⟨#[]⟩,.pointer none]) (by simp[results,Tryz.results87,go_sem]) rfl ⟨rfl,?_⟩;exact z09a
def Wx{D:Nat->Prop}{wb te:Nat}{w:World}{fs gs ls ps:Value}{slots:Nat}{st:List Aa}(h:Mc D wb te w fs gs ls ps slots st)(hn:st.length<=900000)(v:PV) :
  Calls Tryz.prog 84 #[.p wb,.agg #[.n v.k,.bool v.y,.i v.n,.s v.t,.pointer none]] w fun e w'=>e=.returned (.tuple #[])/\Mc D wb te w' fs gs ls ps slots (st++[⟨0,0,0,v⟩])/\A3 D w w':=by
 have h0:Mc D wb te (w.alloc (.cells #[.n v.k,.bool v.y,.i v.n,.s v.t,.pointer none] 225)) fs gs ls ps slots st:=h.keep (fun g hg=>Ck _ _ _ hg) z4ra;have Bq:A3 D w (w.alloc (.cells #[.n v.k,.bool v.y,.i v.n,.s v.t,.pointer none] 225)):=by
  obtain⟨_,_,_,h⟩:=h;exact(A3.refl D w).alloc h.lo _
 have Fz:=Bp w (.cells #[.n v.k,.bool v.y,.i v.n,.s v.t,.pointer none] 225);clear h;generalize hW:w.alloc (.cells #[.n v.k,.bool v.y,.i v.n,.s v.t,.pointer none] 225)=w0 at *;generalize hxb:w.heap.size=xb at *;have HW:=A0 hW;have HXb:=A0 hxb;clear hW hxb;have Ag:=A0 Bq;obtain⟨sa,sn,sc,h⟩:=h0;have c:=A4 h.cell 5 _ rfl;have lb:=A6 h.cell;have hv:sn=st.length:=(Cm h.own).1;subst hv;have x0:=A4 Fz 0 _ rfl;have x1:=A4 Fz 1 _ rfl;have x2:=A4 Fz 2 _ rfl;have x3:=A4 Fz 3 _ rfl;have x4:=A4 Fz 4 _ rfl;have lx:=A6 Fz;have hown:w0.drew.ownsRow 0 251 8 (.slice sa st.length sc) st.length (F7 st):=Bc h.own (fun _ _ _=>rfl);have HH:=A0 h;have HP:=fun(w1:World) (g cap:Nat)=>h.A8k ⟨0,0,0,v⟩ (w1:=w1) (g:=g) (cap:=cap);clear h Bq Fz;go_in;go_wp2;rw[HW.o,HXb.o];go_region_law (refine Pt _ w0.heap.size #[.i 0,.i 0,.i 0,.n v.k,.bool v.y,.i v.n,.s v.t,.pointer none] 251 (Bp w0.drew _) rfl (.tmp 9) (.tmp 12) 96 rfl 0 8 72 _ Tryz.underlying96 A1e rfl z4ma (.slice sa st.length sc) st.length (F7 st) rfl rfl (hown.alloc _) rfl (fun v hv=>by simp at hv;rcases hv with rfl|rfl|rfl|rfl|rfl|rfl|rfl|rfl <;> rfl) z4ma z4ma (De _) ?_;intro g cap w1 Ev hgrow' hat' hg;have Fy:=Oh (Oo w0.drew _ none) hgrow';have hgrow:w0.grownBy w1 (Value.slice sa st.length sc).ownBlock:=⟨Fy.os,Fy.tape,Fy.output,Fy.size,Fy.block⟩;clear Fy;have hat:(Value.slice sa st.length sc).ownBlock=some g\/w0.heap.size<=g:=hat'.imp id (fun e=>by rw[e];simp);have A2:=(hgrow.block wb lb (fun e=>(HH.o.Dn wb e.symm).2 rfl)).trans HH.o.cell;have c1:=A4 A2 5 _ rfl;have f1:=By A2;have Bn:=A6 A2;have Cn:=A0 (HP w1 g cap Ev hgrow hat);clear A2 Ev hgrow hat hgrow' hat')
 all_goals go_wp2
 all_goals go_end0
 all_goals exact⟨rfl,⟨_,_,_,Cn.o.1⟩,Ag.o.trans Cn.o.2⟩
def J3.Alq{D:Nat->Prop}{w:World}{wb te:Nat}{fs gs ls ps:Value}{slots:Nat}{st:List Aa}{g sn sc:Nat}(h:J3 D wb te w fs gs ls ps slots st (some ⟨g,0,none⟩) sn sc)(j:Nat)(hj:j<st.length)(a:Int) :
  J3 D wb te (w.setCell ⟨g,j*8+1,none⟩ (.i a)) fs gs ls ps slots (Gy j a st) (some ⟨g,0,none⟩) sn sc/\A3 D w (w.setCell ⟨g,j*8+1,none⟩ (.i a)):=by
 have hg:=h.Dn g rfl;obtain⟨hl,⟨h2,h3⟩|⟨g',cap,cur,hv,_,hb,hcap,hmx,hsz,ht⟩⟩:=h.own
 ·cases h2
 injection hv with e1 e2 e3;injection e1 with e1;injection e1 with e1;subst e1 e2 e3;refine⟨⟨(Bh _ _ _ _ (by exact fun e=>hg.2 e.symm)).trans h.cell,⟨?_,.inr ⟨g,sc,cur.setIfInBounds (j*8+1) (.i a),?_,De _,heap_set hb _,?_,hmx,?_,?_⟩⟩,h.Ig,h.Dn,fun k hk=>by have:=h.lo k hk;simp[World.setCell];exact this⟩,(A3.refl D w).set hg.1 _⟩
 ·rw[Akq,Sy]
 ·rw[Sy]
 ·rw[Sy];exact hcap
 ·simpa using hsz
 ·rw[Sy,Akp a st j hj,V4,←ht,List.take_set]
def Z4{D:Nat->Prop}{wb te:Nat}{w:World}{fs gs ls ps:Value}{slots:Nat}{st:List Aa}(h:Mc D wb te w fs gs ls ps slots st)(j:Nat)(hj:j<st.length) :
  Calls Tryz.prog 140 #[.p wb,.n j] w fun e w'=>e=.returned (.tuple #[])/\Mc D wb te w' fs gs ls ps slots (Gy j (st.length:Nat) st)/\A3 D w w':=by
 have HHere:=A1c (h.keep (w':=w.drew) (fun _ _=>rfl) (Af _));obtain⟨sa,sn,sc,h⟩:=h;have c:=A4 h.cell 5 _ rfl;have lb:=A6 h.cell;have hv:sn=st.length:=(Cm h.own).1;subst hv;obtain⟨hl,⟨h2,h3⟩|⟨g,cap,cur,hv,_,hb,hcap,hmx,hsz,ht⟩⟩:=h.own
 ·omega
 injection hv with e1 _ e3;subst e1 e3;have HL:=h.Alq j hj (st.length:Nat);have fg:=By hb;have lg:=A6 hb;have cg:w.cell? ⟨g,j*8+1,none⟩=some cur[j*8+1]:=by rw[K2 w g (j*8+1) cur _ _ hb,Li z4ma]
 generalize cur[j*8+1]=oldc at cg;have HB:A3 D w w.drew:=⟨rfl,rfl,rfl,Af _,fun _ _=>rfl⟩;go_in;go_wp2;refine Jt 10 (by kernel_rfl) (by kernel_rfl) ?_;simp only[Jh,J1,Ia,Hl];iterate 7 (refine Fm (fun K' hK'=>?_);go_simp;refine hK' _ ?_;clear hK' K')
 refine Fm (fun K' hK'=>?_);go_simp;refine⟨_,HHere,hK' _ ?_⟩;iterate 2 (refine Fm (fun K' hK'=>?_);go_simp;refine hK' _ ?_;clear hK' K')
 refine Js ?_;go_wp2;go_end0;exact⟨rfl,Mc.keep ⟨_,_,_,HL.1⟩ (fun _ _=>rfl) (Af _),HL.2.trans ⟨rfl,rfl,rfl,Af _,fun _ _=>rfl⟩⟩
def Awa{D:Nat->Prop}{wb te:Nat}{w:World}{gs ls ps:Value}{slots:Nat}{st:List Aa}{fns:List (Nm×Nat)}{fa:Option Addr}{fn fc:Nat}(h:Mc D wb te w (.slice fa fn fc) gs ls ps slots st)(hf:Jq D w fns fa fn fc)(s:Nm) :
  Calls Tryz.prog 142 #[.p wb,.s s] w fun e w'=>e=.returned (.i (Lo fns s))/\w'=w:=by
 obtain⟨sa,sn,sc,h⟩:=h;have c:=A4 h.cell 0 _ rfl;have lb:=A6 h.cell;have hfew:=hf.C1;have hcap:=hf.cap;have hlen:=hf.len;subst hlen;go_in;go_wp2;go_loopg [12] fns.length (fun q v wr=>∃i:Nat,v=.i i/\i+q=fns.length/\(∀j,j<i->∀h':j<fns.length,fns[j].1≠s)/\wr=w)
 case atStart=>exact⟨0,rfl,by omega,fun i hi=>by omega,rfl⟩
 case round=>
  obtain⟨i,rfl,hik,hno,rfl⟩:=hrel;by_cases hlt:i<fns.length
  ·obtain⟨g,pb,pa,pc,rfl,_,lg,cg,_,lp,c1,c2⟩:=hf.at' i hlt;have HI:fns[i].1=s->Lo fns s=(i:Nat):=by
    intro e;unfold Lo;rw[A65 s (fns.map Prod.fst) i (by simpa using hlt) (by simpa using e) (fun j hj hji=>by simpa using hno j hji z5ga)]
   have HS:fns[i].1≠s->∀j,j<i+1->∀h':j<fns.length,fns[j].1≠s:=by
    exact z3ua
   generalize fns[i]=x at *;cases hq:(x.1==s)
   ·exact z2ja
   ·have HQ:Hid (x.1=s):=A0 (by simpa using hq);have HE:=HI HQ.o;go_wp2;go_ret;exact⟨A22 HE.symm,rfl⟩
  ·have HT:Hid (Lo fns s=-1):=by
    show _=_;unfold Lo;rw[A64 s (fns.map Prod.fst) (fun j hj=>by simpa using hno j (by simp at hj;omega) z5ga)]
   go_wp2;go_ret;exact⟨A22 HT.o.symm,rfl⟩
def EC.Ex.stk{K:EC}{D:Nat->Prop}{w:World}{la:Option Addr}{ln lc:Nat}{ps:Value}{e:Em}{sa:Option Addr}{sn sc:Nat}(h:K.Ex D w la ln lc ps e)(hv:J3 D K.wb K.te w (.slice K.fa K.fn K.fc) (.slice K.ga K.gn K.gc) (.slice la ln lc) ps e.slots e.st sa sn sc) :
  H9 9 K.wb 2 w #[.slice K.fa K.fn K.fc,.slice K.ga K.gn K.gc,.slice la ln lc,ps,.n e.slots,.slice sa sn sc] K.te la ln lc (Dx e.loc):=
 ⟨hv.cell,rfl,by have:=h.lr.1;rwa [show e.loc.length=(Dx e.loc).length by simp[Dx]]at this,fun e=>hv.Ig (h.lr.2 _ e)⟩
def A7w{l:List Nm}{i:Nat}(h:i<l.length):(Dx l)[i]'(by simp[Dx];exact h)=.string ⟨l[i].toArray⟩:=by simp[Dx,Ql]
def Rn(l:List Nm):(Dx l).length=l.length:=by simp[Dx]
def z2fa {P:Prop} (h:P:=by
  have Ab:=A0 Ad;clear Bj Ad;go_wp2;refine B9 (v:=.tuple #[]) (by simp[results,Tryz.results88,go_sem]) rfl ?_;rw[HV.o];exact⟨rfl,Au.o,Ab.o⟩):P:=h
def Aak{K:EC}{D:Nat->Prop}{w:World}{la:Option Addr}{ln lc:Nat}{ps:Value}{e:Em}(h:K.Ex D w la ln lc ps e)(hn:e.st.length<=900000)(s:Nm)(lo gb:Nat) :
  Calls Tryz.prog 88 #[.p K.wb,.s s,.n lo,.n gb] w fun r w'=>r=.returned (.tuple #[])/\K.Ex D w' la ln lc ps (e.var K.gl s lo gb)/\A3 D w w':=by
 have HX:=A0 h;obtain⟨sa,sn,sc,hv⟩:=h.ew;have hfew:=h.C1;obtain⟨c0,c1,c2,c3,c4,c5,fz,lb⟩:=Xr hv.cell;have HL:=Un (h.stk hv);rw[Rn]at HL;have HA:=fun i hi=>A8v (h.stk hv) i hi;have hgr:=h.gr.1;have hgn:K.gn=K.gl.length:=(Cm hgr).1;obtain⟨ga,hga⟩:∃ga,ga=K.ga:=⟨_,rfl⟩;rw[←hga]at c1 hgr;have HGr:=A0 hgr;have HSt:=fun(op:Nat) (arg:Int)=>N1 h.ew hn op arg 0;rw[hgn]at c1;clear h hv hgr hgn c0 c2 c3 c4 c5 fz hga;go_in;go_wp2_with fail
 refine HL.mono ?_;rintro r w ⟨rfl,rfl⟩;go_wp2;go_loopg [8] e.loc.length (fun k v wr=>v=.i ((k:Int)-1)/\k<=e.loc.length/\(∀j (h:j<e.loc.length),k<=j->e.loc[j]≠s)/\wr=w)
 case atStart=>exact⟨rfl,Af _,fun j h h'=>by omega,rfl⟩
 case round=>
  obtain⟨rfl,hk,hno,rfl⟩:=hrel;have HNo:=A0 hno;clear hno;by_cases hlt:0<gk
  ·obtain⟨i,rfl⟩:∃i,gk=i+1:=⟨gk-1,by omega⟩;have hi:i<e.loc.length:=by omega
   have HA1:=HA i (by rw[Rn];exact hi);rw[A7w hi]at HA1;have hpi:(((i+1:Nat):Int)-1)=(i:Int):=by omega
   rw[hpi];have HI:Hid (e.loc[i]=s->Mh s e.loc=some i):=fun e1=>Alu s _ i hi e1 (fun j hj hij=>HNo.o j hj z4ma);have HS:Hid (e.loc[i]≠s->∀j (h:j<e.loc.length),i<=j->e.loc[j]≠s):=by
    intro hn j hj hij e2;by_cases hjn:j=i
    ·subst hjn;exact hn e2
    ·exact HNo.o j hj z4ma e2
   generalize e.loc[i]=x at *;clear hpi;cases hq:(x==s)
   ·have HQ:Hid (x≠s):=by rw[Am]at hq;exact hq
    go_wp2_with fail
    refine HA1.mono ?_;rintro r w' ⟨rfl,rfl⟩;go_wp2;go_roundg i
    case measure=>omega
    case rel=>exact⟨rfl,by omega,HS.o HQ.o,rfl⟩
   ·have HQ:Hid (x=s):=A0 (by simpa using hq);have HV:Hid (e.var K.gl s lo gb=e.step lo (i:Nat) 0):=by
     show _=_;unfold Em.var;rw[HI.o HQ.o]
    have HSt1:=A0 (HSt lo (i:Nat));go_wp2_with fail
    refine HA1.mono ?_;rintro r w' ⟨rfl,rfl⟩;go_wp2_with fail
    refine HSt1.o.mono ?_;rintro r w2 ⟨rfl,Bj,Ad⟩;have Au:=A0 (HX.o.next (e':=e.step lo (i:Nat) 0) Ad Bj rfl);exact z2fa
  ·obtain rfl:gk=0:=by omega
   have HLn:Mh s e.loc=none:=A71 s _ (fun j hj=>HNo.o j hj z4ma);clear hlt HNo;go_wp2;go_loopg [36] K.gl.length (fun q v wq=>∃i:Nat,v=.i i/\i+q=K.gl.length/\(∀j,j<i->∀h':j<K.gl.length,K.gl[j]≠s)/\wq=wr)
   case atStart=>exact⟨0,rfl,by omega,fun i hi=>by omega,rfl⟩
   case round=>
    obtain⟨i,rfl,hik,hno,rfl⟩:=hrel;have HNo:=A0 hno;clear hno;by_cases hlt:i<K.gl.length
    ·obtain⟨g,rfl,_,hcap,lg,hcell⟩:=G1 HGr.o z4ma;have d0:=hcell i (.string ⟨K.gl[i].toArray⟩) (by rw[Eh (by rw[Rn];exact hlt),A7w hlt]);have HI:Hid (K.gl[i]=s->Lm s K.gl=some i):=fun e1=>A65 s _ i hlt e1 (fun j hj hij=>HNo.o j hij hj);have HS:Hid (K.gl[i]≠s->∀j,j<i+1->∀h':j<K.gl.length,K.gl[j]≠s):=by
      intro hn j hj h' e2;by_cases hjn:j=i
      ·subst hjn;exact hn e2
      ·exact HNo.o j z4ma h' e2
     clear hcell;generalize K.gl[i]=x at *;cases hq:(x==s)
     ·have HQ:Hid (x≠s):=by rw[Am]at hq;exact hq
      go_wp2;go_roundg (gk-1)
      case measure=>omega
      case rel=>exact⟨i+1,rfl,by omega,HS.o HQ.o,rfl⟩
     ·have HQ:Hid (x=s):=A0 (by simpa using hq);have HV:Hid (e.var K.gl s lo gb=e.step gb (i:Nat) 0):=by
       show _=_;unfold Em.var;rw[HLn,HI.o HQ.o]
      have HSt1:=A0 (HSt gb (i:Nat));go_wp2_with fail
      refine HSt1.o.mono ?_;rintro r w2 ⟨rfl,Bj,Ad⟩;have Au:=A0 (HX.o.next (e':=e.step gb (i:Nat) 0) Ad Bj rfl);exact z2fa
    ·have HV:Hid (e.var K.gl s lo gb=e):=by
      show _=_;unfold Em.var;rw[HLn,A64 s _ (fun j hj=>HNo.o j z4ma hj)]
     go_wp2;go_end0;rw[HV.o];exact⟨rfl,HX.o,A3.refl _ _⟩
def Np(t:TypeId)(h:t≠220)(v:Value)(w:World):(Instr.typeAssert (.iface t v) 150 220 true).run Tryz.prog w=.ok (.tuple #[.pointer none,.bool false]) w:=Bl Tryz.underlying220 (by kernel_rfl) h v w
def Axg(v:Value)(w:World):(Instr.typeAssert (.iface 220 v) 150 220 true).run Tryz.prog w=.ok (.tuple #[v,.bool true]) w:=Ek Tryz.underlying220 v w
def O1(t:TypeId)(h:t≠229)(v:Value)(w:World):(Instr.typeAssert (.iface t v) 150 229 true).run Tryz.prog w=.ok (.tuple #[.pointer none,.bool false]) w:=Bl Tryz.underlying229 (by kernel_rfl) h v w
def Axl(v:Value)(w:World):(Instr.typeAssert (.iface 229 v) 150 229 true).run Tryz.prog w=.ok (.tuple #[v,.bool true]) w:=Ek Tryz.underlying229 v w
def P5(t:TypeId)(h:t≠233)(v:Value)(w:World):(Instr.typeAssert (.iface t v) 150 233 true).run Tryz.prog w=.ok (.tuple #[.pointer none,.bool false]) w:=Bl Tryz.underlying233 (by kernel_rfl) h v w
def Aal(v:Value)(w:World):(Instr.typeAssert (.iface 233 v) 150 233 true).run Tryz.prog w=.ok (.tuple #[v,.bool true]) w:=Ek Tryz.underlying233 v w
def Pv(t:TypeId)(h:t≠237)(v:Value)(w:World):(Instr.typeAssert (.iface t v) 150 237 true).run Tryz.prog w=.ok (.tuple #[.pointer none,.bool false]) w:=Bl Tryz.underlying237 (by kernel_rfl) h v w
def Axj(v:Value)(w:World):(Instr.typeAssert (.iface 237 v) 150 237 true).run Tryz.prog w=.ok (.tuple #[v,.bool true]) w:=Ek Tryz.underlying237 v w
def Pw(t:TypeId)(h:t≠238)(v:Value)(w:World):(Instr.typeAssert (.iface t v) 150 238 true).run Tryz.prog w=.ok (.tuple #[.pointer none,.bool false]) w:=Bl Tryz.underlying238 (by kernel_rfl) h v w
def Aao(v:Value)(w:World):(Instr.typeAssert (.iface 238 v) 150 238 true).run Tryz.prog w=.ok (.tuple #[v,.bool true]) w:=Ek Tryz.underlying238 v w
def S8(t:TypeId)(h:t≠241)(v:Value)(w:World):(Instr.typeAssert (.iface t v) 150 241 true).run Tryz.prog w=.ok (.tuple #[.pointer none,.bool false]) w:=Bl Tryz.underlying241 (by kernel_rfl) h v w
def Axf(v:Value)(w:World):(Instr.typeAssert (.iface 241 v) 150 241 true).run Tryz.prog w=.ok (.tuple #[v,.bool true]) w:=Ek Tryz.underlying241 v w
def Ux(t:TypeId)(h:t≠244)(v:Value)(w:World):(Instr.typeAssert (.iface t v) 150 244 true).run Tryz.prog w=.ok (.tuple #[.pointer none,.bool false]) w:=Bl Tryz.underlying244 (by kernel_rfl) h v w
def Aan(v:Value)(w:World):(Instr.typeAssert (.iface 244 v) 150 244 true).run Tryz.prog w=.ok (.tuple #[v,.bool true]) w:=Ek Tryz.underlying244 v w
def Wy(t:TypeId)(h:t≠248)(v:Value)(w:World):(Instr.typeAssert (.iface t v) 150 248 true).run Tryz.prog w=.ok (.tuple #[.pointer none,.bool false]) w:=Bl Tryz.underlying248 (by kernel_rfl) h v w
def Axd(v:Value)(w:World):(Instr.typeAssert (.iface 248 v) 150 248 true).run Tryz.prog w=.ok (.tuple #[v,.bool true]) w:=Ek Tryz.underlying248 v w
def Z6(t:TypeId)(h:t≠296)(v:Value)(w:World):(Instr.typeAssert (.iface t v) 150 296 true).run Tryz.prog w=.ok (.tuple #[.pointer none,.bool false]) w:=Bl Tryz.underlying296 (by kernel_rfl) h v w
def Axi(v:Value)(w:World):(Instr.typeAssert (.iface 296 v) 150 296 true).run Tryz.prog w=.ok (.tuple #[v,.bool true]) w:=Ek Tryz.underlying296 v w
def A30(t:TypeId)(h:t≠301)(v:Value)(w:World):(Instr.typeAssert (.iface t v) 150 301 true).run Tryz.prog w=.ok (.tuple #[.pointer none,.bool false]) w:=Bl Tryz.underlying301 (by kernel_rfl) h v w
def Axe(v:Value)(w:World):(Instr.typeAssert (.iface 301 v) 150 301 true).run Tryz.prog w=.ok (.tuple #[v,.bool true]) w:=Ek Tryz.underlying301 v w
def Aap(t:TypeId)(h:t≠304)(v:Value)(w:World):(Instr.typeAssert (.iface t v) 150 304 true).run Tryz.prog w=.ok (.tuple #[.pointer none,.bool false]) w:=Bl Tryz.underlying304 (by kernel_rfl) h v w
def Axh(v:Value)(w:World):(Instr.typeAssert (.iface 304 v) 150 304 true).run Tryz.prog w=.ok (.tuple #[v,.bool true]) w:=Ek Tryz.underlying304 v w
def Axm(t:TypeId)(h:t≠307)(v:Value)(w:World):(Instr.typeAssert (.iface t v) 150 307 true).run Tryz.prog w=.ok (.tuple #[.pointer none,.bool false]) w:=Bl Tryz.underlying307 (by kernel_rfl) h v w
def Axk(v:Value)(w:World):(Instr.typeAssert (.iface 307 v) 150 307 true).run Tryz.prog w=.ok (.tuple #[v,.bool true]) w:=Ek Tryz.underlying307 v w
def Aam(v:Value)(w:World):(Instr.typeAssert (.iface 310 v) 150 310 true).run Tryz.prog w=.ok (.tuple #[v,.bool true]) w:=Ek Tryz.underlying310 v w
def A9d(t:TypeId)(h:t≠143)(v:Value)(w:World):(Instr.typeAssert (.iface t v) 142 143 true).run Tryz.prog w=.ok (.tuple #[.pointer none,.bool false]) w:=Bl Tryz.underlying143 (by kernel_rfl) h v w
def As7(v:Value)(w:World):(Instr.typeAssert (.iface 143 v) 142 143 true).run Tryz.prog w=.ok (.tuple #[v,.bool true]) w:=Ek Tryz.underlying143 v w
def Pr(t:TypeId)(h:t≠145)(v:Value)(w:World):(Instr.typeAssert (.iface t v) 142 145 true).run Tryz.prog w=.ok (.tuple #[.pointer none,.bool false]) w:=Bl Tryz.underlying145 (by kernel_rfl) h v w
def A93(v:Value)(w:World):(Instr.typeAssert (.iface 145 v) 142 145 true).run Tryz.prog w=.ok (.tuple #[v,.bool true]) w:=Ek Tryz.underlying145 v w
def Rv(t:TypeId)(h:t≠253)(v:Value)(w:World):(Instr.typeAssert (.iface t v) 142 253 true).run Tryz.prog w=.ok (.tuple #[.pointer none,.bool false]) w:=Bl Tryz.underlying253 (by kernel_rfl) h v w
def As8(v:Value)(w:World):(Instr.typeAssert (.iface 253 v) 142 253 true).run Tryz.prog w=.ok (.tuple #[v,.bool true]) w:=Ek Tryz.underlying253 v w
def T9(t:TypeId)(h:t≠255)(v:Value)(w:World):(Instr.typeAssert (.iface t v) 142 255 true).run Tryz.prog w=.ok (.tuple #[.pointer none,.bool false]) w:=Bl Tryz.underlying255 (by kernel_rfl) h v w
def Asb(v:Value)(w:World):(Instr.typeAssert (.iface 255 v) 142 255 true).run Tryz.prog w=.ok (.tuple #[v,.bool true]) w:=Ek Tryz.underlying255 v w
def Up(t:TypeId)(h:t≠257)(v:Value)(w:World):(Instr.typeAssert (.iface t v) 142 257 true).run Tryz.prog w=.ok (.tuple #[.pointer none,.bool false]) w:=Bl Tryz.underlying257 (by kernel_rfl) h v w
def Asa(v:Value)(w:World):(Instr.typeAssert (.iface 257 v) 142 257 true).run Tryz.prog w=.ok (.tuple #[v,.bool true]) w:=Ek Tryz.underlying257 v w
def Wl(t:TypeId)(h:t≠259)(v:Value)(w:World):(Instr.typeAssert (.iface t v) 142 259 true).run Tryz.prog w=.ok (.tuple #[.pointer none,.bool false]) w:=Bl Tryz.underlying259 (by kernel_rfl) h v w
def As4(v:Value)(w:World):(Instr.typeAssert (.iface 259 v) 142 259 true).run Tryz.prog w=.ok (.tuple #[v,.bool true]) w:=Ek Tryz.underlying259 v w
def Yv(t:TypeId)(h:t≠264)(v:Value)(w:World):(Instr.typeAssert (.iface t v) 142 264 true).run Tryz.prog w=.ok (.tuple #[.pointer none,.bool false]) w:=Bl Tryz.underlying264 (by kernel_rfl) h v w
def As5(v:Value)(w:World):(Instr.typeAssert (.iface 264 v) 142 264 true).run Tryz.prog w=.ok (.tuple #[v,.bool true]) w:=Ek Tryz.underlying264 v w
def A2d(t:TypeId)(h:t≠265)(v:Value)(w:World):(Instr.typeAssert (.iface t v) 142 265 true).run Tryz.prog w=.ok (.tuple #[.pointer none,.bool false]) w:=Bl Tryz.underlying265 (by kernel_rfl) h v w
def As9(v:Value)(w:World):(Instr.typeAssert (.iface 265 v) 142 265 true).run Tryz.prog w=.ok (.tuple #[v,.bool true]) w:=Ek Tryz.underlying265 v w
def Asr(t:TypeId)(h:t≠268)(v:Value)(w:World):(Instr.typeAssert (.iface t v) 142 268 true).run Tryz.prog w=.ok (.tuple #[.pointer none,.bool false]) w:=Bl Tryz.underlying268 (by kernel_rfl) h v w
def A94(v:Value)(w:World):(Instr.typeAssert (.iface 268 v) 142 268 true).run Tryz.prog w=.ok (.tuple #[v,.bool true]) w:=Ek Tryz.underlying268 v w
def As6(v:Value)(w:World):(Instr.typeAssert (.iface 270 v) 142 270 true).run Tryz.prog w=.ok (.tuple #[v,.bool true]) w:=Ek Tryz.underlying270 v w
def Ge(K:EC)(l:A5)(c:BT A5):Prop:=∀(D:Nat->Prop) (w:World) (la:Option Addr) (ln lc:Nat) (ps:Value) (e:Em) (v:Value) (ks:List Value),
 K.Ex D w la ln lc ps e->Bx D w l v ks->Ar D w c ks->e.st.length+2*bsize (nd l c)<=800000->
 Calls Tryz.prog 54 #[.p K.wb,v] w fun r w'=>r=.returned (.tuple #[])/\K.Ex D w' la ln lc ps (Aq K.fns K.gl l (Aj c) (em K.fns K.gl c) e)/\A3 D w w'
def Aad(K:EC)(c:BT A5)(hok:Dp (Ge K) c)(D:Nat->Prop)(w:World)(la:Option Addr)(ln lc:Nat)(ps:Value)(e:Em)(va:Option Addr)(vn vc:Nat)(ks:List Value)
  (hst:K.Ex D w la ln lc ps e) (hown:Dj D w 150 1 (.slice va vn vc) ks.length ks) (hrep:Ar D w c ks) (hsz:e.st.length+2*bsize c<=800000) :
  Calls Tryz.prog 141 #[.p K.wb,.slice va vn vc] w fun r w'=>r=.returned (.tuple #[])/\K.Ex D w' la ln lc ps (em K.fns K.gl c 0 e)/\A3 D w w':=by
 have hvn:vn=ks.length:=(Cm hown.1).1;subst hvn;have HSt0:=A0 hst;have HOwn:=A0 hown;have HRep:=A0 hrep;have hlen:=hrep.len;have HLen:=A0 hlen;have hls:=Qb c;have hkl:ks.length<=400000:=by omega
 clear hst hown hrep hlen;go_in;go_wp2;go_loopg [8] ks.length (fun k v wr=>∃(i:Nat) (ei:Em),v=.i i/\i+k=ks.length/\K.Ex D wr la ln lc ps ei/\em K.fns K.gl (Cp i c) 0 ei=em K.fns K.gl c 0 e/\ei.st.length+2*bsize (Cp i c)<=800000/\A3 D w wr)
 case atStart=>exact⟨0,e,rfl,by omega,HSt0.o,rfl,hsz,A3.refl _ _⟩
 case round=>
  clear HSt0;obtain⟨i,ei,rfl,hik,hst,hse,hsi,hbel⟩:=hrel;have HSt:=A0 hst;have HSe:=A0 hse;have HBel:=A0 hbel;clear hst hse hbel;by_cases hlt:i<ks.length
  ·have hr:=HRep.o.Bv HBel.o;obtain⟨x,y,l,cc,r,hd,v,ks',hv,hn,hrk⟩:=Ar.at' i c ks hr z58a;obtain⟨g,rfl,_,hcap,lg,hcell⟩:=G1 (HOwn.o.Bv HBel.o).1 z4ma;have d0:=hcell i v hv;have hE:=A0 (hok.at' i c x y l cc r hd);have hz:bsize (Cp i c)=bsize (nd l cc)+bsize r:=by rw[hd,Cf,bsize]
   have HNx:em K.fns K.gl (Cp (i+1) c) 0 (Aq K.fns K.gl l (Aj cc) (em K.fns K.gl cc) ei)=em K.fns K.gl c 0 e:=by
    show _=_;rw[Ra i c x y l cc r hd,←HSe.o,hd,Iq]
   have hsn:(Aq K.fns K.gl l (Aj cc) (em K.fns K.gl cc) ei).st.length+2*bsize (Cp (i+1) c)<=800000:=by
    have:=I0 K.fns K.gl l cc ei;rw[Ra i c x y l cc r hd];omega
   have HC:=hE.out D wr la ln lc ps ei v ks' HSt.o hn hrk z4ma;have HSn:=A0 hsn;clear hr hd hv hn hrk hcell hsn hz;go_wp2_with fail
   refine HC.mono ?_;rintro r' w1 ⟨rfl,Ax,A2⟩;have B5:=A0 Ax;have A9:A3 D w w1:=HBel.o.trans A2;clear Ax A2;go_wp2;go_roundg (gk-1)
   case measure=>omega
   case rel=>exact⟨i+1,_,rfl,by omega,B5.o,HNx,HSn.o,A9⟩
  ·have HE:Hid (ei=em K.fns K.gl c 0 e):=by
    exact z0pa
   exact z2ha
def z1oa {P:Prop} (h:P:=by
  have Ab:A3 D w w2:=A9.trans Ad;go_wp2;go_end0;exact⟨rfl,Au,Ab⟩):P:=h
def Ax3(K:EC)(l:A5)(c:BT A5)(hk:l.kd=1):Ge K l c:=by
 intro D w la ln lc ps e v ks hst hn hr hsz;obtain⟨hlo,lcb,hncb⟩:=hst.lo;have hnds:=Cf l c;unfold Bx at hn;rw[Ai]at hn;obtain⟨b,cs,rfl,hD,hb,hl⟩:=hn;have e1:Cw l.kd=220:=by rw[hk];rfl
 have e2:E4 l.kd=228:=by rw[hk];rfl
 rw[e1];rw[e2]at hb;unfold Di at hl;simp only[hk]at hl;rw[A04 hk];obtain⟨rfl,rfl⟩:=hl;have d0:w.cell? ⟨b,0,none⟩=some (.i l.n):=A4 hb 0 _ rfl;have ld:=A6 hb;have Dy:=Axg;unfold Cs;go_in;go_wp2_with fail
 refine(Yh l.n _).mono ?_;rintro r w1 ⟨rfl,A2⟩;have Ks:=hst.keep A2.block A2.size A2.os A2.tape A2.output;have A9:A3 D w w1:=⟨A2.os,A2.tape,A2.output,A2.size,fun g hg=>A2.block g (hlo g hg)⟩;go_wp2_with fail
 refine(Wx Ks.ew z4ma ⟨2,false,l.n,[],none⟩).mono ?_;rintro r w2 ⟨rfl,Bj,Ad⟩;have Au:=Ks.next (e':=e.F5 ⟨2,false,l.n,[],none⟩) Ad Bj rfl;exact z1oa
def Axa(K:EC)(l:A5)(c:BT A5)(hk:l.kd=2):Ge K l c:=by
 intro D w la ln lc ps e v ks hst hn hr hsz;obtain⟨hlo,lcb,hncb⟩:=hst.lo;have hnds:=Cf l c;unfold Bx at hn;rw[Ai]at hn;obtain⟨b,cs,rfl,hD,hb,hl⟩:=hn;have e1:Cw l.kd=229:=by rw[hk];rfl
 have e2:E4 l.kd=232:=by rw[hk];rfl
 rw[e1];rw[e2]at hb;unfold Di at hl;simp only[hk]at hl;rw[A0a hk];obtain⟨rfl,rfl⟩:=hl;have d0:w.cell? ⟨b,0,none⟩=some (.s l.s):=A4 hb 0 _ rfl;have ld:=A6 hb;have Dy:=Np 229 z4oa;have Ee:=Axl;unfold Cs;go_in;go_wp2_with fail
 refine(A1u ⟨l.s.toArray⟩ _).mono ?_;rintro r w1 ⟨rfl,A2⟩;have Ks:=hst.keep A2.block A2.size A2.os A2.tape A2.output;have A9:A3 D w w1:=⟨A2.os,A2.tape,A2.output,A2.size,fun g hg=>A2.block g (hlo g hg)⟩;go_wp2_with fail
 refine(Wx Ks.ew z4ma ⟨3,false,0,l.s,none⟩).mono ?_;rintro r w2 ⟨rfl,Bj,Ad⟩;have Au:=Ks.next (e':=e.F5 ⟨3,false,0,l.s,none⟩) Ad Bj rfl;exact z1oa
def Axb(K:EC)(l:A5)(c:BT A5)(hk:l.kd=3):Ge K l c:=by
 intro D w la ln lc ps e v ks hst hn hr hsz;obtain⟨hlo,lcb,hncb⟩:=hst.lo;have hnds:=Cf l c;unfold Bx at hn;rw[Ai]at hn;obtain⟨b,cs,rfl,hD,hb,hl⟩:=hn;have e1:Cw l.kd=233:=by rw[hk];rfl
 have e2:E4 l.kd=236:=by rw[hk];rfl
 rw[e1];rw[e2]at hb;unfold Di at hl;simp only[hk]at hl;rw[A0h hk];obtain⟨rfl,rfl⟩:=hl;have d0:w.cell? ⟨b,0,none⟩=some (.bool true):=A4 hb 0 _ rfl;have ld:=A6 hb;have Dy:=Np 233 z4oa;have Ee:=O1 233 z4oa;have Fa:=Aal;unfold Cs;go_in;go_wp2_with fail
 refine(A1t true _).mono ?_;rintro r w1 ⟨rfl,A2⟩;have Ks:=hst.keep A2.block A2.size A2.os A2.tape A2.output;have A9:A3 D w w1:=⟨A2.os,A2.tape,A2.output,A2.size,fun g hg=>A2.block g (hlo g hg)⟩;go_wp2_with fail
 refine(Wx Ks.ew z4ma ⟨1,true,0,[],none⟩).mono ?_;rintro r w2 ⟨rfl,Bj,Ad⟩;have Au:=Ks.next (e':=e.F5 ⟨1,true,0,[],none⟩) Ad Bj rfl;exact z1oa
def Ax0(K:EC)(l:A5)(c:BT A5)(hk:l.kd=4):Ge K l c:=by
 intro D w la ln lc ps e v ks hst hn hr hsz;obtain⟨hlo,lcb,hncb⟩:=hst.lo;have hnds:=Cf l c;unfold Bx at hn;rw[Ai]at hn;obtain⟨b,cs,rfl,hD,hb,hl⟩:=hn;have e1:Cw l.kd=233:=by rw[hk];rfl
 have e2:E4 l.kd=236:=by rw[hk];rfl
 rw[e1];rw[e2]at hb;unfold Di at hl;simp only[hk]at hl;rw[A0k hk];obtain⟨rfl,rfl⟩:=hl;have d0:w.cell? ⟨b,0,none⟩=some (.bool false):=A4 hb 0 _ rfl;have ld:=A6 hb;have Dy:=Np 233 z4oa;have Ee:=O1 233 z4oa;have Fa:=Aal;unfold Cs;go_in;go_wp2_with fail
 refine(A1t false _).mono ?_;rintro r w1 ⟨rfl,A2⟩;have Ks:=hst.keep A2.block A2.size A2.os A2.tape A2.output;have A9:A3 D w w1:=⟨A2.os,A2.tape,A2.output,A2.size,fun g hg=>A2.block g (hlo g hg)⟩;go_wp2_with fail
 refine(Wx Ks.ew z4ma ⟨1,false,0,[],none⟩).mono ?_;rintro r w2 ⟨rfl,Bj,Ad⟩;have Au:=Ks.next (e':=e.F5 ⟨1,false,0,[],none⟩) Ad Bj rfl;exact z1oa
def Ax8(K:EC)(l:A5)(c:BT A5)(hk:l.kd=5):Ge K l c:=by
 intro D w la ln lc ps e v ks hst hn hr hsz;obtain⟨hlo,lcb,hncb⟩:=hst.lo;have hnds:=Cf l c;unfold Bx at hn;rw[Ai]at hn;obtain⟨b,cs,rfl,hD,hb,hl⟩:=hn;have e1:Cw l.kd=237:=by rw[hk];rfl
 have e2:E4 l.kd=450:=by rw[hk];rfl
 rw[e1];rw[e2]at hb;unfold Di at hl;simp only[hk]at hl;rw[A0l hk];obtain⟨rfl,rfl⟩:=hl;have ld:=A6 hb;have HX:=A0 hst;have Dy:=Np 237 z4oa;have Ee:=O1 237 z4oa;have Fa:=P5 237 z4oa;have Ga:=Axj;unfold Cs;go_in;have Ks:=HX;have A9:=A3.refl D w;go_wp2_with fail
 refine(Wx Ks.o.ew z4ma Bb).mono ?_;rintro r w2 ⟨rfl,Bj,Ad⟩;have Au:=Ks.o.next (e':=e.F5 Bb) Ad Bj rfl;exact z1oa
def z0za {P:Prop} (h:P:=by
  rintro r w1 ⟨rfl,Ax,A2⟩;go_wp2;go_end0;exact⟨rfl,Ax,A2⟩):P:=h
def Axc(K:EC)(l:A5)(c:BT A5)(hk:l.kd=6):Ge K l c:=by
 intro D w la ln lc ps e v ks hst hn hr hsz;obtain⟨hlo,lcb,hncb⟩:=hst.lo;have hnds:=Cf l c;unfold Bx at hn;rw[Ai]at hn;obtain⟨b,cs,rfl,hD,hb,hl⟩:=hn;have e1:Cw l.kd=238:=by rw[hk];rfl
 have e2:E4 l.kd=240:=by rw[hk];rfl
 rw[e1];rw[e2]at hb;unfold Di at hl;simp only[hk]at hl;rw[A0m hk];obtain⟨rfl,rfl⟩:=hl;have d0:w.cell? ⟨b,1,none⟩=some (.s l.s):=A4 hb 1 _ rfl;have ld:=A6 hb;have HV:=Aak hst z4ma l.s 1 2;have Dy:=Np 238 z4oa;have Ee:=O1 238 z4oa;have Fa:=P5 238 z4oa;have Ga:=Pv 238 z4oa;have Hj:=Aao;unfold Cs;go_in;go_wp2_with fail
 refine HV.mono ?_;exact z0za
def Avp(w:World):Calls Tryz.prog 89 #[.i 28] w fun e w'=>e=.returned (.i 27)/\w'=w:=by
 go_in;exact z12a
def Avo(w:World):Calls Tryz.prog 89 #[.i 35] w fun e w'=>e=.returned (.i 23)/\w'=w:=by
 go_in;exact z12a
def Ax1(K:EC)(l:A5)(c:BT A5)(hk:l.kd=8)(ih:Dp (Ge K) c):Ge K l c:=by
 intro D w la ln lc ps e v ks hst hn hr hsz;obtain⟨hlo,lcb,hncb⟩:=hst.lo;have hnds:=Cf l c;unfold Bx at hn;rw[Ai]at hn;obtain⟨b,cs,rfl,hD,hb,hl⟩:=hn;have e1:Cw l.kd=241:=by rw[hk];rfl
 have e2:E4 l.kd=243:=by rw[hk];rfl
 rw[e1];rw[e2]at hb;unfold Di at hl;simp only[hk]at hl;rw[A0o hk];obtain⟨a,rfl,rfl⟩:=hl;obtain⟨x1,y1,l1,c1,r1,Du,rfl,Cc,Cd,hz⟩:=hr.cons';obtain rfl:=hz.nil';have Cu:bsize (.node x1 y1 l1 c1 .nil)=bsize (nd l1 c1):=by rw[Cf,bsize];rfl
 have hlen1:=I0 K.fns K.gl l1 c1 e;rw[Iq,em];have HC:=ih.1 D w la ln lc ps e a Du hst Cc Cd z4ma;have d0:=A4 hb 0 a rfl;have ld:=A6 hb;have Dy:=Np 241 z4oa;have Ee:=O1 241 z4oa;have Fa:=P5 241 z4oa;have Ga:=Pv 241 z4oa;have Hj:=Pw 241 z4oa;have Jf:=Axf;unfold Cs;go_in;go_wp2_with fail
 refine HC.mono ?_;exact z0za
def z23a {P:Prop} (h:P:=by
  go_wp2;go_end0;exact⟨rfl,HS9,Dq⟩):P:=h
def Ax7(K:EC)(l:A5)(c:BT A5)(hk:l.kd=13)(ih:Dp (Ge K) c):Ge K l c:=by
 intro D w la ln lc ps e v ks hst hn hr hsz;obtain⟨hlo,lcb,hncb⟩:=hst.lo;have hnds:=Cf l c;unfold Bx at hn;rw[Ai]at hn;obtain⟨b,cs,rfl,hD,hb,hl⟩:=hn;have e1:Cw l.kd=244:=by rw[hk];rfl
 have e2:E4 l.kd=246:=by rw[hk];rfl
 rw[e1];rw[e2]at hb;unfold Di at hl;simp only[hk]at hl;rw[A08 hk];obtain⟨a,rfl,rfl⟩:=hl;obtain⟨x1,y1,l1,c1,r1,Du,rfl,Cc,Cd,hz⟩:=hr.cons';obtain rfl:=hz.nil';have Cu:bsize (.node x1 y1 l1 c1 .nil)=bsize (nd l1 c1):=by rw[Cf,bsize];rfl
 have hlen1:=I0 K.fns K.gl l1 c1 e;rw[Iq,em];have HC:=ih.1 D w la ln lc ps e a Du hst Cc Cd z4ma;have d0:=A4 hb 2 a rfl;have ld:=A6 hb;have Dy:=Np 244 z4oa;have Ee:=O1 244 z4oa;have Fa:=P5 244 z4oa;have Ga:=Pv 244 z4oa;have Hj:=Pw 244 z4oa;have Jf:=S8 244 z4oa;have Kr:=Aan;unfold Cs;go_in;go_wp2_with fail
 refine HC.mono ?_;rintro r w1 ⟨rfl,Ax,A2⟩;have C8:=(A2.block b hD).trans hb;have d0:w1.cell? ⟨b,0,none⟩=some (.n l.line):=A4 C8 0 _ rfl;have d1:=A4 C8 1 _ rfl;have ld:=A6 C8;go_wp2;refine Jt 10 (by kernel_rfl) (by kernel_rfl) ?_;simp only[Jh,J1,Ia,Hl];iterate 5 (refine Fm (fun K' hK'=>?_);go_simp;refine hK' _ ?_;clear hK' K')
 refine Fm (fun K' hK'=>?_);go_simp;refine⟨_,Avp _,hK' _ ?_⟩;iterate 4 (refine Fm (fun K' hK'=>?_);go_simp;refine hK' _ ?_;clear hK' K')
 refine Js ?_;go_wp2_with fail
 refine(N1 (Ax.drewN 1).ew z4ma 27 0 l.line).mono ?_;rintro r w9 ⟨rfl,Hf,Dm⟩;have HS9:=(Ax.drewN 1).next (e':=(em K.fns K.gl .nil 0 (Aq K.fns K.gl l1 (Aj c1) (em K.fns K.gl c1) e)).step 27 0 l.line) Dm Hf rfl;have Dq:A3 D w w9:=A2.trans ((Eb D w1 1).trans Dm);exact z23a
def Ax6(K:EC)(l:A5)(c:BT A5)(hk:l.kd=14)(ih:Dp (Ge K) c):Ge K l c:=by
 intro D w la ln lc ps e v ks hst hn hr hsz;obtain⟨hlo,lcb,hncb⟩:=hst.lo;have hnds:=Cf l c;unfold Bx at hn;rw[Ai]at hn;obtain⟨b,cs,rfl,hD,hb,hl⟩:=hn;have e1:Cw l.kd=244:=by rw[hk];rfl
 have e2:E4 l.kd=246:=by rw[hk];rfl
 rw[e1];rw[e2]at hb;unfold Di at hl;simp only[hk]at hl;rw[A09 hk];obtain⟨a,rfl,rfl⟩:=hl;obtain⟨x1,y1,l1,c1,r1,Du,rfl,Cc,Cd,hz⟩:=hr.cons';obtain rfl:=hz.nil';have Cu:bsize (.node x1 y1 l1 c1 .nil)=bsize (nd l1 c1):=by rw[Cf,bsize];rfl
 have hlen1:=I0 K.fns K.gl l1 c1 e;rw[Iq,em];have HC:=ih.1 D w la ln lc ps e a Du hst Cc Cd z4ma;have d0:=A4 hb 2 a rfl;have ld:=A6 hb;have Dy:=Np 244 z4oa;have Ee:=O1 244 z4oa;have Fa:=P5 244 z4oa;have Ga:=Pv 244 z4oa;have Hj:=Pw 244 z4oa;have Jf:=S8 244 z4oa;have Kr:=Aan;unfold Cs;go_in;go_wp2_with fail
 refine HC.mono ?_;rintro r w1 ⟨rfl,Ax,A2⟩;have C8:=(A2.block b hD).trans hb;have d0:w1.cell? ⟨b,0,none⟩=some (.n l.line):=A4 C8 0 _ rfl;have d1:=A4 C8 1 _ rfl;have ld:=A6 C8;go_wp2;refine Jt 10 (by kernel_rfl) (by kernel_rfl) ?_;simp only[Jh,J1,Ia,Hl];iterate 5 (refine Fm (fun K' hK'=>?_);go_simp;refine hK' _ ?_;clear hK' K')
 refine Fm (fun K' hK'=>?_);go_simp;refine⟨_,Avo _,hK' _ ?_⟩;iterate 4 (refine Fm (fun K' hK'=>?_);go_simp;refine hK' _ ?_;clear hK' K')
 refine Js ?_;go_wp2_with fail
 refine(N1 (Ax.drewN 1).ew z4ma 23 0 l.line).mono ?_;rintro r w9 ⟨rfl,Hf,Dm⟩;have HS9:=(Ax.drewN 1).next (e':=(em K.fns K.gl .nil 0 (Aq K.fns K.gl l1 (Aj c1) (em K.fns K.gl c1) e)).step 23 0 l.line) Dm Hf rfl;have Dq:A3 D w w9:=A2.trans ((Eb D w1 1).trans Dm);exact z23a
def Af2(w:World):Calls Tryz.prog 139 #[.i 27] w fun e w'=>e=.returned (.i 25)/\w'=w:=by
 go_in;exact z12a
def Af3(w:World):Calls Tryz.prog 139 #[.i 28] w fun e w'=>e=.returned (.i 21)/\w'=w:=by
 go_in;exact z12a
def Af4(w:World):Calls Tryz.prog 139 #[.i 29] w fun e w'=>e=.returned (.i 26)/\w'=w:=by
 go_in;exact z12a
def Af5(w:World):Calls Tryz.prog 139 #[.i 30] w fun e w'=>e=.returned (.i 29)/\w'=w:=by
 go_in;exact z12a
def Af6(w:World):Calls Tryz.prog 139 #[.i 31] w fun e w'=>e=.returned (.i 31)/\w'=w:=by
 go_in;exact z12a
def Af7(w:World):Calls Tryz.prog 139 #[.i 32] w fun e w'=>e=.returned (.i 28)/\w'=w:=by
 go_in;exact z12a
def Af8(w:World):Calls Tryz.prog 139 #[.i 33] w fun e w'=>e=.returned (.i 30)/\w'=w:=by
 go_in;exact z12a
def Af9(w:World):Calls Tryz.prog 139 #[.i 34] w fun e w'=>e=.returned (.i 12)/\w'=w:=by
 go_in;exact z12a
def Afa(w:World):Calls Tryz.prog 139 #[.i 35] w fun e w'=>e=.returned (.i 15)/\w'=w:=by
 go_in;exact z12a
def Afb(w:World):Calls Tryz.prog 139 #[.i 36] w fun e w'=>e=.returned (.i 17)/\w'=w:=by
 go_in;exact z12a
def Afc(w:World):Calls Tryz.prog 139 #[.i 37] w fun e w'=>e=.returned (.i 19)/\w'=w:=by
 go_in;exact z12a
def Afd(w:World):Calls Tryz.prog 139 #[.i 38] w fun e w'=>e=.returned (.i 21)/\w'=w:=by
 go_in;exact z12a
def Afe(w:World):Calls Tryz.prog 139 #[.i 39] w fun e w'=>e=.returned (.i 9)/\w'=w:=by
 go_in;exact z12a
def Aff(w:World):Calls Tryz.prog 139 #[.i 40] w fun e w'=>e=.returned (.i 10)/\w'=w:=by
 go_in;exact z12a
def A4q(s:Nat)(h1:27<=s)(h2:s<=40)(w:World):Calls Tryz.prog 139 #[.n s] w fun e w'=>e=.returned (.n (binOp s))/\w'=w:=by
 have h:s=27\/s=28\/s=29\/s=30\/s=31\/s=32\/s=33\/s=34\/s=35\/s=36\/s=37\/s=38\/s=39\/s=40:=by omega
 rcases h with rfl|rfl|rfl|rfl|rfl|rfl|rfl|rfl|rfl|rfl|rfl|rfl|rfl|rfl
 ·exact Af2 w
 ·exact Af3 w
 ·exact Af4 w
 ·exact Af5 w
 ·exact Af6 w
 ·exact Af7 w
 ·exact Af8 w
 ·exact Af9 w
 ·exact Afa w
 ·exact Afb w
 ·exact Afc w
 ·exact Afd w
 ·exact Afe w
 ·exact Aff w
def Avy(K:EC)(l:A5)(c:BT A5)(h1:127<=l.kd)(h2:l.kd<=138)(ih:Dp (Ge K) c)(D:Nat->Prop)(w:World)(la:Option Addr)(ln lc:Nat)(ps:Value)(e:Em)(b:Nat)(a1 a2:Value)
  (hst:K.Ex D w la ln lc ps e) (hD:D b) (hb:w.heap[b]?=some (.cells #[.n l.line,.n ((l.kd-100:Nat)),a1,a2] 295 (0,0))) (hr:Ar D w c [a1,a2]) (hsz:e.st.length+2*bsize (nd l c)<=800000) :
  Calls Tryz.prog 90 #[.p K.wb,.p b] w fun r w'=>r=.returned (.tuple #[])/\K.Ex D w' la ln lc ps (Aq K.fns K.gl l (Aj c) (em K.fns K.gl c) e)/\A3 D w w':=by
 obtain⟨hlo,lcb,hncb⟩:=hst.lo;have hnds:=Cf l c;obtain⟨x1,y1,l1,c1,r1,Du,rfl,Cc,Cd,hz⟩:=hr.cons';obtain⟨x2,y2,l2,c2,r2,I7,rfl,Eu,C7,Dg⟩:=hz.cons';obtain rfl:=Dg.nil';have Cu:bsize (.node x1 y1 l1 c1 (.node x2 y2 l2 c2 .nil))=bsize (nd l1 c1)+bsize (nd l2 c2):=by rw[Cf,Cf,bsize,bsize,bsize];omega
 rw[A0q h1 h2,Iq,Iq,em];have hl1:=I0 K.fns K.gl l1 c1 e;have Gx:=I0 K.fns K.gl l2 c2 (Aq K.fns K.gl l1 (Aj c1) (em K.fns K.gl c1) e);have HC1:=ih.1 D w la ln lc ps e a1 Du hst Cc Cd z4ma;have Fx:=fun(W:World) (e2:Em) (he:e2.st.length+2*bsize (nd l2 c2)<=800000) (hx:K.Ex D W la ln lc ps e2) (hbd:A3 D w W)=>ih.2.1 D W la ln lc ps e2 a2 I7 hx (Eu.Bv hbd) (C7.Bv hbd) he;have HBk:=A0 hb;have t39:(((l.kd-100:Nat):Int)==39)=false:=by rw[Am];omega
 have t40:(((l.kd-100:Nat):Int)==40)=false:=by rw[Am];omega
 have HOp:=fun W=>A4q (l.kd-100) z4ma z4ma W;have d0:=A4 hb 0 _ rfl;have d1:=A4 hb 1 _ rfl;have d2:=A4 hb 2 _ rfl;have d3:=A4 hb 3 _ rfl;have ld:=A6 hb;clear hst hb hr Cc Cd hz Eu C7 Dg ih h1 h2;generalize l.kd-100=sg at *;generalize J8:Aq K.fns K.gl l1 (Aj c1) (em K.fns K.gl c1) e=Ch at *;generalize hE2:Aq K.fns K.gl l2 (Aj c2) (em K.fns K.gl c2) Ch=G6 at *;go_in;go_wp2_with fail
 refine HC1.mono ?_;rintro r w1 ⟨rfl,Ax,A2⟩;have B5:=A0 Ax;have A9:=A0 A2;have C8:=(A2.block b hD).trans HBk.o;have HBk1:=A0 C8;clear Ax A2;clear d0 d1 d2 d3 ld;have d0:=A4 C8 0 _ rfl;have d1:=A4 C8 1 _ rfl;have d2:=A4 C8 2 _ rfl;have d3:=A4 C8 3 _ rfl;have ld:=A6 C8;clear C8;go_wp2_with fail
 refine(Fx _ _ z4ma B5.o A9.o).mono ?_;rintro r w3 ⟨rfl,Dc,Ay⟩;rw[hE2]at Dc;have Bu:=A0 Dc;have Ba:A3 D w w3:=A9.o.trans Ay;have Gc:=(Ay.block b hD).trans HBk1.o;clear Dc Ay;clear d0 d1 d2 d3 ld;have d0:=A4 Gc 0 _ rfl;have d1:=A4 Gc 1 _ rfl;have d2:=A4 Gc 2 _ rfl;have d3:=A4 Gc 3 _ rfl;have ld:=A6 Gc;clear Gc;go_wp2;refine Jt 10 (by kernel_rfl) (by kernel_rfl) ?_;simp only[Jh,J1,Ia,Hl];iterate 5 (refine Fm (fun K' hK'=>?_);go_simp;refine hK' _ ?_;clear hK' K')
 refine Fm (fun K' hK'=>?_);go_simp;refine⟨_,HOp _,hK' _ ?_⟩;clear hK' K';iterate 4 (refine Fm (fun K' hK'=>?_);go_simp;refine hK' _ ?_;clear hK' K')
 refine Js ?_;go_wp2_with fail
 refine(N1 (Bu.o.drewN 1).ew z4ma (binOp sg) 0 l.line).mono ?_;rintro r w9 ⟨rfl,Hf,Dm⟩;have HS9:=(Bu.o.drewN 1).next (e':=(G6).step (binOp sg) 0 l.line) Dm Hf rfl;have Dq:A3 D w w9:=Ba.trans ((Eb D w3 1).trans Dm);clear Hf Dm;exact z23a
def z05a {P:Prop} (h:P:=by
  clear hsg t40;go_wp2_with fail
  refine Jt 10 (by kernel_rfl) (by kernel_rfl) ?_;simp only[Jh,J1,Ia,Hl];iterate 5 (refine Fm (fun K' hK'=>?_);go_simp;refine hK' _ ?_;clear hK' K')
  refine Fm (fun K' hK'=>?_);go_simp;refine⟨_,HOp _,hK' _ ?_⟩;clear hK' K';iterate 4 (refine Fm (fun K' hK'=>?_);go_simp;refine hK' _ ?_;clear hK' K')
  refine Js ?_;go_wp2_with fail
  refine(N1 (B5.o.drewN 1).ew z4ma (binOp sg) 0 l.line).mono ?_;rintro r w2 ⟨rfl,Bj,Ad⟩;have Au:=A0 ((B5.o.drewN 1).next (e':=Ch.step (binOp sg) 0 l.line) Ad Bj rfl);have hb2':=(Eb D w1 1).trans Ad;have Ab:Hid (A3 D w w2):=A9.o.trans hb2';have Ep:=(hb2'.block b hD).trans HBk1.o;have HBk2:=A0 Ep;clear Bj Ad hb2' d0 d1 d2 d3 ld;have d0:=A4 Ep 0 _ rfl;have d3:=A4 Ep 3 _ rfl;have ld:=A6 Ep;clear Ep;have Gx:(Ch.step (binOp sg) 0 l.line).st.length=Ch.st.length+1:=Ea _ _ _ _;have hl3:=I0 K.fns K.gl l2 c2 (Ch.step (binOp sg) 0 l.line);have Fb:=A0 Gx;go_wp2_with fail
  refine(Fx _ _ z4ma Au.o Ab.o).mono ?_;rintro r w3 ⟨rfl,Dc,Ay⟩;have Bu:=A0 Dc;have Ba:Hid (A3 D w w3):=Ab.o.trans Ay;have Gc:=(Ay.block b hD).trans HBk2.o;clear Dc Ay d0 d3 ld;have d0:=A4 Gc 0 _ rfl;have ld:=A6 Gc;clear Gc;have hl4:Ch.st.length<(Aq K.fns K.gl l2 (Aj c2) (em K.fns K.gl c2) (Ch.step (binOp sg) 0 l.line)).st.length+1:=by
   have:=A0t K.fns K.gl l2 c2 (Ch.step (binOp sg) 0 l.line);omega
  generalize hE3:Aq K.fns K.gl l2 (Aj c2) (em K.fns K.gl c2) (Ch.step (binOp sg) 0 l.line)=em3 at *;go_wp2_with fail
  refine(N1 Bu.o.ew z4ma 11 0 l.line).mono ?_;rintro r w4 ⟨rfl,He,Bz⟩;have Ft:=A0 (Bu.o.next (e':=em3.step 11 0 l.line) Bz He rfl);have D6:Hid (A3 D w w4):=Ba.o.trans Bz;clear He Bz;go_wp2_with fail
  refine(Z4 Ft.o.ew Ch.st.length z6fa).mono ?_;rintro r w5 ⟨rfl,Df,Cz⟩;have Ic:=A0 (Ft.o.next (e':=(em3.step 11 0 l.line).land Ch.st.length) Cz Df rfl);have Ez:Hid (A3 D w w5):=D6.o.trans Cz;clear Df Cz;go_wp2;refine B9 (v:=.tuple #[]) (by simp[results,Tryz.results90,go_sem]) rfl ?_;subst hE3;exact⟨rfl,Ic.o,Ez.o⟩):P:=h
def Avz(K:EC)(l:A5)(c:BT A5)(hk:l.kd=139\/l.kd=140)(ih:Dp (Ge K) c)(D:Nat->Prop)(w:World)(la:Option Addr)(ln lc:Nat)(ps:Value)(e:Em)(b:Nat)(a1 a2:Value)
  (hst:K.Ex D w la ln lc ps e) (hD:D b) (hb:w.heap[b]?=some (.cells #[.n l.line,.n ((l.kd-100:Nat)),a1,a2] 295 (0,0))) (hr:Ar D w c [a1,a2]) (hsz:e.st.length+2*bsize (nd l c)<=800000) :
  Calls Tryz.prog 90 #[.p K.wb,.p b] w fun r w'=>r=.returned (.tuple #[])/\K.Ex D w' la ln lc ps (Aq K.fns K.gl l (Aj c) (em K.fns K.gl c) e)/\A3 D w w':=by
 obtain⟨hlo,lcb,hncb⟩:=hst.lo;have hnds:=Cf l c;obtain⟨x1,y1,l1,c1,r1,Du,rfl,Cc,Cd,hz⟩:=hr.cons';obtain⟨x2,y2,l2,c2,r2,I7,rfl,Eu,C7,Dg⟩:=hz.cons';obtain rfl:=Dg.nil';have Cu:bsize (.node x1 y1 l1 c1 (.node x2 y2 l2 c2 .nil))=bsize (nd l1 c1)+bsize (nd l2 c2):=by rw[Cf,Cf,bsize,bsize,bsize];omega
 rw[A0r hk];simp only[Ph,Qh,Y3];have hl1:=I0 K.fns K.gl l1 c1 e;have HC1:=ih.1 D w la ln lc ps e a1 Du hst Cc Cd z4ma;have Fx:=fun(W:World) (e2:Em) (he:e2.st.length+2*bsize (nd l2 c2)<=800000) (hx:K.Ex D W la ln lc ps e2) (hbd:A3 D w W)=>ih.2.1 D W la ln lc ps e2 a2 I7 hx (Eu.Bv hbd) (C7.Bv hbd) he;have HBk:=A0 hb;have t40:((((l.kd-100:Nat):Int)==39)||(((l.kd-100:Nat):Int)==40))=true:=by
  rcases hk with h|h <;> rw[h] <;> rfl
 have HOp:=fun W=>A4q (l.kd-100) z4ma z4ma W;have hlines:=Cf l2 c2;have d0:=A4 hb 0 _ rfl;have d1:=A4 hb 1 _ rfl;have d2:=A4 hb 2 _ rfl;have d3:=A4 hb 3 _ rfl;have ld:=A6 hb;clear hst hb hr Cc Cd hz Eu C7 Dg ih;have hsg:((l.kd-100:Nat):Int)=39\/((l.kd-100:Nat):Int)=40:=by omega
 generalize l.kd-100=sg at *;clear hk;generalize J8:Aq K.fns K.gl l1 (Aj c1) (em K.fns K.gl c1) e=Ch at *;go_in;go_wp2_with fail
 refine HC1.mono ?_;rintro r w1 ⟨rfl,Ax,A2⟩;have B5:=A0 Ax;have A9:=A0 A2;have C8:=(A2.block b hD).trans HBk.o;have HBk1:=A0 C8;clear Ax A2;clear d0 d1 d2 d3 ld;have d0:=A4 C8 0 _ rfl;have d1:=A4 C8 1 _ rfl;have d2:=A4 C8 2 _ rfl;have d3:=A4 C8 3 _ rfl;have ld:=A6 C8;clear C8;rcases hsg with hsg|hsg
 ·have t39:((sg:Int)==39)=true:=by rw[hsg];rfl
  exact z05a
 ·have t39:((sg:Int)==39)=false:=by rw[hsg];rfl
  have t41:((sg:Int)==40)=true:=by rw[hsg];rfl
  exact z05a
def z1sa {P:Prop} (h:P:=by
  rintro r w1 ⟨rfl,Ax,A2⟩;have B5:=A0 Ax;have A9:=A0 A2;clear Ax A2;go_wp2;go_end0;exact⟨rfl,B5.o,A9.o⟩):P:=h
def Awy(K:EC)(l:A5)(c:BT A5)(h1:127<=l.kd)(h2:l.kd<=140)(ih:Dp (Ge K) c):Ge K l c:=by
 intro D w la ln lc ps e v ks hst hn hr hsz;unfold Bx at hn;rw[Ai]at hn;obtain⟨b,cs,rfl,hD,hb,hl⟩:=hn;have e1:Cw l.kd=248/\E4 l.kd=295:=by
  have hk:l.kd=127\/l.kd=128\/l.kd=129\/l.kd=130\/l.kd=131\/l.kd=132\/l.kd=133\/l.kd=134\/l.kd=135\/l.kd=136\/l.kd=137\/l.kd=138\/l.kd=139\/l.kd=140:=by omega
  rcases hk with h|h|h|h|h|h|h|h|h|h|h|h|h|h <;> rw[h] <;> exact⟨rfl,rfl⟩
 rw[e1.1];rw[e1.2]at hb;have Gx:∃a b,cs=#[Hw l.line,.n ((l.kd-100:Nat)),a,b]/\ks=[a,b]:=by
  have hk:l.kd=127\/l.kd=128\/l.kd=129\/l.kd=130\/l.kd=131\/l.kd=132\/l.kd=133\/l.kd=134\/l.kd=135\/l.kd=136\/l.kd=137\/l.kd=138\/l.kd=139\/l.kd=140:=by omega
  unfold Di at hl;rcases hk with h|h|h|h|h|h|h|h|h|h|h|h|h|h <;> simpa only[h]using hl
 obtain⟨a1,a2,rfl,rfl⟩:=Gx;have HC:Calls Tryz.prog 90 #[.p K.wb,.p b] w fun r w'=>r=.returned (.tuple #[])/\K.Ex D w' la ln lc ps (Aq K.fns K.gl l (Aj c) (em K.fns K.gl c) e)/\A3 D w w':=by
  by_cases Ad:l.kd<=138
  ·exact Avy K l c h1 Ad ih D w la ln lc ps e b a1 a2 hst hD hb hr hsz
  ·exact Avz K l c z4ma ih D w la ln lc ps e b a1 a2 hst hD hb hr hsz
 have Dy:=Np 248 z4oa;have Ee:=O1 248 z4oa;have Fa:=P5 248 z4oa;have Ga:=Pv 248 z4oa;have Hj:=Pw 248 z4oa;have Jf:=S8 248 z4oa;have Kr:=Ux 248 z4oa;have ta7:=Axd;clear hst hb e1 hr hl ih;unfold Cs;go_in;go_wp2_with fail
 refine HC.mono ?_;exact z1sa
def Aw7(K:EC)(l:A5)(c:BT A5)(hk:l.kd=10)(ih:Dp (Ge K) c)  (D:Nat->Prop) (w:World) (la:Option Addr) (ln lc:Nat) (ps:Value) (e:Em) (v:Value) (ks:List Value)
  (hst:K.Ex D w la ln lc ps e) (hn:Bx D w l v ks) (hr:Ar D w c ks) (hsz:e.st.length+2*bsize (nd l c)<=800000) :
  Calls Tryz.prog 91 #[.p K.wb,v] w fun r w'=>r=.returned (.tuple #[])/\K.Ex D w' la ln lc ps (Aq K.fns K.gl l (Aj c) (em K.fns K.gl c) e)/\A3 D w w':=by
 obtain⟨hlo,lcb,hncb⟩:=hst.lo;have hnds:=Cf l c;unfold Bx at hn;rw[Ai]at hn;obtain⟨b,cs,rfl,hD,hb,hl⟩:=hn;have e1:Cw l.kd=304:=by rw[hk];rfl
 have e2:E4 l.kd=306:=by rw[hk];rfl
 rw[e1];rw[e2]at hb;unfold Di at hl;simp only[hk]at hl;rw[A05 hk];obtain⟨a,rfl,rfl⟩:=hl;obtain⟨x1,y1,l1,c1,r1,Du,rfl,Cc,Cd,hz⟩:=hr.cons';obtain rfl:=hz.nil';have Cu:bsize (.node x1 y1 l1 c1 .nil)=bsize (nd l1 c1):=by rw[Cf,bsize];rfl
 have hlen1:=I0 K.fns K.gl l1 c1 e;rw[Iq,em];have HC:=ih.1 D w la ln lc ps e a Du hst Cc Cd z4ma;have d0:=A4 hb 1 a rfl;have ld:=A6 hb;have Dy:=Z6 304 z4oa;have Ee:=A30 304 z4oa;have Fa:=Axh;unfold Cs;go_in;go_wp2_with fail
 refine(HC).mono ?_;rintro r w1 ⟨rfl,Ax,A2⟩;have C8:=(A2.block b hD).trans hb;have d0:w1.cell? ⟨b,0,none⟩=some (.n l.line):=A4 C8 0 _ rfl;have ld:=A6 C8;generalize J8:Aq K.fns K.gl l1 (Aj c1) (em K.fns K.gl c1) e=Ch at *;go_wp2_with fail
 refine(N1 Ax.ew z4ma 37 0 l.line).mono ?_;rintro r w9 ⟨rfl,Hf,Dm⟩;have HS9:=Ax.next (e':=Ch.step 37 0 l.line) Dm Hf rfl;have Dq:A3 D w w9:=A2.trans Dm;go_wp2;go_end0;subst J8;exact⟨rfl,HS9,Dq⟩
def z2ma {P:Prop} (h:P:=by
  unfold Cs at HM ⊢;go_in;go_wp2_with fail
  refine HM.mono ?_;exact z0za):P:=h
def Ax4(K:EC)(l:A5)(c:BT A5)(hk:l.kd=10)(ih:Dp (Ge K) c):Ge K l c:=by
 intro D w la ln lc ps e v ks hst hn hr hsz;have HM:=Aw7 K l c hk ih D w la ln lc ps e v ks hst hn hr hsz;obtain⟨hlo,lcb,hncb⟩:=hst.lo;unfold Bx at hn;rw[Ai]at hn;obtain⟨b,cs,rfl,hD,hb,hl⟩:=hn;have e1:Cw l.kd=304:=by rw[hk];rfl
 rw[e1]at HM ⊢;have ld:=A6 hb;have Dy:=Np 304 z4oa;have Ee:=O1 304 z4oa;have Fa:=P5 304 z4oa;have Ga:=Pv 304 z4oa;have Hj:=Pw 304 z4oa;have Jf:=S8 304 z4oa;have Kr:=Ux 304 z4oa;have ta7:=Wy 304 z4oa;exact z2ma
def Aw9(K:EC)(l:A5)(c:BT A5)(hk:l.kd=11)(ih:Dp (Ge K) c)  (D:Nat->Prop) (w:World) (la:Option Addr) (ln lc:Nat) (ps:Value) (e:Em) (v:Value) (ks:List Value)
  (hst:K.Ex D w la ln lc ps e) (hn:Bx D w l v ks) (hr:Ar D w c ks) (hsz:e.st.length+2*bsize (nd l c)<=800000) :
  Calls Tryz.prog 91 #[.p K.wb,v] w fun r w'=>r=.returned (.tuple #[])/\K.Ex D w' la ln lc ps (Aq K.fns K.gl l (Aj c) (em K.fns K.gl c) e)/\A3 D w w':=by
 obtain⟨hlo,lcb,hncb⟩:=hst.lo;have hnds:=Cf l c;unfold Bx at hn;rw[Ai]at hn;obtain⟨b,cs,rfl,hD,hb,hl⟩:=hn;have e1:Cw l.kd=307:=by rw[hk];rfl
 have e2:E4 l.kd=309:=by rw[hk];rfl
 rw[e1];rw[e2]at hb;unfold Di at hl;simp only[hk]at hl;rw[A06 hk];obtain⟨a1,a2,rfl,rfl⟩:=hl;obtain⟨x1,y1,l1,c1,r1,Du,rfl,Cc,Cd,hz⟩:=hr.cons';obtain⟨x2,y2,l2,c2,r2,I7,rfl,Eu,C7,Dg⟩:=hz.cons';obtain rfl:=Dg.nil';have Cu:bsize (.node x1 y1 l1 c1 (.node x2 y2 l2 c2 .nil))=bsize (nd l1 c1)+bsize (nd l2 c2):=by rw[Cf,Cf,bsize,bsize,bsize];omega
 rw[Iq,Iq,em];have hl1:=I0 K.fns K.gl l1 c1 e;have Gx:=I0 K.fns K.gl l2 c2 (Aq K.fns K.gl l1 (Aj c1) (em K.fns K.gl c1) e);have HC1:=ih.1 D w la ln lc ps e a1 Du hst Cc Cd z4ma;have Fx:=fun(W:World) (e2:Em) (he:e2.st.length+2*bsize (nd l2 c2)<=800000) (hx:K.Ex D W la ln lc ps e2) (hbd:A3 D w W)=>ih.2.1 D W la ln lc ps e2 a2 I7 hx (Eu.Bv hbd) (C7.Bv hbd) he;have d1:=A4 hb 1 a1 rfl;have ld:=A6 hb;have Dy:=Z6 307 z4oa;have Ee:=A30 307 z4oa;have Fa:=Aap 307 z4oa;have Ga:=Axk;generalize J8:Aq K.fns K.gl l1 (Aj c1) (em K.fns K.gl c1) e=Ch at *;generalize hE2:Aq K.fns K.gl l2 (Aj c2) (em K.fns K.gl c2) Ch=G6 at *;unfold Cs;go_in;go_wp2_with fail
 refine(HC1).mono ?_;rintro r w1 ⟨rfl,Ax,A2⟩;have C8:=(A2.block b hD).trans hb;have d2:=A4 C8 2 a2 rfl;have ld:=A6 C8;go_wp2_with fail
 refine(Fx _ _ z4ma Ax A2).mono ?_;rintro r w2 ⟨rfl,Bj,Ad⟩;rw[hE2]at Bj;have Ab:A3 D w w2:=A2.trans Ad;have Ep:=(Ad.block b hD).trans C8;have d0:w2.cell? ⟨b,0,none⟩=some (.n l.line):=A4 Ep 0 _ rfl;have ld:=A6 Ep;go_wp2_with fail
 refine(N1 Bj.ew z4ma 38 0 l.line).mono ?_;rintro r w9 ⟨rfl,Hf,Dm⟩;have HS9:=Bj.next (e':=G6.step 38 0 l.line) Dm Hf rfl;have Dq:A3 D w w9:=Ab.trans Dm;exact z23a
def Ax9(K:EC)(l:A5)(c:BT A5)(hk:l.kd=11)(ih:Dp (Ge K) c):Ge K l c:=by
 intro D w la ln lc ps e v ks hst hn hr hsz;have HM:=Aw9 K l c hk ih D w la ln lc ps e v ks hst hn hr hsz;obtain⟨hlo,lcb,hncb⟩:=hst.lo;unfold Bx at hn;rw[Ai]at hn;obtain⟨b,cs,rfl,hD,hb,hl⟩:=hn;have e1:Cw l.kd=307:=by rw[hk];rfl
 rw[e1]at HM ⊢;have ld:=A6 hb;have Dy:=Np 307 z4oa;have Ee:=O1 307 z4oa;have Fa:=P5 307 z4oa;have Ga:=Pv 307 z4oa;have Hj:=Pw 307 z4oa;have Jf:=S8 307 z4oa;have Kr:=Ux 307 z4oa;have ta7:=Wy 307 z4oa;exact z2ma
def Aw6(K:EC)(l:A5)(c:BT A5)(hk:l.kd=12)(ih:Dp (Ge K) c)  (D:Nat->Prop) (w:World) (la:Option Addr) (ln lc:Nat) (ps:Value) (e:Em) (v:Value) (ks:List Value)
  (hst:K.Ex D w la ln lc ps e) (hn:Bx D w l v ks) (hr:Ar D w c ks) (hsz:e.st.length+2*bsize (nd l c)<=800000) :
  Calls Tryz.prog 91 #[.p K.wb,v] w fun r w'=>r=.returned (.tuple #[])/\K.Ex D w' la ln lc ps (Aq K.fns K.gl l (Aj c) (em K.fns K.gl c) e)/\A3 D w w':=by
 obtain⟨hlo,lcb,hncb⟩:=hst.lo;have hnds:=Cf l c;unfold Bx at hn;rw[Ai]at hn;obtain⟨b,cs,rfl,hD,hb,hl⟩:=hn;have e1:Cw l.kd=310:=by rw[hk];rfl
 have e2:E4 l.kd=312:=by rw[hk];rfl
 rw[e1];rw[e2]at hb;unfold Di at hl;simp only[hk]at hl;rw[A07 hk];obtain⟨a1,a2,rfl,rfl⟩:=hl;obtain⟨x1,y1,l1,c1,r1,Du,rfl,Cc,Cd,hz⟩:=hr.cons';obtain⟨x2,y2,l2,c2,r2,I7,rfl,Eu,C7,Dg⟩:=hz.cons';obtain rfl:=Dg.nil';have Cu:bsize (.node x1 y1 l1 c1 (.node x2 y2 l2 c2 .nil))=bsize (nd l1 c1)+bsize (nd l2 c2):=by rw[Cf,Cf,bsize,bsize,bsize];omega
 rw[Iq,Iq,em];have hl1:=I0 K.fns K.gl l1 c1 e;have Gx:=I0 K.fns K.gl l2 c2 (Aq K.fns K.gl l1 (Aj c1) (em K.fns K.gl c1) e);have HC1:=ih.1 D w la ln lc ps e a1 Du hst Cc Cd z4ma;have Fx:=fun(W:World) (e2:Em) (he:e2.st.length+2*bsize (nd l2 c2)<=800000) (hx:K.Ex D W la ln lc ps e2) (hbd:A3 D w W)=>ih.2.1 D W la ln lc ps e2 a2 I7 hx (Eu.Bv hbd) (C7.Bv hbd) he;have d1:=A4 hb 1 a1 rfl;have ld:=A6 hb;have Dy:=Z6 310 z4oa;have Ee:=A30 310 z4oa;have Fa:=Aap 310 z4oa;have Ga:=Axm 310 z4oa;have Hj:=Aam;generalize J8:Aq K.fns K.gl l1 (Aj c1) (em K.fns K.gl c1) e=Ch at *;generalize hE2:Aq K.fns K.gl l2 (Aj c2) (em K.fns K.gl c2) Ch=G6 at *;unfold Cs;go_in;go_wp2_with fail
 refine(HC1).mono ?_;rintro r w1 ⟨rfl,Ax,A2⟩;have C8:=(A2.block b hD).trans hb;have d2:=A4 C8 2 a2 rfl;have ld:=A6 C8;go_wp2_with fail
 refine(Fx _ _ z4ma Ax A2).mono ?_;rintro r w2 ⟨rfl,Bj,Ad⟩;rw[hE2]at Bj;have Ab:A3 D w w2:=A2.trans Ad;have Ep:=(Ad.block b hD).trans C8;have d0:w2.cell? ⟨b,0,none⟩=some (.n l.line):=A4 Ep 0 _ rfl;have ld:=A6 Ep;go_wp2_with fail
 refine(N1 Bj.ew z4ma 39 0 l.line).mono ?_;rintro r w9 ⟨rfl,Hf,Dm⟩;have HS9:=Bj.next (e':=G6.step 39 0 l.line) Dm Hf rfl;have Dq:A3 D w w9:=Ab.trans Dm;exact z23a
def Ax2(K:EC)(l:A5)(c:BT A5)(hk:l.kd=12)(ih:Dp (Ge K) c):Ge K l c:=by
 intro D w la ln lc ps e v ks hst hn hr hsz;have HM:=Aw6 K l c hk ih D w la ln lc ps e v ks hst hn hr hsz;obtain⟨hlo,lcb,hncb⟩:=hst.lo;unfold Bx at hn;rw[Ai]at hn;obtain⟨b,cs,rfl,hD,hb,hl⟩:=hn;have e1:Cw l.kd=310:=by rw[hk];rfl
 rw[e1]at HM ⊢;have ld:=A6 hb;have Dy:=Np 310 z4oa;have Ee:=O1 310 z4oa;have Fa:=P5 310 z4oa;have Ga:=Pv 310 z4oa;have Hj:=Pw 310 z4oa;have Jf:=S8 310 z4oa;have Kr:=Ux 310 z4oa;have ta7:=Wy 310 z4oa;exact z2ma
def Aw8(K:EC)(l:A5)(c:BT A5)(hk:l.kd=9)(ih:Dp (Ge K) c)  (D:Nat->Prop) (w:World) (la:Option Addr) (ln lc:Nat) (ps:Value) (e:Em) (v:Value) (ks:List Value)
  (hst:K.Ex D w la ln lc ps e) (hn:Bx D w l v ks) (hr:Ar D w c ks) (hsz:e.st.length+2*bsize (nd l c)<=800000) :
  Calls Tryz.prog 91 #[.p K.wb,v] w fun r w'=>r=.returned (.tuple #[])/\K.Ex D w' la ln lc ps (Aq K.fns K.gl l (Aj c) (em K.fns K.gl c) e)/\A3 D w w':=by
 obtain⟨hlo,lcb,hncb⟩:=hst.lo;have hnds:=Cf l c;unfold Bx at hn;rw[Ai]at hn;obtain⟨b,cs,rfl,hD,hb,hl⟩:=hn;have e1:Cw l.kd=296:=by rw[hk];rfl
 have e2:E4 l.kd=300:=by rw[hk];rfl
 rw[e1];rw[e2]at hb;unfold Di at hl;simp only[hk]at hl;rw[A0p hk];obtain⟨sl,rfl,ho⟩:=hl;obtain⟨va,vn,vc,rfl⟩:∃va vn vc,sl=.slice va vn vc:=Qn ho.1;have hvn:vn=ks.length:=(Cm ho.1).1;have hkl:=hr.len;have hbl:=Qb c;rw[←hkl];have hem:=(Ox K.fns K.gl c).1 e;have HC:=Aad K c ih D w la ln lc ps e va vn vc ks hst ho hr z4ma;have HBk:=A0 hb;have d1:=A4 hb 1 _ rfl;have ld:=A6 hb;have Dy:=Axi;clear hst hb e1 e2 hk hr ih ho hkl hbl;subst hvn;generalize J8:em K.fns K.gl c 0 e=Ch at *;unfold Cs;go_in;go_wp2_with fail
 refine(HC).mono ?_;rintro r w1 ⟨rfl,Ax,A2⟩;have B5:=A0 Ax;have A9:=A0 A2;have C8:=(A2.block b hD).trans HBk.o;clear Ax A2 d1 ld;have d0:w1.cell? ⟨b,0,none⟩=some (.n l.line):=A4 C8 0 _ rfl;have d1:=A4 C8 1 _ rfl;have ld:=A6 C8;clear C8;go_wp2;refine Jt 10 (by kernel_rfl) (by kernel_rfl) ?_;simp only[Jh,J1,Ia,Hl];iterate 10 (refine Fm (fun K' hK'=>?_);go_simp;refine hK' _ ?_;clear hK' K')
 refine Js ?_;go_wp2_with fail
 refine(N1 (B5.o.drewN 1).ew z4ma 36 (ks.length:Nat) l.line).mono ?_;rintro r w9 ⟨rfl,Hf,Dm⟩;have HS9:=(B5.o.drewN 1).next (e':=(Ch).step 36 (ks.length:Nat) l.line) Dm Hf rfl;have Dq:A3 D w w9:=A9.o.trans ((Eb D w1 1).trans Dm);clear Hf Dm;exact z23a
def z4ka {P:Prop} (h:P:=by
  clear hst hb e1 hk hr hl ih;unfold Cs at HM ⊢;go_in;go_wp2_with fail
  refine HM.mono ?_;exact z1sa):P:=h
def Ax5(K:EC)(l:A5)(c:BT A5)(hk:l.kd=9)(ih:Dp (Ge K) c):Ge K l c:=by
 intro D w la ln lc ps e v ks hst hn hr hsz;have HM:=Aw8 K l c hk ih D w la ln lc ps e v ks hst hn hr hsz;obtain⟨hlo,lcb,hncb⟩:=hst.lo;unfold Bx at hn;rw[Ai]at hn;obtain⟨b,cs,rfl,hD,hb,hl⟩:=hn;have e1:Cw l.kd=296:=by rw[hk];rfl
 rw[e1]at HM ⊢;have ld:=A6 hb;have Dy:=Np 296 z4oa;have Ee:=O1 296 z4oa;have Fa:=P5 296 z4oa;have Ga:=Pv 296 z4oa;have Hj:=Pw 296 z4oa;have Jf:=S8 296 z4oa;have Kr:=Ux 296 z4oa;have ta7:=Wy 296 z4oa;exact z4ka
def Aw5(K:EC)(l:A5)(c:BT A5)(hk:l.kd=7)(ih:Dp (Ge K) c)  (D:Nat->Prop) (w:World) (la:Option Addr) (ln lc:Nat) (ps:Value) (e:Em) (v:Value) (ks:List Value)
  (hst:K.Ex D w la ln lc ps e) (hn:Bx D w l v ks) (hr:Ar D w c ks) (hsz:e.st.length+2*bsize (nd l c)<=800000) :
  Calls Tryz.prog 91 #[.p K.wb,v] w fun r w'=>r=.returned (.tuple #[])/\K.Ex D w' la ln lc ps (Aq K.fns K.gl l (Aj c) (em K.fns K.gl c) e)/\A3 D w w':=by
 obtain⟨hlo,lcb,hncb⟩:=hst.lo;have hnds:=Cf l c;unfold Bx at hn;rw[Ai]at hn;obtain⟨b,cs,rfl,hD,hb,hl⟩:=hn;have e1:Cw l.kd=301:=by rw[hk];rfl
 have e2:E4 l.kd=303:=by rw[hk];rfl
 rw[e1];rw[e2]at hb;unfold Di at hl;simp only[hk]at hl;rw[A0n hk];obtain⟨sl,rfl,ho⟩:=hl;obtain⟨va,vn,vc,rfl⟩:∃va vn vc,sl=.slice va vn vc:=Qn ho.1;have hvn:vn=ks.length:=(Cm ho.1).1;have hkl:=hr.len;have hbl:=Qb c;have hem:=(Ox K.fns K.gl c).1 e;have HC:=Aad K c ih D w la ln lc ps e va vn vc ks hst ho hr z4ma;have HBk:=A0 hb;have d1:=A4 hb 2 _ rfl;have ld:=A6 hb;have Dy:=Z6 301 z4oa;have Ee:=Axe;clear hst hb e1 e2 hk hr ih ho hkl hbl;subst hvn;generalize J8:em K.fns K.gl c 0 e=Ch at *;unfold Cs;go_in;go_wp2_with fail
 refine(HC).mono ?_;rintro r w1 ⟨rfl,Ax,A2⟩;have B5:=A0 Ax;have A9:=A0 A2;have C8:=(A2.block b hD).trans HBk.o;clear Ax A2 d1 ld;have HNum:=Awa (B5.o.drewN 1).ew (B5.o.drewN 1).fr l.s;have d0:w1.cell? ⟨b,0,none⟩=some (.n l.line):=A4 C8 0 _ rfl;have d1:w1.cell? ⟨b,1,none⟩=some (.s l.s):=A4 C8 1 _ rfl;have ld:=A6 C8;clear C8;go_wp2;refine Jt 11 (by kernel_rfl) (by kernel_rfl) ?_;simp only[Jh,J1,Ia,Hl];iterate 6 (refine Fm (fun K' hK'=>?_);go_simp;refine hK' _ ?_;clear hK' K')
 refine Fm (fun K' hK'=>?_);go_simp;refine⟨_,HNum,hK' _ ?_⟩;clear hK' K';iterate 4 (refine Fm (fun K' hK'=>?_);go_simp;refine hK' _ ?_;clear hK' K')
 refine Js ?_;go_wp2_with fail
 refine(N1 (B5.o.drewN 1).ew z4ma 42 (Lo K.fns l.s) l.line).mono ?_;rintro r w9 ⟨rfl,Hf,Dm⟩;have HS9:=(B5.o.drewN 1).next (e':=(Ch).step 42 (Lo K.fns l.s) l.line) Dm Hf rfl;have Dq:A3 D w w9:=A9.o.trans ((Eb D w1 1).trans Dm);clear Hf Dm;exact z23a
def Awz(K:EC)(l:A5)(c:BT A5)(hk:l.kd=7)(ih:Dp (Ge K) c):Ge K l c:=by
 intro D w la ln lc ps e v ks hst hn hr hsz;have HM:=Aw5 K l c hk ih D w la ln lc ps e v ks hst hn hr hsz;obtain⟨hlo,lcb,hncb⟩:=hst.lo;unfold Bx at hn;rw[Ai]at hn;obtain⟨b,cs,rfl,hD,hb,hl⟩:=hn;have e1:Cw l.kd=301:=by rw[hk];rfl
 rw[e1]at HM ⊢;have ld:=A6 hb;have Dy:=Np 301 z4oa;have Ee:=O1 301 z4oa;have Fa:=P5 301 z4oa;have Ga:=Pv 301 z4oa;have Hj:=Pw 301 z4oa;have Jf:=S8 301 z4oa;have Kr:=Ux 301 z4oa;have ta7:=Wy 301 z4oa;exact z4ka
def Aw1(K:EC):∀(c:BT A5),Wf 0 c->Dp (Ge K) c:=by
 intro c;induction c with
 | nil=>intro _;trivial
 | node x y l c r D5 C6=>
  intro h;have hx:=h.exs;have hc:=D5 hx.2.1;refine⟨?_,C6 h.1⟩;have hk:=hx.1;unfold Ej at hk;simp only[Gz,F3,Jg]at hk;by_cases hb:127<=l.kd
  ·exact Awy K l c hb z4ma hc
  ·have D4:l.kd=1\/l.kd=2\/l.kd=3\/l.kd=4\/l.kd=5\/l.kd=6\/l.kd=7\/l.kd=8\/l.kd=9\/l.kd=10\/l.kd=11\/l.kd=12\/l.kd=13\/l.kd=14:=by omega
   rcases D4 with h|h|h|h|h|h|h|h|h|h|h|h|h|h
   ·exact Ax3 K l c h
   ·exact Axa K l c h
   ·exact Axb K l c h
   ·exact Ax0 K l c h
   ·exact Ax8 K l c h
   ·exact Axc K l c h
   ·exact Awz K l c h hc
   ·exact Ax1 K l c h hc
   ·exact Ax5 K l c h hc
   ·exact Ax4 K l c h hc
   ·exact Ax9 K l c h hc
   ·exact Ax2 K l c h hc
   ·exact Ax7 K l c h hc
   ·exact Ax6 K l c h hc
end
section
set_option maxRecDepth 100000
open Go.RowKit
open Go.Deep (BT)
variable {K:EC} {lbs:List Nat} {D:Nat->Prop} {w w':World} {e e':Em}
def z2ua {P:Prop} (h:P:=by
  exact⟨rfl,⟨_,_,_,_,_,_,_,_,k1,hlb⟩,k2⟩):P:=h
def EC.St.step(h:K.St lbs D w e)(hn:e.st.length<=900000)(op:Nat)(arg:Int)(line:Nat) :
  Calls Tryz.prog 55 #[.p K.wb,.n op,.i arg,.n line] w fun r w'=>r=.returned (.n e.st.length)/\K.St lbs D w' (e.step op arg line)/\A3 D w w':=by
 obtain⟨ρ,la,ln,lc,pa,pn,pc,bl,h,hlb⟩:=h;refine(N1 h.ew hn op arg line).mono ?_;rintro r w1 ⟨rfl,h1,h2⟩;obtain⟨k1,k2⟩:=h.Ro h2 (h.Pu.next (e':=e.step op arg line) h2 h1 rfl) rfl;exact z2ua
def EC.St.land(h:K.St lbs D w e)(j:Nat)(hj:j<e.st.length) :
  Calls Tryz.prog 140 #[.p K.wb,.n j] w fun r w'=>r=.returned (.tuple #[])/\K.St lbs D w' (e.land j)/\A3 D w w':=by
 obtain⟨ρ,la,ln,lc,pa,pn,pc,bl,h,hlb⟩:=h;refine(Z4 h.ew j hj).mono ?_;rintro r w1 ⟨rfl,h1,h2⟩;obtain⟨k1,k2⟩:=h.Ro h2 (h.Pu.next (e':=e.land j) h2 h1 rfl) rfl;exact z2ua
def EC.St.here(h:K.St lbs D w e):Calls Tryz.prog 92 #[.p K.wb] w fun r w'=>r=.returned (.n e.st.length)/\w'=w:=by
 obtain⟨ρ,la,ln,lc,pa,pn,pc,bl,h,hlb⟩:=h;exact A1c h.ew
def EC.St.var(h:K.St lbs D w e)(hn:e.st.length<=900000)(s:Nm)(lo gb:Nat) :
  Calls Tryz.prog 88 #[.p K.wb,.s s,.n lo,.n gb] w fun r w'=>r=.returned (.tuple #[])/\K.St lbs D w' (e.var K.gl s lo gb)/\A3 D w w':=by
 obtain⟨ρ,la,ln,lc,pa,pn,pc,bl,h,hlb⟩:=h;refine(Aak h.Pu hn s lo gb).mono ?_;rintro r w1 ⟨rfl,h1,h2⟩;obtain⟨k1,k2⟩:=h.Ro h2 h1 (Tc _ _ _ _ _).1;exact z2ua
def EC.St.expr{l:A5}{c:BT A5}{v:Value}{ks:List Value}(h:K.St lbs D w e)(hk:Ej l.kd=true)(hw:Wf 0 c)(hn:Bx D w l v ks)(hr:Ar D w c ks)(hsz:e.st.length+2*bsize (nd l c)<=800000) :
  Calls Tryz.prog 54 #[.p K.wb,v] w fun r w'=>r=.returned (.tuple #[])/\K.St lbs D w' (Aq K.fns K.gl l (Aj c) (em K.fns K.gl c) e)/\A3 D w w':=by
 obtain⟨ρ,la,ln,lc,pa,pn,pc,bl,h,hlb⟩:=h;have hx:=(Aw1 K (nd l c) ⟨trivial,.inl ⟨.inl rfl,hk,hw⟩⟩).1;refine(hx _ w la ln lc _ e v ks h.Pu (hn.weak h.dx) (Ar.keep (fun g hg _=>⟨rfl,h.dx g hg⟩) _ _ hr) hsz).mono ?_;rintro r w1 ⟨rfl,h1,h2⟩;obtain⟨k1,k2⟩:=h.Ro h2 h1 (Qg K.fns K.gl l c hk hw e).1;exact z2ua
def EC.St.drewN(h:K.St lbs D w e)(n:Nat):K.St lbs D (w.drewN n) e:=by
 obtain⟨ρ,la,ln,lc,pa,pn,pc,bl,h,hlb⟩:=h;obtain⟨k1,k2⟩:=h.Ro (Eb _ w n) (h.Pu.drewN n) rfl;exact⟨_,_,_,_,_,_,_,_,k1,hlb⟩
def EC.Sv.Nx{ρ:Nat->Nat}{la:Option Addr}{ln lc:Nat}{pa:Option Addr}{pn pc:Nat}{bl:List LB}{sa:Option Addr}{sn sc:Nat}(h:K.Sv D w e ρ la ln lc pa pn pc bl)(hv:J3 (dX w.heap.size ρ) K.wb K.te w (.slice K.fa K.fn K.fc) (.slice K.ga K.gn K.gc) (.slice la ln lc) (.slice pa pn pc) e.slots e.st sa sn sc) :
  H9 9 K.wb 2 w #[.slice K.fa K.fn K.fc,.slice K.ga K.gn K.gc,.slice la ln lc,.slice pa pn pc,.n e.slots,.slice sa sn sc] K.te la ln lc (Dx e.loc):=h.Pu.stk hv
def EC.Sv.Ta{ρ:Nat->Nat}{la:Option Addr}{ln lc:Nat}{pa:Option Addr}{pn pc:Nat}{bl:List LB}{sa:Option Addr}{sn sc:Nat}(h:K.Sv D w e ρ la ln lc pa pn pc bl)(hv:J3 (dX w.heap.size ρ) K.wb K.te w (.slice K.fa K.fn K.fc) (.slice K.ga K.gn K.gc) (.slice la ln lc) (.slice pa pn pc) e.slots e.st sa sn sc) :
  H9 260 K.wb 3 w #[.slice K.fa K.fn K.fc,.slice K.ga K.gn K.gc,.slice la ln lc,.slice pa pn pc,.n e.slots,.slice sa sn sc] K.te pa pn pc (bl.map fun b=>Cs b.1).reverse:=
 ⟨hv.cell,rfl,h.pr,fun e=>by have:=h.pro _ e;have:=h.one.1;omega⟩
def Aae(h:K.St lbs D w e)(hn:e.loc.length+1<=100000)(s:Nm) :
  Calls Tryz.prog 81 #[.p K.wb,.s s] w fun r w'=>r=.returned (.n e.loc.length)/\K.St lbs D w' (e.local' s)/\A3 D w w':=by
 obtain⟨ρ,la,ln,lc,pa,pn,pc,bl,h,hlb⟩:=h;obtain⟨sa,sn,sc,hv⟩:=h.ew;have lb:=A6 hv.cell;have HL:=Un (h.Nx hv);have HPu:=Yw (h.Nx hv) (by rw[Rn];omega) ⟨s.toArray⟩ z4ra;have HPL:=fun(w1:World) hp=>h.Apd s hv (w1:=w1) hn hp;rw[hlb]at HPL;rw[Rn]at HL;go_in;go_wp2_with fail
 refine HL.mono ?_;rintro r w ⟨rfl,rfl⟩;go_wp2_with fail
 refine HPu.mono ?_;rintro r w1 ⟨rfl,hp⟩;have Cn:=HPL w1 hp;obtain⟨g,cap,Ax,_,_⟩:=hp;have Fb:=Un (w:=w1.drew) ⟨Ax.blk,Ax.cell,Bc Ax.own (fun _ _ _=>rfl),Ax.ne⟩;have c4:=A4 Ax.blk 4 (.n e.slots) z4ra;have Bn:=A6 Ax.blk;have f1:=By Ax.blk;rw[Ds,Rn]at Fb;go_wp2;refine Jt 11 (by kernel_rfl) (by kernel_rfl) ?_;simp only[Jh,J1,Ia,Hl];iterate 9 (refine Fm (fun K' hK'=>?_);go_simp;refine hK' _ ?_;clear hK' K')
 refine Fm (fun K' hK'=>?_);go_simp;refine⟨_,Fb,hK' _ ?_⟩;refine Fm (fun K' hK'=>?_);go_simp;have hmax:(if(e.slots:Int)<(e.loc.length:Int)+1 then(e.loc.length:Int)+1 else(e.slots:Int))=((max e.slots (e.loc.length+1):Nat):Int):=by
  split <;> omega
 rw[hmax];refine hK' _ ?_;refine Js ?_;go_wp2;go_ret;obtain⟨k1,k2⟩:=Cn;exact⟨rfl,k1.drewN 1,k2.trans (Eb D _ 1)⟩
def Nb(K:EC)(l:A5)(c:BT A5):Prop:=∀(lbs:List Nat) (D:Nat->Prop) (w:World) (e:Em) (v:Value) (ks:List Value),
 K.St lbs D w e->Bx D w l v ks->Ar D w c ks->Lp (nd l c) e.lps.length->E1 e->e.st.length+2*bsize (nd l c)<=800000->e.loc.length+bsize (nd l c)<=90000->e.lps.length+bsize (nd l c)<=90000->
 Calls Tryz.prog 56 #[.p K.wb,v] w fun r w'=>r=.returned (.tuple #[])/\K.St lbs D w' (Aq K.fns K.gl l (Aj c) (em K.fns K.gl c) e)/\A3 D w w'
def Lp.nd{x y:Nat}{l:A5}{c r:BT A5}{n:Nat}(h:Lp (.node x y l c r) n):Lp (nd l c) n:=⟨h.1,h.2.1,trivial⟩
def Lp.drop:∀(i:Nat) (c:BT A5) (n:Nat),Lp c n->Lp (Cp i c) n:=by
 intro i;induction i with
 | zero=>intro c n h;rw[show Cp 0 c=c from by cases c <;> rfl];exact h
 | succ i ih=>
  intro c n h;cases c with
  | nil=>exact h
  | node x y l c r=>exact ih r n h.2.2
end
section
set_option maxRecDepth 100000
open Go.RowKit
open Go.Deep (BT)
def Aaj(K:EC)(c:BT A5)(hok:Dp (Nb K) c)(lbs:List Nat)(D:Nat->Prop)(w:World)(e:Em)(va:Option Addr)(vn vc:Nat)(ks:List Value)
  (hst:K.St lbs D w e) (hown:Dj D w 142 1 (.slice va vn vc) ks.length ks) (hrep:Ar D w c ks) (hlp:Lp c e.lps.length) (hbb:E1 e) (hsz:e.st.length+2*bsize c<=800000) (hlo:e.loc.length+bsize c<=90000) (hll:e.lps.length+bsize c<=90000) :
  Calls Tryz.prog 82 #[.p K.wb,.slice va vn vc] w fun r w'=>r=.returned (.tuple #[])/\K.St lbs D w' (em K.fns K.gl c 0 e)/\A3 D w w':=by
 have hvn:vn=ks.length:=(Cm hown.1).1;subst hvn;have HSt0:=A0 hst;have HOwn:=A0 hown;have HRep:=A0 hrep;have hlen:=hrep.len;have HLen:=A0 hlen;have HLp:=A0 hlp;have hls:=Qb c;have hkl:ks.length<=400000:=by omega
 have HBb0:=A0 hbb;clear hst hown hrep hlen hlp hbb;go_in;go_wp2;go_loopg [8] ks.length (fun k v wr=>∃(i:Nat) (ei:Em),v=.i i/\i+k=ks.length/\K.St lbs D wr ei/\em K.fns K.gl (Cp i c) 0 ei=em K.fns K.gl c 0 e/\ei.lps.length=e.lps.length/\E1 ei/\ei.st.length+2*bsize (Cp i c)<=800000/\ei.loc.length+bsize (Cp i c)<=90000/\bsize (Cp i c)<=bsize c/\A3 D w wr)
 case atStart=>exact⟨0,e,rfl,by omega,HSt0.o,rfl,rfl,HBb0.o,hsz,hlo,Af _,A3.refl _ _⟩
 case round=>
  clear HSt0 HBb0;obtain⟨i,ei,rfl,hik,hst,hse,hli,hbb,hsi,hci,hbi,hbel⟩:=hrel;have HBb:=A0 hbb;have HSt:=A0 hst;have HSe:=A0 hse;have HLi:=A0 hli;have HBel:=A0 hbel;clear hst hse hbel hli hbb;by_cases hlt:i<ks.length
  ·have hr:=HRep.o.Bv HBel.o;obtain⟨x,y,l,cc,r,hd,v,ks',hv,hn,hrk⟩:=Ar.at' i c ks hr z58a;obtain⟨g,rfl,_,hcap,lg,hcell⟩:=G1 (HOwn.o.Bv HBel.o).1 z4ma;have d0:=hcell i v hv;have hE:=A0 (hok.at' i c x y l cc r hd);have hz:bsize (Cp i c)=bsize (nd l cc)+bsize r:=by rw[hd,Cf,bsize]
   have hdn:=Ra i c x y l cc r hd;have HNx:em K.fns K.gl (Cp (i+1) c) 0 (Aq K.fns K.gl l (Aj cc) (em K.fns K.gl cc) ei)=em K.fns K.gl c 0 e:=by
    show _=_;rw[hdn,←HSe.o,hd,Iq]
   have hsn:(Aq K.fns K.gl l (Aj cc) (em K.fns K.gl cc) ei).st.length+2*bsize (Cp (i+1) c)<=800000:=by
    have:=I0 K.fns K.gl l cc ei;rw[hdn];omega
   have hcn:(Aq K.fns K.gl l (Aj cc) (em K.fns K.gl cc) ei).loc.length+bsize (Cp (i+1) c)<=90000/\bsize (Cp (i+1) c)<=bsize c:=by
    have:=Ai4 K.fns K.gl l cc ei;rw[hdn];omega
   have HLn:(Aq K.fns K.gl l (Aj cc) (em K.fns K.gl cc) ei).lps.length=e.lps.length:=(A5m K.fns K.gl l cc ei).trans HLi.o;have hlpn:Lp (nd l cc) ei.lps.length:=by
    have:=Lp.drop i c _ HLp.o;rw[hd,←HLi.o]at this;exact this.nd
   have HC:=hE.out lbs D wr ei v ks' HSt.o hn hrk hlpn HBb.o z4ma z4ma (by have:=HLi.o;omega);have HSn:=A0 hsn;have HBn:=Y0 K.fns K.gl l cc ei HBb.o;have HCn:=A0 hcn;clear hr hd hv hn hrk hcell hsn hz hcn hdn hlpn;go_wp2_with fail
   refine HC.mono ?_;rintro r' w1 ⟨rfl,Ax,A2⟩;have B5:=A0 Ax;have A9:A3 D w w1:=HBel.o.trans A2;clear Ax A2;go_wp2;go_roundg (gk-1)
   case measure=>omega
   case rel=>exact⟨i+1,_,rfl,by omega,B5.o,HNx,HLn,HBn,HSn.o,HCn.o.1,HCn.o.2,A9⟩
  ·have HE:Hid (ei=em K.fns K.gl c 0 e):=by
    exact z0pa
   exact z2ha
def Ww(K:EC)(c:BT A5)(hok:Dp (Nb K) c)(lbs:List Nat)(D:Nat->Prop)(w:World)(e:Em)(va:Option Addr)(vn vc:Nat)(ks:List Value)
  (hst:K.St lbs D w e) (hown:Dj D w 142 1 (.slice va vn vc) ks.length ks) (hrep:Ar D w c ks) (hlp:Lp c e.lps.length) (hbb:E1 e) (hsz:e.st.length+2*bsize c<=800000) (hlo:e.loc.length+bsize c<=90000) (hll:e.lps.length+bsize c<=90000) :
  Calls Tryz.prog 143 #[.p K.wb,.slice va vn vc] w fun r w'=>r=.returned (.tuple #[])/\K.St lbs D w' ((em K.fns K.gl c 0 e).cut e.loc.length)/\A3 D w w':=by
 have HC:=Aaj K c hok lbs D w e va vn vc ks hst hown hrep hlp hbb hsz hlo hll;have hlb:=hst.lo.2.1;have hl1:e.loc.length<=(em K.fns K.gl c 0 e).loc.length:=Aii K.fns K.gl c 0 e;obtain⟨ρ,la,ln,lc,pa,pn,pc,bl,h,_⟩:=hst;obtain⟨sa,sn,sc,hv⟩:=h.ew;have HL:=Un (h.Nx hv);rw[Rn]at HL;go_in;go_wp2_with fail
 refine HL.mono ?_;rintro r w ⟨rfl,rfl⟩;go_wp2_with fail
 refine HC.mono ?_;rintro r w1 ⟨rfl,Ax,A2⟩;have hlb1:=Ax.lo.2.1;obtain⟨ρ,la,ln,lc,pa,pn,pc,bl,h,hlb⟩:=Ax;obtain⟨sa,sn,sc,hv⟩:=h.ew;have HCut:=A27 (h.Nx hv) e.loc.length (by rw[Rn];exact hl1) z4ra;have HTo:=fun(w2:World) hp=>h.A5g e.loc.length hv (w':=w2) hp;rw[hlb]at HTo;go_wp2_with fail
 refine HCut.mono ?_;rintro r w2 ⟨rfl,hp⟩;obtain⟨k1,k2⟩:=HTo w2 hp;have Ab:A3 D w w2:=A2.trans k2;go_wp2;go_end0;exact⟨rfl,k1,Ab⟩
def z3aa {P:Prop} (h:P:=by
  rintro r w2 ⟨rfl,Bj,Ad⟩;have Ab:A3 D w w2:=A2.trans Ad;go_wp2;go_end0;subst J8;exact⟨rfl,Bj,Ab⟩):P:=h
def Awp(K:EC)(l:A5)(c:BT A5)(hk:l.kd=27)(hwf:Wf 0 c):Nb K l c:=by
 intro lbs D w e v ks hst hn hr hlp hbb hsz hlo hll;obtain⟨hlw,lcb,hncb⟩:=hst.lo;have hnds:=Cf l c;unfold Bx at hn;rw[Ai]at hn;obtain⟨b,cs,rfl,hD,hb,hl⟩:=hn;have e1:Cw l.kd=265:=by rw[hk];rfl
 have e2:E4 l.kd=267:=by rw[hk];rfl
 rw[e1];rw[e2]at hb;unfold Di at hl;simp only[hk]at hl;rw[A0e hk];obtain⟨a,rfl,rfl⟩:=hl;obtain⟨x1,y1,l1,c1,r1,Du,rfl,Cc,Cd,hz⟩:=hr.cons';obtain rfl:=hz.nil';have Cu:bsize (.node x1 y1 l1 c1 .nil)=bsize (nd l1 c1):=by rw[Cf,bsize];rfl
 have hlen1:=I0 K.fns K.gl l1 c1 e;have hloc1:(Aq K.fns K.gl l1 (Aj c1) (em K.fns K.gl c1) e).loc.length<=e.loc.length:=by rw[(Qg K.fns K.gl l1 c1 hwf.exs.1 hwf.exs.2.1 e).2.1];exact Af _
 have hxs:=hwf.exs;rw[Iq,em];have HC:=hst.expr hxs.1 hxs.2.1 Cc Cd z4ma;have d1:=A4 hb 1 a rfl;have ld:=A6 hb;have Dy:=Pr 265 z4oa;have Ee:=Rv 265 z4oa;have Fa:=T9 265 z4oa;have Ga:=Up 265 z4oa;have Hj:=Wl 265 z4oa;have Jf:=Yv 265 z4oa;have Kr:=As9;generalize J8:Aq K.fns K.gl l1 (Aj c1) (em K.fns K.gl c1) e=Ch at *;unfold Cs;go_in;go_wp2_with fail
 refine(HC).mono ?_;rintro r w1 ⟨rfl,Ax,A2⟩;have C8:=(A2.block b hD).trans hb;have d0:w1.cell? ⟨b,0,none⟩=some (.n l.line):=A4 C8 0 _ rfl;have ld:=A6 C8;go_wp2_with fail
 refine(Ax.step z4ma 41 0 l.line).mono ?_;exact z3aa
def Awl(K:EC)(l:A5)(c:BT A5)(hk:l.kd=30)(hwf:Wf 0 c):Nb K l c:=by
 intro lbs D w e v ks hst hn hr hlp hbb hsz hlo hll;obtain⟨hlw,lcb,hncb⟩:=hst.lo;have hnds:=Cf l c;unfold Bx at hn;rw[Ai]at hn;obtain⟨b,cs,rfl,hD,hb,hl⟩:=hn;have e1:Cw l.kd=270:=by rw[hk];rfl
 have e2:E4 l.kd=272:=by rw[hk];rfl
 rw[e1];rw[e2]at hb;unfold Di at hl;simp only[hk]at hl;rw[A0i hk];obtain⟨a,rfl,rfl⟩:=hl;obtain⟨x1,y1,l1,c1,r1,Du,rfl,Cc,Cd,hz⟩:=hr.cons';obtain rfl:=hz.nil';have Cu:bsize (.node x1 y1 l1 c1 .nil)=bsize (nd l1 c1):=by rw[Cf,bsize];rfl
 have hlen1:=I0 K.fns K.gl l1 c1 e;have hloc1:(Aq K.fns K.gl l1 (Aj c1) (em K.fns K.gl c1) e).loc.length<=e.loc.length:=by rw[(Qg K.fns K.gl l1 c1 hwf.exs.1 hwf.exs.2.1 e).2.1];exact Af _
 have hxs:=hwf.exs;rw[Iq,em];have HC:=hst.expr hxs.1 hxs.2.1 Cc Cd z4ma;have d1:=A4 hb 0 a rfl;have ld:=A6 hb;have Dy:=Pr 270 z4oa;have Ee:=Rv 270 z4oa;have Fa:=T9 270 z4oa;have Ga:=Up 270 z4oa;have Hj:=Wl 270 z4oa;have Jf:=Yv 270 z4oa;have Kr:=A2d 270 z4oa;have ta7:=Asr 270 z4oa;have ta8:=As6;generalize J8:Aq K.fns K.gl l1 (Aj c1) (em K.fns K.gl c1) e=Ch at *;unfold Cs;go_in;go_wp2_with fail
 refine(HC).mono ?_;rintro r w1 ⟨rfl,Ax,A2⟩;go_wp2_with fail
 refine(Ax.step z4ma 5 0 0).mono ?_;exact z3aa
def Awo(K:EC)(l:A5)(c:BT A5)(hk:l.kd=21)(hwf:Wf 0 c):Nb K l c:=by
 intro lbs D w e v ks hst hn hr hlp hbb hsz hlo hll;obtain⟨hlw,lcb,hncb⟩:=hst.lo;have hnds:=Cf l c;unfold Bx at hn;rw[Ai]at hn;obtain⟨b,cs,rfl,hD,hb,hl⟩:=hn;have e1:Cw l.kd=145:=by rw[hk];rfl
 have e2:E4 l.kd=152:=by rw[hk];rfl
 rw[e1];rw[e2]at hb;unfold Di at hl;simp only[hk]at hl;rw[A5j hk];obtain⟨a,rfl,rfl⟩:=hl;obtain⟨x1,y1,l1,c1,r1,Du,rfl,Cc,Cd,hz⟩:=hr.cons';obtain rfl:=hz.nil';have Cu:bsize (.node x1 y1 l1 c1 .nil)=bsize (nd l1 c1):=by rw[Cf,bsize];rfl
 have hlen1:=I0 K.fns K.gl l1 c1 e;have hloc1:(Aq K.fns K.gl l1 (Aj c1) (em K.fns K.gl c1) e).loc.length<=e.loc.length:=by rw[(Qg K.fns K.gl l1 c1 hwf.exs.1 hwf.exs.2.1 e).2.1];exact Af _
 have hxs:=hwf.exs;rw[Iq,em];have HC:=hst.expr hxs.1 hxs.2.1 Cc Cd z4ma;have d1:=A4 hb 2 a rfl;have ld:=A6 hb;have Dy:=A93;generalize J8:Aq K.fns K.gl l1 (Aj c1) (em K.fns K.gl c1) e=Ch at *;unfold Cs;go_in;go_wp2_with fail
 refine(HC).mono ?_;rintro r w1 ⟨rfl,Ax,A2⟩;have C8:=(A2.block b hD).trans hb;have d0:w1.cell? ⟨b,1,none⟩=some (.s l.s):=A4 C8 1 _ rfl;have ld:=A6 C8;go_wp2_with fail
 refine(Aae Ax z4ma l.s).mono ?_;rintro r w2 ⟨rfl,Bj,Ad⟩;have Ab:A3 D w w2:=A2.trans Ad;go_wp2_with fail
 refine(Bj.step (by show Ch.st.length<=_;omega) 3 (Ch.loc.length:Nat) 0).mono ?_;rintro r w3 ⟨rfl,Dc,Ay⟩;have Ba:A3 D w w3:=Ab.trans Ay;go_wp2;go_end0;subst J8;exact⟨rfl,Dc,Ba⟩
def Awu(K:EC)(l:A5)(c:BT A5)(hk:l.kd=24)(hwf:Wf 0 c)  (lbs:List Nat) (D:Nat->Prop) (w:World) (e:Em) (b:Nat) (a:Value) (ks:List Value) (hst:K.St lbs D w e) (hb:w.heap[b]?=some (.cells #[.n l.line,a] 318 (0,0))) (hks:(ks=[]/\a=.nilIface)\/ks=[a]) (hr:Ar D w c ks) (hsz:e.st.length+2*bsize (nd l c)<=800000) :
  Calls Tryz.prog 95 #[.p K.wb,.p b] w fun r w'=>r=.returned (.tuple #[])/\K.St lbs D w' (Aq K.fns K.gl l (Aj c) (em K.fns K.gl c) e)/\A3 D w w':=by
 obtain⟨hlw,lcb,hncb⟩:=hst.lo;have hnds:=Cf l c;rw[Xz hk];have d1:=A4 hb 1 _ rfl;have ld:=A6 hb;rcases hks with⟨rfl,rfl⟩|rfl
 ·rw[hr.nil'];have HC:=A0 (hst.step z4ma 43 0 0);go_in;go_wp2_with fail
  refine HC.o.mono ?_;rintro r w1 ⟨rfl,Ax,A2⟩;have B5:=A0 Ax;have A9:=A0 A2;go_wp2;refine B9 (v:=.tuple #[]) (by simp[results,Tryz.results95,go_sem]) rfl ?_;exact⟨rfl,B5.o,A9.o⟩
 ·obtain⟨x1,y1,l1,c1,r1,Du,rfl,Cc,Cd,hz⟩:=hr.cons';obtain rfl:=hz.nil';have hxs:=hwf.exs;have Cu:bsize (.node x1 y1 l1 c1 .nil)=bsize (nd l1 c1):=by rw[Cf,bsize];rfl
  have hlen1:=I0 K.fns K.gl l1 c1 e;rw[A1 (by simp[Aj]),Iq,em];obtain⟨t,x,rfl⟩:∃t x,a=.iface t x:=Cc.isIface (Rc hxs.1).1 (Rc hxs.1).2.1;have HC:=A0 (hst.expr hxs.1 hxs.2.1 Cc Cd z4ma);generalize J8:Aq K.fns K.gl l1 (Aj c1) (em K.fns K.gl c1) e=Ch at *;go_in;go_wp2_with fail
  refine HC.o.mono ?_;rintro r w1 ⟨rfl,Ax,A2⟩;have B5:=A0 Ax;have A9:=A0 A2;go_wp2_with fail
  refine(B5.o.step z4ma 44 0 0).mono ?_;rintro r w2 ⟨rfl,Bj,Ad⟩;have Ab:A3 D w w2:=A9.o.trans Ad;go_wp2;go_end0;subst J8;exact⟨rfl,Bj,Ab⟩
def z4ha {P:Prop} (h:P:=by
  unfold Cs;go_in;go_wp2_with fail
  refine(HC).mono ?_;exact z0za):P:=h
def Awn(K:EC)(l:A5)(c:BT A5)(hk:l.kd=24)(hwf:Wf 0 c):Nb K l c:=by
 intro lbs D w e v ks hst hn hr hlp hbb hsz hlo hll;obtain⟨hlw,lcb,hncb⟩:=hst.lo;have hnds:=Cf l c;unfold Bx at hn;rw[Ai]at hn;obtain⟨b,cs,rfl,hD,hb,hl⟩:=hn;have e1:Cw l.kd=257:=by rw[hk];rfl
 have e2:E4 l.kd=318:=by rw[hk];rfl
 rw[e1];rw[e2]at hb;unfold Di at hl;simp only[hk]at hl;obtain⟨a,rfl,hks⟩:=hl;have HC:=Awu K l c hk hwf lbs D w e b a ks hst hb hks hr hsz;have ld:=A6 hb;have Dy:=Pr 257 z4oa;have Ee:=Rv 257 z4oa;have Fa:=T9 257 z4oa;have Ga:=Asa;exact z4ha
def Awx(K:EC)(l:A5)(c:BT A5)(hk:l.kd=28)(hwf:Wf 0 c)(lbs:List Nat)(D:Nat->Prop)(w:World)(e:Em)(b:Nat)(b2:Nat)(a:Value)(Ky:D b2)(hb:w.heap[b]?=some (.cells #[.iface 238 (Cs b2),a] 322 (0,0)))(Ad:w.heap[b2]?=some (.cells #[Hw l.line,Ml l.s] 240 (0,0)))(hr:Ar D w c [a])(hst:K.St lbs D w e)(hsz:e.st.length+2*bsize (nd l c)<=800000) :
  Calls Tryz.prog 97 #[.p K.wb,.p b] w fun r w'=>r=.returned (.tuple #[])/\K.St lbs D w' (Aq K.fns K.gl l (Aj c) (em K.fns K.gl c) e)/\A3 D w w':=by
 obtain⟨hlw,lcb,hncb⟩:=hst.lo;have hnds:=Cf l c;rw[A0f hk];obtain⟨x1,y1,l1,c1,r1,Du,rfl,Cc,Cd,hz⟩:=hr.cons';obtain rfl:=hz.nil';have hxs:=hwf.exs;have Cu:bsize (.node x1 y1 l1 c1 .nil)=bsize (nd l1 c1):=by rw[Cf,bsize];rfl
 have hlen1:=I0 K.fns K.gl l1 c1 e;rw[Iq,em];have HC:=hst.expr hxs.1 hxs.2.1 Cc Cd z4ma;have Ab:=A0 Ad;have d0:=A4 hb 0 _ rfl;have d1:=A4 hb 1 a rfl;have ld:=A6 hb;have Dy:=Aao;generalize J8:Aq K.fns K.gl l1 (Aj c1) (em K.fns K.gl c1) e=Ch at *;unfold Cs at d0;go_in;go_wp2_with fail
 refine(HC).mono ?_;rintro r w1 ⟨rfl,Ax,A2⟩;have C8:=(A2.block b2 Ky).trans Ab.o;have d1:w1.cell? ⟨b2,1,none⟩=some (.s l.s):=A4 C8 1 _ rfl;have ld:=A6 C8;go_wp2_with fail
 refine(Ax.var z4ma l.s 3 4).mono ?_;rintro r w2 ⟨rfl,Bj,Ad⟩;have HBB:A3 D w w2:=A2.trans Ad;go_wp2;go_end0;subst J8;exact⟨rfl,Bj,HBB⟩
def z1ia {P:Prop} (h:P:=by
  have ld:=A6 hb;have Dy:=Pr 268 z4oa;have Ee:=Rv 268 z4oa;have Fa:=T9 268 z4oa;have Ga:=Up 268 z4oa;have Hj:=Wl 268 z4oa;have Jf:=Yv 268 z4oa;have Kr:=A2d 268 z4oa;have ta7:=A94;unfold Cs;go_in;go_wp2_with fail
  refine(HC).mono ?_;exact z0za):P:=h
def Awr(K:EC)(l:A5)(c:BT A5)(hk:l.kd=28)(hwf:Wf 0 c):Nb K l c:=by
 intro lbs D w e v ks hst hn hr hlp hbb hsz hlo hll;obtain⟨hlw,lcb,hncb⟩:=hst.lo;have hnds:=Cf l c;unfold Bx at hn;rw[Ai]at hn;obtain⟨b,cs,rfl,hD,hb,hl⟩:=hn;have e1:Cw l.kd=268:=by rw[hk];rfl
 have e2:E4 l.kd=322:=by rw[hk];rfl
 rw[e1];rw[e2]at hb;unfold Di at hl;simp only[hk]at hl;obtain⟨b2,a,rfl,Ky,Ad,rfl⟩:=hl;have HC:=Awx K l c hk hwf lbs D w e b b2 a Ky hb Ad hr hst hsz;exact z1ia
def Aww(K:EC)(l:A5)(c:BT A5)(hk:l.kd=29)(hwf:Wf 0 c)(lbs:List Nat)(D:Nat->Prop)(w:World)(e:Em)(b:Nat)(b2:Nat)(o p a:Value)(hD:D b)(Ky:D b2)(hb:w.heap[b]?=some (.cells #[.iface 310 (Cs b2),a] 322 (0,0)))(Ad:w.heap[b2]?=some (.cells #[Hw l.line,o,p] 312 (0,0)))(hr:Ar D w c [o,p,a])(hst:K.St lbs D w e)(hsz:e.st.length+2*bsize (nd l c)<=800000) :
  Calls Tryz.prog 97 #[.p K.wb,.p b] w fun r w'=>r=.returned (.tuple #[])/\K.St lbs D w' (Aq K.fns K.gl l (Aj c) (em K.fns K.gl c) e)/\A3 D w w':=by
 obtain⟨hlw,lcb,hncb⟩:=hst.lo;have hnds:=Cf l c;rw[A0g hk];obtain⟨x1,y1,l1,c1,r1,Du,rfl,Cc,Cd,hz⟩:=hr.cons';obtain⟨x2,y2,l2,c2,r2,I7,rfl,Eu,C7,Dg⟩:=hz.cons';obtain⟨x3,y3,l3,c3,r3,ks3,rfl,hn3,Gg,hz3⟩:=Dg.cons';obtain rfl:=hz3.nil';have Er:=hwf.exs;have I5:=Er.2.2.exs;have hx3:=I5.2.2.exs;have Cu:bsize (.node x1 y1 l1 c1 (.node x2 y2 l2 c2 (.node x3 y3 l3 c3 .nil)))=bsize (nd l1 c1)+bsize (nd l2 c2)+bsize (nd l3 c3):=by rw[Cf,Cf,Cf,bsize,bsize,bsize,bsize];omega
 rw[Iq,Iq,Iq,em];have hl1:=I0 K.fns K.gl l1 c1 e;have Gx:=I0 K.fns K.gl l2 c2 (Aq K.fns K.gl l1 (Aj c1) (em K.fns K.gl c1) e);have hl3:=I0 K.fns K.gl l3 c3 (Aq K.fns K.gl l2 (Aj c2) (em K.fns K.gl c2) (Aq K.fns K.gl l1 (Aj c1) (em K.fns K.gl c1) e));have HC1:=hst.expr Er.1 Er.2.1 Cc Cd z4ma;have Fx:=fun(W:World) (e2:Em) (he:e2.st.length+2*bsize (nd l2 c2)<=800000) (hx:K.St lbs D W e2) (hbd:A3 D w W)=>hx.expr I5.1 I5.2.1 (Eu.Bv hbd) (C7.Bv hbd) he;have HC3:=fun(W:World) (e2:Em) (he:e2.st.length+2*bsize (nd l3 c3)<=800000) (hx:K.St lbs D W e2) (hbd:A3 D w W)=>hx.expr hx3.1 hx3.2.1 (hn3.Bv hbd) (Gg.Bv hbd) he;have HBj:=A0 Ad;have d0:=A4 hb 0 _ rfl;have ld:=A6 hb;have g1:=A4 Ad 1 o rfl;have lg:=A6 Ad;have Dy:=Pw 310 z4oa;have Ee:=Aam;generalize J8:Aq K.fns K.gl l1 (Aj c1) (em K.fns K.gl c1) e=Ch at *;generalize hE2:Aq K.fns K.gl l2 (Aj c2) (em K.fns K.gl c2) Ch=G6 at *;generalize hE3:Aq K.fns K.gl l3 (Aj c3) (em K.fns K.gl c3) G6=em3 at *;unfold Cs at d0;go_in;go_wp2_with fail
 refine(HC1).mono ?_;rintro r w1 ⟨rfl,Ax,A2⟩;have hbj1:=(A2.block b2 Ky).trans HBj.o;have HBk1:=(A2.block b hD).trans hb;have g2:=A4 hbj1 2 p rfl;have lg:=A6 hbj1;go_wp2_with fail
 refine(Fx _ _ z4ma Ax A2).mono ?_;rintro r w2 ⟨rfl,Bj,Ad⟩;rw[hE2]at Bj;have Ab:A3 D w w2:=A2.trans Ad;have Ep:=(Ad.block b hD).trans HBk1;have HBj2:=(Ad.block b2 Ky).trans hbj1;have d1:=A4 Ep 1 a rfl;have ld:=A6 Ep;go_wp2_with fail
 refine(HC3 _ _ z4ma Bj Ab).mono ?_;rintro r w3 ⟨rfl,Dc,Ay⟩;rw[hE3]at Dc;have Ba:A3 D w w3:=Ab.trans Ay;have hbj3:=(Ay.block b2 Ky).trans HBj2;have g0:w3.cell? ⟨b2,0,none⟩=some (.n l.line):=A4 hbj3 0 _ rfl;have lg:=A6 hbj3;go_wp2_with fail
 refine(Dc.step z4ma 40 0 l.line).mono ?_;rintro r w4 ⟨rfl,He,Bz⟩;have D6:A3 D w w4:=Ba.trans Bz;go_wp2;go_end0;exact⟨rfl,He,D6⟩
def Awq(K:EC)(l:A5)(c:BT A5)(hk:l.kd=29)(hwf:Wf 0 c):Nb K l c:=by
 intro lbs D w e v ks hst hn hr hlp hbb hsz hlo hll;obtain⟨hlw,lcb,hncb⟩:=hst.lo;have hnds:=Cf l c;unfold Bx at hn;rw[Ai]at hn;obtain⟨b,cs,rfl,hD,hb,hl⟩:=hn;have e1:Cw l.kd=268:=by rw[hk];rfl
 have e2:E4 l.kd=322:=by rw[hk];rfl
 rw[e1];rw[e2]at hb;unfold Di at hl;simp only[hk]at hl;obtain⟨b2,o,p,a,rfl,Ky,Ad,rfl⟩:=hl;have HC:=Aww K l c hk hwf lbs D w e b b2 o p a hD Ky hb Ad hr hst hsz;exact z1ia
