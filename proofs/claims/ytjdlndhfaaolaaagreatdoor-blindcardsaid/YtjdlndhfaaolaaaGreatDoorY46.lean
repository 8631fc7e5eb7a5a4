import Derived.Test.YtjdlndhfaaolaaaGreatDoorY45
set_option maxHeartbeats 20000000
set_option linter.all false
namespace Go.Proofs.YtjdlndhfaaolaaaGreatDoor
section
set_option maxRecDepth 100000
open Go.RowKit
open Go.Deep (BT)
variable {D:Nat->Prop} {kb pb:Nat} {P:C5} {ps:List Kn} {pa:Option Addr} {pc:Nat} {w w':World} {ab:List Kn} {va:Option Addr} {vc:Nat}
def Nd(w:World)(o:Obj)(a:Array Value)(t:TypeId):((w.alloc o).alloc (.cells a t)).heap[w.heap.size+1]?=some (.cells a t (0,0)):=by
 rw[show w.heap.size+1=(w.alloc o).heap.size by simp];exact Bp _ _
def Ie(w:World)(o o':Obj):Bw w ((w.alloc o).alloc o'):=Ah (Ah (Al _ _) (Af _) _) z4ra _
def gvV:Option Kn->Value
 | some x=>.tuple #[Bm x,.bool true]
 | none=>.tuple #[Bm E2,.bool false]
def z55a {P:Prop} (h:P:=by simp[results,Tryz.results303,go_sem,Bm,r0,r1,r2,r3,r4,r5,r6]):P:=h
def Ak7(h:Gf D kb pb P ps pa pc w ab va vc)(i:Aa)(hop:i.op=1\/i.op=2\/i.op=42\/i.op=39)(ha:0<=i.arg):Calls Tryz.prog 303 #[.p kb,Ac i] w (KP w (.tuple #[Bm (Mi ps i),.bool true])):=by
 have HC:=fun(W:World) (hb:Bw w W)=>A7b (h.below hb) i ha;have lb:=A6 h.st.blk;generalize Mi ps i=x at *;obtain⟨op,arg,line,v⟩:=i;unfold Ac at *;try unfold KP at HC
 try unfold Bm at HC
 dsimp only at *;rcases hop with rfl|rfl|rfl|rfl <;>
  (go_in
   go_wp2_with fail
   refine(HC _ (Ie _ _ _)).mono ?_;rintro e w1 ⟨rfl,A2⟩;have Az:=(A2.block (w.heap.size+1) z4ra).trans (Nd _ _ _ _);have Dq:Bw w w1:=(Ie _ _ _).trans (A2.mono z4qa);have r0:=A4 Az 0 _ rfl;have r1:=A4 Az 1 _ rfl;have r2:=A4 Az 2 _ rfl;have r3:=A4 Az 3 _ rfl;have r4:=A4 Az 4 _ rfl;have r5:=A4 Az 5 _ rfl;have r6:=A4 Az 6 _ rfl;have fr:=By Az;have lr:=A6 Az;go_wp2;refine B9 (v:=.tuple #[Bm x,.bool true]) z55a rfl ⟨rfl,?_⟩;exact Kq Dq z4ma _ _ _ _ _ _ _)
def z04a {P:Prop} (h:P:=by
  obtain⟨op,arg,line,v⟩:=i;unfold Ac at *;try unfold KP at HC
  try unfold Bm at HC
  dsimp only at *;subst hop;all_goals
   (go_in
    go_wp2_with fail
    refine(HC _ (Ie _ _ _)).mono ?_;rintro e w1 ⟨rfl,A2⟩;have Az:=(A2.block (w.heap.size+1) z4ra).trans (Nd _ _ _ _);have Dq:Bw w w1:=(Ie _ _ _).trans (A2.mono z4qa);have r0:=A4 Az 0 _ rfl;have r1:=A4 Az 1 _ rfl;have r2:=A4 Az 2 _ rfl;have r3:=A4 Az 3 _ rfl;have r4:=A4 Az 4 _ rfl;have r5:=A4 Az 5 _ rfl;have r6:=A4 Az 6 _ rfl;have fr:=By Az;have lr:=A6 Az;go_wp2;refine B9 (v:=.tuple #[Bm x,.bool true]) z55a rfl ⟨rfl,?_⟩;exact Kq Dq z4ma _ _ _ _ _ _ _)):P:=h
def Ak6(h:Gf D kb pb P ps pa pc w ab va vc)(i:Aa)(hop:i.op=0):Calls Tryz.prog 303 #[.p kb,Ac i] w (KP w (.tuple #[Bm (Lf i.v),.bool true])):=by
 have HC:=fun(W:World) (_:Bw w W)=>A1k i.v W;have lb:=A6 h.st.blk;generalize hx:Lf i.v=x at *;exact z04a
def Ak9(h:Gf D kb pb P ps pa pc w ab va vc)(i:Aa)(hop:i.op=12):Calls Tryz.prog 303 #[.p kb,Ac i] w (KP w (.tuple #[Bm (Ny ab),.bool true])):=by
 have HC:=fun(W:World) (hb:Bw w W)=>Alp (h.below hb);have lb:=A6 h.st.blk;generalize Ny ab=x at *;exact z04a
def Ak4(h:Gf D kb pb P ps pa pc w ab va vc)(i:Aa)(hop:i.op=15\/i.op=17\/i.op=19\/i.op=21\/i.op=23\/i.op=37):Calls Tryz.prog 303 #[.p kb,Ac i] w (KP w (.tuple #[Bm (Dh 2),.bool true])):=by
 have HC:=fun(W:World) (_:Bw w W)=>P1 2 W;have lb:=A6 h.st.blk;generalize Dh 2=x at *;obtain⟨op,arg,line,v⟩:=i;unfold Ac at *;try unfold KP at HC
 try unfold Bm at HC
 dsimp only at *;rcases hop with rfl|rfl|rfl|rfl|rfl|rfl <;>
  (go_in
   go_wp2_with fail
   refine(HC _ (Ie _ _ _)).mono ?_;rintro e w1 ⟨rfl,A2⟩;have Az:=(A2.block (w.heap.size+1) z4ra).trans (Nd _ _ _ _);have Dq:Bw w w1:=(Ie _ _ _).trans (A2.mono z4qa);have r0:=A4 Az 0 _ rfl;have r1:=A4 Az 1 _ rfl;have r2:=A4 Az 2 _ rfl;have r3:=A4 Az 3 _ rfl;have r4:=A4 Az 4 _ rfl;have r5:=A4 Az 5 _ rfl;have r6:=A4 Az 6 _ rfl;have fr:=By Az;have lr:=A6 Az;go_wp2;refine B9 (v:=.tuple #[Bm x,.bool true]) z55a rfl ⟨rfl,?_⟩;exact Kq Dq z4ma _ _ _ _ _ _ _)
def Ak3(h:Gf D kb pb P ps pa pc w ab va vc)(i:Aa)(hop:i.op=25\/i.op=26\/i.op=27\/i.op=28\/i.op=29\/i.op=30\/i.op=31\/i.op=11):Calls Tryz.prog 303 #[.p kb,Ac i] w (KP w (.tuple #[Bm (Dh 1),.bool true])):=by
 have HC:=fun(W:World) (_:Bw w W)=>P1 1 W;have lb:=A6 h.st.blk;generalize Dh 1=x at *;obtain⟨op,arg,line,v⟩:=i;unfold Ac at *;try unfold KP at HC
 try unfold Bm at HC
 dsimp only at *;rcases hop with rfl|rfl|rfl|rfl|rfl|rfl|rfl|rfl <;>
  (go_in
   go_wp2_with fail
   refine(HC _ (Ie _ _ _)).mono ?_;rintro e w1 ⟨rfl,A2⟩;have Az:=(A2.block (w.heap.size+1) z4ra).trans (Nd _ _ _ _);have Dq:Bw w w1:=(Ie _ _ _).trans (A2.mono z4qa);have r0:=A4 Az 0 _ rfl;have r1:=A4 Az 1 _ rfl;have r2:=A4 Az 2 _ rfl;have r3:=A4 Az 3 _ rfl;have r4:=A4 Az 4 _ rfl;have r5:=A4 Az 5 _ rfl;have r6:=A4 Az 6 _ rfl;have fr:=By Az;have lr:=A6 Az;go_wp2;refine B9 (v:=.tuple #[Bm x,.bool true]) z55a rfl ⟨rfl,?_⟩;exact Kq Dq z4ma _ _ _ _ _ _ _)
def Ak5(h:Gf D kb pb P ps pa pc w ab va vc)(i:Aa)(hop:i.op=36):Calls Tryz.prog 303 #[.p kb,Ac i] w (KP w (.tuple #[Bm (Dh 4),.bool true])):=by
 have HC:=fun(W:World) (_:Bw w W)=>P1 4 W;have lb:=A6 h.st.blk;generalize Dh 4=x at *;exact z04a
def Aka(h:Gf D kb pb P ps pa pc w ab va vc)(i:Aa)(hop:i.op=38):Calls Tryz.prog 303 #[.p kb,Ac i] w (KP w (.tuple #[Bm (El ab),.bool true])):=by
 have HC:=fun(W:World) (hb:Bw w W)=>A6x (h.below hb).st (by have:=h.C1.1;omega) (El ab) rfl;have lb:=A6 h.st.blk;generalize El ab=x at *;exact z04a
def Ak8(w:World)(i:Aa)(h:¬(i.op=0\/i.op=1\/i.op=2\/i.op=42\/i.op=39\/i.op=12\/i.op=15\/i.op=17\/i.op=19\/i.op=21\/i.op=23\/i.op=37\/i.op=25\/i.op=26\/i.op=27\/i.op=28\/i.op=29\/i.op=30\/i.op=31\/i.op=11\/i.op=36\/i.op=38)):Calls Tryz.prog 303 #[.p kb,Ac i] w (KP w (.tuple #[Bm E2,.bool false])):=by
 have t0:((i.op:Int)==0)=false:=by rw[Am];omega
 have t1:((i.op:Int)==1)=false:=by rw[Am];omega
 have t2:((i.op:Int)==2)=false:=by rw[Am];omega
 have t42:((i.op:Int)==42)=false:=by rw[Am];omega
 have t39:((i.op:Int)==39)=false:=by rw[Am];omega
 have t12:((i.op:Int)==12)=false:=by rw[Am];omega
 have t15:((i.op:Int)==15)=false:=by rw[Am];omega
 have t17:((i.op:Int)==17)=false:=by rw[Am];omega
 have t19:((i.op:Int)==19)=false:=by rw[Am];omega
 have t21:((i.op:Int)==21)=false:=by rw[Am];omega
 have t23:((i.op:Int)==23)=false:=by rw[Am];omega
 have t37:((i.op:Int)==37)=false:=by rw[Am];omega
 have t25:((i.op:Int)==25)=false:=by rw[Am];omega
 have t26:((i.op:Int)==26)=false:=by rw[Am];omega
 have t27:((i.op:Int)==27)=false:=by rw[Am];omega
 have t28:((i.op:Int)==28)=false:=by rw[Am];omega
 have t29:((i.op:Int)==29)=false:=by rw[Am];omega
 have t30:((i.op:Int)==30)=false:=by rw[Am];omega
 have t31:((i.op:Int)==31)=false:=by rw[Am];omega
 have t11:((i.op:Int)==11)=false:=by rw[Am];omega
 have t36:((i.op:Int)==36)=false:=by rw[Am];omega
 have t38:((i.op:Int)==38)=false:=by rw[Am];omega
 unfold Ac;go_in;go_wp2;refine B9 (v:=.tuple #[Bm E2,.bool false]) (by simp[results,Tryz.results303,go_sem,Bm,E2,Bb]) rfl ⟨rfl,?_⟩;exact Ie _ _ _
def Al3(h:Gf D kb pb P ps pa pc w ab va vc)(i:Aa)(ha:0<=i.arg):Calls Tryz.prog 303 #[.p kb,Ac i] w (KP w (gvV (Hu ps ab i))):=by
 unfold Hu;by_cases h0:i.op=0
 ·rw[A7 h0];exact Ak6 h i h0
 rw[A1 h0];by_cases h1:i.op=1\/i.op=2\/i.op=42\/i.op=39
 ·rw[A7 h1];exact Ak7 h i h1 ha
 rw[A1 h1];by_cases h12:i.op=12
 ·rw[A7 h12];exact Ak9 h i h12
 rw[A1 h12];by_cases h2:i.op=15\/i.op=17\/i.op=19\/i.op=21\/i.op=23\/i.op=37
 ·rw[A7 h2];exact Ak4 h i h2
 rw[A1 h2];by_cases h3:i.op=25\/i.op=26\/i.op=27\/i.op=28\/i.op=29\/i.op=30\/i.op=31\/i.op=11
 ·rw[A7 h3];exact Ak3 h i h3
 rw[A1 h3];by_cases h36:i.op=36
 ·rw[A7 h36];exact Ak5 h i h36
 rw[A1 h36];by_cases h38:i.op=38
 ·rw[A7 h38];exact Aka h i h38
 rw[A1 h38];exact Ak8 w i z4ma
def R1(D:Nat->Prop)(kb pb:Nat)(P:C5)(ps:List Kn)(pa:Option Addr)(pc:Nat)(w:World)(row:Option Nat)(ab':List Kn)(w':World):Prop:=∃va' vc',Gf D kb pb P ps pa pc w' ab' va' vc'/\Gm kb row w w'/\∀g,(Value.slice va' ab'.length vc').ownBlock=some g->row=some g\/w.heap.size<=g
def Gf.P3(h:Gf D kb pb P ps pa pc w ab va vc){cs:Array Value}{va':Option Addr}{vn' vc':Nat}{ab':List Kn}(hs:E0 407 7 F8 kb 2 w' cs 414 va' vn' vc' ab')(hcs:cs=#[.p pb,.slice pa ps.length pc,.slice va' ab'.length vc'])(hvn:vn'=ab'.length)(hf:Gm kb (Value.slice va ab.length vc).ownBlock w w')(ho:∀g,(Value.slice va' ab'.length vc').ownBlock=some g->(Value.slice va ab.length vc).ownBlock=some g\/w.heap.size<=g)(hl:ab'.length<=100000):Gf D kb pb P ps pa pc w' ab' va' vc':=by
 subst hcs hvn;have hk:∀g,D g->g<w.heap.size->w'.heap[g]?=w.heap[g]?/\D g:=fun g hg hlt=>⟨hf.block g hlt (fun e=>h.nd.1 (by rw[←e];exact hg)) (fun e=>h.nd.2 g e hg),hg⟩;refine⟨hs,h.par.keep hk,h.prog.keep hk,⟨h.nd.1,fun g hg hd=>?_⟩,fun g hg=>Cb (h.lo g hg) hf.size,⟨hl,h.C1.2⟩⟩;rcases ho g hg with e|e
 ·exact h.nd.2 g e hd
 ·have:=h.lo g hd;omega
def z46a {P:Prop} (h:P:=by
  rintro e w1 ⟨rfl,rfl⟩;exact⟨rfl,va,vc,h,Gm.refl _ _ _,fun g hg=>.inl hg⟩):P:=h
def A5f(h:Gf D kb pb P ps pa pc w ab va vc)(n:Int):Calls Tryz.prog 304 #[.pointer (some ⟨kb,2,none⟩),.i n] w fun e w'=>e=.returned (.tuple #[])/\R1 D kb pb P ps pa pc w (Value.slice va ab.length vc).ownBlock (Of n ab) w':=by
 unfold Of;by_cases h0:n<0
 ·rw[A7 h0];refine(Alm h.st n h0).mono ?_;exact z46a
 ·rw[A1 h0];by_cases h1:n.toNat<=ab.length
  ·have:=Alk h.st n.toNat h1 z4ra;rw[show((n.toNat:Nat):Int)=n by omega]at this;refine this.mono ?_;rintro e w1 ⟨rfl,hs,hf⟩;have hl:(ab.take n.toNat).length=n.toNat:=by simp;omega
   refine⟨rfl,va,vc,h.P3 hs (by rw[hl];simp) hl.symm hf (fun g hg=>.inl ((P2 _ _ _ _).trans hg)) (by rw[hl];have:=h.C1.1;omega),hf,fun g hg=>.inl ((P2 _ _ _ _).trans hg)⟩
  ·rw[Ot z4ma];refine(All h.st n z4ma).mono ?_;exact z46a
def Apc(h:Gf D kb pb P ps pa pc w ab va vc)(hl:ab.length+1<=100000)(x:Kn):Calls Tryz.prog 307 #[.pointer (some ⟨kb,2,none⟩),Bm x] w fun e w'=>e=.returned (.tuple #[])/\R1 D kb pb P ps pa pc w (Value.slice va ab.length vc).ownBlock (ab++[x]) w':=by
 refine(Alo h.st z4ma x z4ra).mono ?_;rintro e w1 ⟨rfl,g,cap,hs,hat,hf⟩;have ho:∀k,(Value.slice (some ⟨g,0,none⟩) (ab++[x]).length cap).ownBlock=some k->(Value.slice va ab.length vc).ownBlock=some k\/w.heap.size<=k:=fun k hk=>by
  exact z3ka
 exact⟨rfl,some ⟨g,0,none⟩,cap,h.P3 hs z4ra z4ra hf ho z4qa,hf,ho⟩
def R1.trans{row:Option Nat}{ab1 ab2:List Kn}{w1:World}{va1:Option Addr}{vc1:Nat}(hf:Gm kb row w w1)(ho:∀g,(Value.slice va1 ab1.length vc1).ownBlock=some g->row=some g\/w.heap.size<=g)(h2:R1 D kb pb P ps pa pc w1 (Value.slice va1 ab1.length vc1).ownBlock ab2 w'):R1 D kb pb P ps pa pc w row ab2 w':=by
 obtain⟨va2,vc2,m2,f2,o2⟩:=h2;refine⟨va2,vc2,m2,⟨f2.os.trans hf.os,f2.tape.trans hf.tape,f2.output.trans hf.output,Fu hf.size f2.size,fun k hk h1 h3=>?_⟩,fun g hg=>?_⟩
 ·refine(f2.block k (Cb hk hf.size) h1 (fun e=>?_)).trans (hf.block k hk h1 h3);rcases ho k e with q|q
  ·exact h3 q
  ·omega
 ·rcases o2 g hg with q|q
  ·exact ho g q
  ·exact .inr (Fu hf.size q)
def Av2(i:Aa)(ha:0<=i.arg)(ha2:i.arg<=1000000)(hp:∀f∈P.fns,f.params<=5000):0<=Dv P i/\Dv P i<=1000000:=by
 unfold Dv;split
 ·omega
 split
 ·exact⟨ha,ha2⟩
 split
 ·split
  ·rename_i f hf;have:=hp f (Gl hf);omega
  ·omega
 split
 ·omega
 split <;> omega
def Al2(h:Gf D kb pb P ps pa pc w ab va vc)(i:Aa)(ha:0<=i.arg)(ha2:i.arg<=1000000)(hc:i.op=42->i.arg.toNat<P.fns.length)(hN:P.fns.length<=1000000)(hp:∀f∈P.fns,f.params<=5000)(hl:ab.length+1<=100000) :
  Calls Tryz.prog 293 #[.p kb,Ac i] w fun e w'=>e=.returned (.tuple #[])/\R1 D kb pb P ps pa pc w (Value.slice va ab.length vc).ownBlock (follow P ps ab i) w':=by
 have Bq:=Mr w (.cells #[.n i.op,.i i.arg,.n i.line,.n i.v.k,.bool i.v.y,.i i.v.n,.s i.v.t,.pointer none] 251);have hi0:=Bp w (.cells #[.n i.op,.i i.arg,.n i.line,.n i.v.k,.bool i.v.y,.i i.v.n,.s i.v.t,.pointer none] 251);have HG:=Al3 (h.below Bq) i ha;have lb:=A6 h.st.blk;have HM:=A0 h;have HRl:=Bs h.st.own;have Aw:=A0 hi0;have Ag:=A0 Bq;unfold Ac at HG;clear hi0 Bq h;unfold Ac;go_in;go_wp2_with fail
 refine HG.mono ?_;rintro e w1 ⟨rfl,A2⟩;have HM1:=(HM.o.below Ag.o).below A2;have An:=(A2.block _ (A6 Aw.o)).trans Aw.o;have nn:=Bi An;have A9:Bw w w1:=Ag.o.trans (A2.mono Ag.o.size);have HI1:=A0 An;clear A2 An HG Aw;have htk:0<=Dv P i/\Dv P i<=1000000:=Av2 i ha ha2 hp;cases hg:Hu ps ab i with
 | some x=>
  have HGk:=A0 hg;clear hg;unfold gvV Bm;go_wp2;obtain⟨w2,Gh⟩:∃w2,w2=w1.alloc (.cells #[.bool x.kind,.bool x.whole,.n x.like.k,.bool x.like.y,.i x.like.n,.s x.like.t,.pointer none] 407):=⟨_,rfl⟩;rw[←Gh];have Ad:Bw w1 w2:=by rw[Gh];exact Mr _ _
  have Gd:w2.heap[w1.heap.size]?=some (.cells #[.bool x.kind,.bool x.whole,.n x.like.k,.bool x.like.y,.i x.like.n,.s x.like.t,.pointer none] 407 (0,0)):=by rw[Gh];exact Bp _ _
  have Ct:=(Ad.block _ (A6 HI1.o)).trans HI1.o;have HM2:=A0 (HM1.below Ad);have Ab:Hid (Bw w w2):=A9.trans (Ad.mono A9.size);have ls1:=A9.size;have ls2:=Ad.size;replace nn:=Bi Ct;have HQ2:=A0 Gd;have Ed:=A6 HM2.o.st.blk;clear Gh Ad Gd Ct HM1;have hbd:Bw w2 w2.drew:=⟨rfl,rfl,rfl,Af _,fun _ _=>rfl⟩;have HL:=A0 (W0 (HM2.o.below hbd).st);have HT:=A0 (A6y (HM2.o.below hbd) i ha hc hN);have HCt:=A0 (fun(W:World) (hb:Bw w2 W)=>A5f (HM2.o.below hb) ((ab.length:Int)-Dv P i));have Ff:IntKind.i64.wrap ((ab.length:Int)-Dv P i)=(ab.length:Int)-Dv P i:=by rw[O7];omega
  unfold Ac at HT;clear hbd;rw[←Ff]at HCt;clear Ff;go_region_law (first
   | (refine F9 rfl 304 _ _ rfl #[.pointer (some ⟨kb,2,none⟩),.i (IntKind.i64.wrap ((ab.length:Int)-Dv P i))] z4pa HC4.o ?_;rintro e w4 ⟨rfl,va4,vc4,m4,f4,o4⟩;refine⟨_,rfl,?_⟩;have HM4:=A0 m4;have HF4:=A0 f4;have Ce:=A0 o4;clear m4 f4 o4)
   | (refine F9 rfl 306 _ _ rfl #[.p kb,.agg #[.n i.op,.i i.arg,.n i.line,.n i.v.k,.bool i.v.y,.i i.v.n,.s i.v.t,.pointer none]] z4pa HT.o ?_;rintro e w3 ⟨rfl,Ay⟩;refine⟨_,rfl,?_⟩;have hb3':Bw w2 w3:=Ib (b:=w2.drew) ⟨rfl,rfl,rfl,Af _,fun _ _=>rfl⟩ Ay;have HC4:=A0 (HCt.o w3 hb3');have Ba:=A0 hb3';clear Ay hb3')
   | (refine F9 rfl 305 _ _ rfl #[.pointer (some ⟨kb,2,none⟩)] z4pa HL.o ?_;rintro e w9 ⟨rfl,Ff⟩;subst Ff;refine⟨_,rfl,?_⟩))
  all_goals
   have hrow:∀k,w.heap.size<=k->(Value.slice va ab.length vc).ownBlock≠some k:=fun k hk e=>by have:=HRl k e;omega
   have hq3:=(Ba.o.block _ (A6 HQ2.o)).trans HQ2.o;have hq4:=(HF4.o.block w1.heap.size (A6 hq3) z4ma (hrow _ ls1)).trans hq3;have d0:=A4 hq4 0 _ rfl;have d1:=A4 hq4 1 _ rfl;have d2:=A4 hq4 2 _ rfl;have d3:=A4 hq4 3 _ rfl;have d4:=A4 hq4 4 _ rfl;have d5:=A4 hq4 5 _ rfl;have d6:=A4 hq4 6 _ rfl;have lq:=A6 hq4;have Ff:IntKind.i64.wrap ((ab.length:Int)-Dv P i)=(ab.length:Int)-Dv P i:=by rw[O7];omega
   rw[Ff]at HM4 Ce;clear Ff;have lb4:=A6 HM4.o.st.blk;have hlc:(Of ((ab.length:Int)-Dv P i) ab).length<=ab.length:=by unfold Of;split <;> simp;omega
   have HP:=Apc (HM4.o.below (w':=w4.drew) ⟨rfl,rfl,rfl,Af _,fun _ _=>rfl⟩) z4ma x;have HFl:Hid (follow P ps ab i=Of ((ab.length:Int)-Dv P i) ab++[x]):=by show _=_;unfold follow;rw[HGk.o]
   unfold Bm at HP;clear hq3 hq4 hrow;go_wp2;refine Jt 4 z4pa z4pa ?_;simp only[Jh,J1,Ia,Hl];iterate 4 (refine Fm (fun K' hK'=>?_);go_simp;refine hK' _ ?_;clear hK' K')
   refine Js ?_;go_wp2_with fail
   refine HP.mono ?_;rintro e w5 ⟨rfl,h5⟩;have h5':R1 D kb pb P ps pa pc w4 (Value.slice va4 (Of ((ab.length:Int)-Dv P i) ab).length vc4).ownBlock (Of ((ab.length:Int)-Dv P i) ab++[x]) w5:=by
    obtain⟨q1,q2,q3,q4,q5⟩:=h5;exact⟨q1,q2,q3,⟨q4.os,q4.tape,q4.output,q4.size,q4.block⟩,q5⟩
   have Ic:=R1.trans HF4.o Ce.o h5';clear h5';clear h5;go_wp2;go_end0;refine⟨rfl,?_⟩;rw[HFl.o];have hst:=Ic;obtain⟨va5,vc5,m5,f5,o5⟩:=hst;exact⟨va5,vc5,m5,f5.below (Ab.o.trans (Ba.o.mono z4ma)),fun g hg=>(o5 g hg).imp id (fun q=>by have:=(Ab.o.trans (Ba.o.mono z4ma)).size;omega)⟩
 | none=>
  have HGk:=A0 hg;clear hg;unfold gvV Bm E2 Bb;go_wp2;obtain⟨w2,Gh⟩:∃w2,w2=w1.alloc (.cells #[.bool false,.bool false,.i 0,.bool false,.i 0,.string ⟨#[]⟩,.pointer none] 407):=⟨_,rfl⟩;rw[←Gh];have Ad:Bw w1 w2:=by rw[Gh];exact Mr _ _
  have Gd:w2.heap[w1.heap.size]?=some (.cells #[.bool false,.bool false,.i 0,.bool false,.i 0,.string ⟨#[]⟩,.pointer none] 407 (0,0)):=by rw[Gh];exact Bp _ _
  have Ct:=(Ad.block _ (A6 HI1.o)).trans HI1.o;have HM2:=A0 (HM1.below Ad);have Ab:Hid (Bw w w2):=A9.trans (Ad.mono A9.size);have ls1:=A9.size;have ls2:=Ad.size;replace nn:=Bi Ct;have HQ2:=A0 Gd;have Ed:=A6 HM2.o.st.blk;clear Gh Ad Gd Ct HM1;have hbd:Bw w2 w2.drew:=⟨rfl,rfl,rfl,Af _,fun _ _=>rfl⟩;have HL:=A0 (W0 (HM2.o.below hbd).st);have HT:=A0 (A6y (HM2.o.below hbd) i ha hc hN);have HCt:=A0 (fun(W:World) (hb:Bw w2 W)=>A5f (HM2.o.below hb) ((ab.length:Int)-Dv P i));have Ff:IntKind.i64.wrap ((ab.length:Int)-Dv P i)=(ab.length:Int)-Dv P i:=by rw[O7];omega
  unfold Ac at HT;clear hbd;rw[←Ff]at HCt;clear Ff;go_region_law (first
   | (refine F9 rfl 304 _ _ rfl #[.pointer (some ⟨kb,2,none⟩),.i (IntKind.i64.wrap ((ab.length:Int)-Dv P i))] z4pa HC4.o ?_;rintro e w4 ⟨rfl,va4,vc4,m4,f4,o4⟩;refine⟨_,rfl,?_⟩;have HM4:=A0 m4;have HF4:=A0 f4;have Ce:=A0 o4;clear m4 f4 o4)
   | (refine F9 rfl 306 _ _ rfl #[.p kb,.agg #[.n i.op,.i i.arg,.n i.line,.n i.v.k,.bool i.v.y,.i i.v.n,.s i.v.t,.pointer none]] z4pa HT.o ?_;rintro e w3 ⟨rfl,Ay⟩;refine⟨_,rfl,?_⟩;have hb3':Bw w2 w3:=Ib (b:=w2.drew) ⟨rfl,rfl,rfl,Af _,fun _ _=>rfl⟩ Ay;have HC4:=A0 (HCt.o w3 hb3');have Ba:=A0 hb3';clear Ay hb3')
   | (refine F9 rfl 305 _ _ rfl #[.pointer (some ⟨kb,2,none⟩)] z4pa HL.o ?_;rintro e w9 ⟨rfl,Ff⟩;subst Ff;refine⟨_,rfl,?_⟩))
  all_goals
   have Ff:IntKind.i64.wrap ((ab.length:Int)-Dv P i)=(ab.length:Int)-Dv P i:=by rw[O7];omega
   rw[Ff]at HM4 Ce;clear Ff;have lb4:=A6 HM4.o.st.blk;have HFl:Hid (follow P ps ab i=Of ((ab.length:Int)-Dv P i) ab):=by show _=_;unfold follow;rw[HGk.o]
   go_wp2;go_end0;refine⟨rfl,?_⟩;rw[HFl.o];exact⟨va4,vc4,HM4.o,HF4.o.below (Ab.o.trans (Ba.o.mono z4ma)),fun g hg=>(Ce.o g hg).imp id (fun q=>by have:=(Ab.o.trans (Ba.o.mono z4ma)).size;omega)⟩
end
section
set_option maxRecDepth 100000
open Go.RowKit
open Go.Deep (BT)
variable {D:Nat->Prop} {kb pb:Nat} {P:C5} {ps:List Kn} {pa:Option Addr} {pc:Nat} {w w' W:World} {ab:List Kn} {va:Option Addr} {vc:Nat} {i:Aa} {o:Nat}
def QS(i:Aa)(w W:World)(o:Nat):Prop:=Bw w W/\W.heap[w.heap.size]?=some (.cells #[.n o,.i i.arg,.n i.line,.n i.v.k,.bool i.v.y,.i i.v.n,.s i.v.t,.pointer none] 251 (0,0))/\W.heap[w.heap.size+1]?=some (.cells #[.i 0,.i 0,.i 0,.i 0,.bool false,.i 0,.string ⟨#[]⟩,.pointer none] 251 (0,0))
def QS.below(h:QS i w W o)(hb:Bw W w'):QS i w w' o:=⟨h.1.trans (hb.mono h.1.size),(hb.block _ (A6 h.2.1)).trans h.2.1,(hb.block _ (A6 h.2.2)).trans h.2.2⟩
def QS.alloc(h:QS i w W o)(x:Obj):QS i w (W.alloc x) o:=h.below (Ah (Al _ _) (Af _) _)
def QS.set(h:QS i w W o)(p:Nat):QS i w (W.setCell ⟨w.heap.size,0,none⟩ (.n p)) p:=⟨B0 h.1 (Af _) _,heap_set (j:=0) h.2.1 _,(Bh _ _ _ _ (Nat.succ_ne_self _)).trans h.2.2⟩
def QE(i:Aa)(w W:World)(q:Aa)(b:Bool):Prop:=∃o,Hid (QS i w W o)/\Hid (q=⟨if b then Ik o else o,i.arg,i.line,i.v⟩)
def z6aa {P:Prop} (h:P:=by simp[results,Tryz.results292,go_sem,r0,r1,r2,r3,r4,r5,r6,r7]):P:=h
def Alj(h:Gf D kb pb P ps pa pc w ab va vc)(i:Aa)(ha:0<=i.arg):Calls Tryz.prog 292 #[.p kb,Ac i] w (KP w (Ac (quick ps ab i))):=by
 have HQ:Hid (quick ps ab i=if(Mi ps i).whole then⟨0,0,0,(Mi ps i).like⟩ else⟨if Gb ab 2 then Ik (if(if i.op=12/\Gb ab 3=true then 14 else i.op)=23/\(El ab).sure 2=true then 24 else(if i.op=12/\Gb ab 3=true then 14 else i.op)) else(if(if i.op=12/\Gb ab 3=true then 14 else i.op)=23/\(El ab).sure 2=true then 24 else(if i.op=12/\Gb ab 3=true then 14 else i.op)),i.arg,i.line,i.v⟩):=rfl;have Ba:=A0 (fun(W:World) (hb:Bw w W)=>A6t (h.below hb) 3);have Ab:=A0 (fun(W:World) (hb:Bw w W)=>A6t (h.below hb) 2);have HTp:=A0 (fun(W:World) (hb:Bw w W)=>A6x (h.below hb).st (by have:=h.C1.1;omega) (El ab) rfl);have HSu:=A0 (fun(W:World)=>Rx (El ab) 2 W);have HC:=A0 (fun(W:World) (hb:Bw w W)=>A7b (h.below hb) i ha);have lb:=A6 h.st.blk;have hfew:=h.C1.1;unfold KP at HC Ab Ba;unfold Bm at HC HSu;unfold Ac at *;generalize Gb ab 3=b3 at *;generalize Gb ab 2=b2 at *;generalize (El ab).sure 2=b1 at *;generalize El ab=y at *;generalize Mi ps i=x at *;go_in;go_wp2_with fail
 refine(HC.o _ (Ie _ _ _)).mono ?_;rintro e w1 ⟨rfl,A2⟩;have HS:Hid (QS i w w1 i.op):=⟨(Ie _ _ _).trans (A2.mono z4qa),(A2.block w.heap.size z4qa).trans (alloc_old (Bp w _)),(A2.block (w.heap.size+1) z4ra).trans (Nd _ _ _ _)⟩;have nn:=Bi HS.o.2.1;obtain⟨r0,r1,r2,r3,r4,r5,r6,r7,lr⟩:=Bi HS.o.2.2;have fr:=By HS.o.2.2;have ls:=HS.o.1.size;cases hx:x.whole
 ·have HX:=A0 hx;by_cases h12:i.op=12;focus
   have t12:((i.op:Int)==12)=true:=by rw[h12];rfl
   have H12:=A0 h12;go_wp2_with fail
   refine(Ba.o _ (HS.o.alloc _).1).mono ?_;rintro e w2 ⟨rfl,Ad⟩;have Au:Hid (QS i w w2 i.op):=(HS.o.alloc _).below Ad;have nn:=Bi Au.o.2.1;obtain⟨r0,r1,r2,r3,r4,r5,r6,r7,lr⟩:=Bi Au.o.2.2;have fi:=By Au.o.2.1;have fr:=By Au.o.2.2;have ls:=Au.o.1.size;cases b3;focus
    have t23:((i.op:Int)==23)=false:=by rw[H12.o];rfl
    go_wp2_with fail
    refine(Ab.o _ (Au.o).1).mono ?_;rintro e w8 ⟨rfl,hb8⟩;have hE:QE i w w8 (quick ps ab i) b2:=⟨_,Au.o.below hb8,by show _=_;rw[HQ.o,HX.o,H12.o];simp⟩
   rotate_left
   focus
    go_wp2_with fail
    refine(Ab.o _ (Au.o.set 14).1).mono ?_;rintro e w8 ⟨rfl,hb8⟩;have hE:QE i w w8 (quick ps ab i) b2:=⟨_,(Au.o.set 14).below hb8,by show _=_;rw[HQ.o,HX.o,H12.o];simp⟩
  rotate_left 2
  focus
   have t12:((i.op:Int)==12)=false:=by rw[Am];omega
   by_cases h23:i.op=23;focus
    have t23:((i.op:Int)==23)=true:=by rw[h23];rfl
    have H23:=A0 h23;go_wp2_with fail
    refine(HTp.o _ (HS.o.alloc _).1).mono ?_;rintro e w2 ⟨rfl,Ad⟩;have Au:Hid (QS i w w2 i.op):=(HS.o.alloc _).below Ad;have nn:=Bi Au.o.2.1;obtain⟨r0,r1,r2,r3,r4,r5,r6,r7,lr⟩:=Bi Au.o.2.2;have fi:=By Au.o.2.1;have fr:=By Au.o.2.2;have ls:=Au.o.1.size;go_wp2_with fail
    refine(HSu.o _).mono ?_;rintro e w3 ⟨rfl,Ay⟩;have Bu:=A0 (Au.o.below Ay);have nn:=Bi Bu.o.2.1;obtain⟨r0,r1,r2,r3,r4,r5,r6,r7,lr⟩:=Bi Bu.o.2.2;have fi:=By Bu.o.2.1;have fr:=By Bu.o.2.2;have ls:=Bu.o.1.size;cases b1;focus
     go_wp2_with fail
     refine(Ab.o _ (Bu.o).1).mono ?_;rintro e w8 ⟨rfl,hb8⟩;have hE:QE i w w8 (quick ps ab i) b2:=⟨_,Bu.o.below hb8,by show _=_;rw[HQ.o,HX.o,H23.o];simp⟩
    rotate_left
    focus
     go_wp2_with fail
     refine(Ab.o _ (Bu.o.set 24).1).mono ?_;rintro e w8 ⟨rfl,hb8⟩;have hE:QE i w w8 (quick ps ab i) b2:=⟨_,(Bu.o.set 24).below hb8,by show _=_;rw[HQ.o,HX.o,H23.o];simp⟩
   rotate_left 2
   focus
    have t23:((i.op:Int)==23)=false:=by rw[Am];omega
    have H12:=A0 h12;have H23:=A0 h23;go_wp2_with fail
    refine(Ab.o _ (HS.o.alloc _).1).mono ?_;rintro e w8 ⟨rfl,hb8⟩;have hE:QE i w w8 (quick ps ab i) b2:=⟨_,(HS.o.alloc _).below hb8,by show _=_;rw[HQ.o,HX.o];simp[H12.o,H23.o]⟩
  all_goals
   obtain⟨o9,HS8,HQ9⟩:=hE;have nn:=Bi HS8.o.2.1;obtain⟨r0,r1,r2,r3,r4,r5,r6,r7,lr⟩:=Bi HS8.o.2.2;have fi:=By HS8.o.2.1;have fr:=By HS8.o.2.2;have ls:=HS8.o.1.size;cases b2
   ·go_wp2;refine B9 (v:=.agg #[.n o9,.i i.arg,.n i.line,.n i.v.k,.bool i.v.y,.i i.v.n,.s i.v.t,.pointer none]) z6aa rfl ⟨by rw[HQ9.o];rfl,?_⟩;iterate 8 refine B0 ?_ (by exact Lj _) _
    exact HS8.o.1
   ·go_wp2_with fail
    refine(Ams o9 w8).mono ?_;rintro e w9 ⟨rfl,Ff⟩;rw[Ff];go_wp2;refine B9 (v:=.agg #[.n (Ik o9),.i i.arg,.n i.line,.n i.v.k,.bool i.v.y,.i i.v.n,.s i.v.t,.pointer none]) z6aa rfl ⟨by rw[HQ9.o];rfl,?_⟩;iterate 8 refine B0 ?_ (by exact Lj _) _
    exact(HS8.o.set _).1
 ·have HX:=A0 hx;go_wp2;refine B9 (v:=.agg #[.i 0,.i 0,.i 0,.n x.like.k,.bool x.like.y,.i x.like.n,.s x.like.t,.pointer none]) (by simp[results,Tryz.results292,go_sem,r0,r1,r2,r3,r4,r5,r6,r7,lr]) rfl ⟨by rw[HQ.o,HX.o];rfl,?_⟩;refine Ah ?_ z4sa _;iterate 8 refine B0 ?_ (by exact Lj _) _
  exact HS.o.1
