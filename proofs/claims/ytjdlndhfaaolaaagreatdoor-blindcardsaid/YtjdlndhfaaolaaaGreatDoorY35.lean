import Derived.Test.YtjdlndhfaaolaaaGreatDoorY34
set_option maxHeartbeats 20000000
set_option linter.all false
namespace Go.Proofs.YtjdlndhfaaolaaaGreatDoor
section
set_option maxRecDepth 100000
open Go.RowKit
open Go.Deep (BT)
variable {C:MC} {D X:Nat->Prop} {w w':World} {m:MS} {β:Nat->Nat}
def Ae4(h:C.Ms D X β w m)(i:Aa)(ho:i.op=7)(hy:m.top.y=true)(hf:m.fuel=0):Calls Tryz.prog 155 #[.p C.mb,Ac i] w (MP C D X β w (m.pop.fail 8 i) (.tuple #[])):=by
 obtain⟨w0,As,Av,Ag,Ao,Aw,nn,lb,C9⟩:=h.Ci i;have HT:=A0 Av.o.pop;have t7:((i.op:Int)==7)=true:=by rw[ho];rfl
 clear ho;unfold B7 at HT;unfold Ac;go_in;go_wp2_with fail
 rw[←As.o];refine HT.o.mono ?_;rintro e w1 ⟨rfl,h1,k1⟩;have Bn:=h1.B3;have A9:A3 (dx D X) w w1:=Ag.o.trans (Ae k1);have An:=(k1.block _ Ao.o).trans Aw.o;have nn:=Bi An;have HSp:=fun(W:World) (hb:Bw w1 W)=>C3 (A7s (h1.below hb).1 i hf) (A9.trans (Ae (h1.below hb).2));unfold Ac at HSp;have hbi2:∀(W:World) (hb:Bw w1 W),W.heap[w.heap.size]?=w1.heap[w.heap.size]?:=fun W hb=>hb.block _ (A6 An);go_wp2_with fail
 refine((HSp _ z4na).1).mono ?_;rintro e w2 ⟨rfl,h2,k2⟩;have Ed:=h2.B3;have Ab:A3 (dx D X) w w2:=(HSp _ z4na).2.trans (Ae k2);have Ct:=(k2.block _ Ao.o).trans ((hbi2 _ z4na).trans An);have HSb:=A0 h2.back;go_wp2;refine B9 (v:=.tuple #[]) (by simp[results,Tryz.results155,go_sem]) rfl ?_;exact⟨rfl,HSb.o,Ab⟩
def z0ha {P:Prop} (h:P:=by
  (try unfold B7 at HT);unfold Ac;go_in;go_wp2_with fail
  rw[←As.o];refine HT.o.mono ?_;rintro e w1 ⟨rfl,h1,k1⟩;have Bn:=h1.B3;have A9:A3 (dx D X) w w1:=Ag.o.trans (Ae k1);have An:=(k1.block _ Ao.o).trans Aw.o;have nn:=Bi An;obtain⟨⟨v7,c7⟩,f7⟩:=h1.Yj;obtain⟨s1,s2⟩:=h1.Wj i.arg ha;have HQ:=fun(W:World) (hb:Below (w1.setCell ⟨C.mb,7,none⟩ (.i i.arg)).heap.size (w1.setCell ⟨C.mb,7,none⟩ (.i i.arg)) W)=>C3 (s1.below hb).1.back (A9.trans ((Ae s2).trans (Ae (s1.below hb).2)));go_wp2;go_end0;exact⟨rfl,HQ _ (Ah (Al _ _) (Af _) _)⟩):P:=h
def Ae3(h:C.Ms D X β w m)(i:Aa)(ho:i.op=7)(hk:m.top.k=1)(hy:m.top.y=false)(ha:0<=i.arg):Calls Tryz.prog 155 #[.p C.mb,Ac i] w (MP C D X β w (m.pop.jump i.arg) (.tuple #[])):=by
 obtain⟨w0,As,Av,Ag,Ao,Aw,nn,lb,C9⟩:=h.Ci i;have HT:=A0 Av.o.pop;have t7:((i.op:Int)==7)=true:=by rw[ho];rfl
 clear ho;have tk:(((m.top.k:Nat):Int) !=1)=false:=by rw[hk];rfl
 exact z0ha
def z02a {P:Prop} (h:P:=by
  go_wp2_with fail
  refine((Bk _ z4na).1).mono ?_;rintro e w2 ⟨rfl,h2,k2⟩;have Au:=A0 h2.back;have Ab:A3 (dx D X) w w2:=(Bk _ z4na).2.trans (Ae k2);go_wp2;go_end0;exact⟨rfl,Au.o,Ab⟩):P:=h
def z19a {P:Prop} (h:P:=by
  have tk:(((m.top.k:Nat):Int) !=1)=true:=by rw[P8];omega
  unfold B7 at HT;unfold Ac;go_in;go_wp2_with fail
  rw[←As.o];refine HT.o.mono ?_;rintro e w1 ⟨rfl,h1,k1⟩;have Bn:=h1.B3;have A9:A3 (dx D X) w w1:=Ag.o.trans (Ae k1);have An:=(k1.block _ Ao.o).trans Aw.o;have nn:=Bi An;have Bk:=fun(W:World) (hb:Bw w1 W)=>C3 ((fun hs=>Ih hs 5 i) (h1.below hb).1) (A9.trans (Ae (h1.below hb).2));unfold Ac at Bk;exact z02a):P:=h
def Ae1(h:C.Ms D X β w m)(i:Aa)(ho:i.op=7)(hk:m.top.k≠1)(hy:m.top.y=false):Calls Tryz.prog 155 #[.p C.mb,Ac i] w (MP C D X β w (m.pop.fail 5 i) (.tuple #[])):=by
 obtain⟨w0,As,Av,Ag,Ao,Aw,nn,lb,C9⟩:=h.Ci i;have HT:=A0 Av.o.pop;have t7:((i.op:Int)==7)=true:=by rw[ho];rfl
 clear ho;exact z19a
def MC.Ms.A6u(h:C.Ms D (Dd X w) β w' m)(o:Obj):C.Ms D (fun g=>Dd X w g\/(w'.heap.size<=g/\g<w'.heap.size+1)) β (w'.alloc o) m:=by
 have hb:Below w'.heap.size w' (w'.alloc o):=Ah (Al _ _) (Af _) _;have:=h.more hb;rw[K3]at this;exact this
def Ae5(h:C.Ms D X β w m)(i:Aa)(ho:i.op=7)(hk:m.top.k=1)(hy:m.top.y=true)(hf:m.fuel≠0)(hf2:m.fuel<=100000):Calls Tryz.prog 155 #[.p C.mb,Ac i] w (MP C D X β w ({ m.pop with fuel:=m.fuel-1 }) (.tuple #[])):=by
 obtain⟨w0,As,Av,Ag,Ao,Aw,nn,lb,C9⟩:=h.Ci i;have HT:=A0 Av.o.pop;have t7:((i.op:Int)==7)=true:=by rw[ho];rfl
 clear ho;have tk:(((m.top.k:Nat):Int) !=1)=false:=by rw[hk];rfl
 clear hk;unfold B7 at HT;unfold Ac;go_in;go_wp2_with fail
 rw[←As.o];refine HT.o.mono ?_;rintro e w1 ⟨rfl,h1,k1⟩;have Bn:=h1.B3;have A9:A3 (dx D X) w w1:=Ag.o.trans (Ae k1);have An:=(k1.block _ Ao.o).trans Aw.o;have nn:=Bi An;have HK1:=h1.A6u (.cells #[.n m.top.k,.bool true,.i m.top.n,.s m.top.t,.pointer (Bf β m.top)] 225);have hbz:Bw w1 (w1.alloc (.cells #[.n m.top.k,.bool true,.i m.top.n,.s m.top.t,.pointer (Bf β m.top)] 225)):=Ah (Al _ _) (Af _) _;have HB1a:A3 (dx D X) w (w1.alloc (.cells #[.n m.top.k,.bool true,.i m.top.n,.s m.top.t,.pointer (Bf β m.top)] 225)):=A9.trans (Ae (h1.below hbz).2);have HI1a:=(hbz.block _ (A6 An)).trans An;have HV1:=Bp w1 (.cells #[.n m.top.k,.bool true,.i m.top.n,.s m.top.t,.pointer (Bf β m.top)] 225);have HSp:=Ye HK1 i hf hf2;unfold Ac at HSp;go_wp2_with fail
 refine HSp.mono ?_;rintro e w2 ⟨rfl,h2,k2⟩;have Ed:=h2.B3;have Au:C.Ms D (Dd X w) β w2 { m.pop with fuel:=m.fuel-1 }:=h2.less (fun _ h=>.inl h) (fun _ _ _=>rfl) rfl;have Ab:A3 (dx D X) w w2:=HB1a.trans (k2.weak (fun _ hg=>hg.imp id (fun q=>.inl (.inl q))));have Ct:=(k2.block w.heap.size (.inr (.inl (.inr ⟨Af _,by omega⟩)))).trans HI1a;have Iv:=(k2.block w1.heap.size (.inr (.inr ⟨Af _,by omega⟩))).trans HV1;have nn:=Bi Ct;obtain⟨p0,p1,p2,p3,p4,fp,lp⟩:=Pd Iv;have HSb:=A0 Au.back;go_wp2;go_end0;exact⟨rfl,HSb.o,Ab⟩
def z1ca {P:Prop} (h:P:=by
  (try unfold Ac at C2);go_wp2_with fail
  refine((C2 _ z4na).1).mono ?_;rintro e w3 ⟨rfl,h3,k3⟩;have Bu:=A0 h3.back;have Ba:A3 (dx D X) w w3:=(C2 _ z4na).2.trans (Ae k3);go_wp2;go_end0;exact⟨rfl,Bu.o,Ba⟩):P:=h
def Ae2(h:C.Ms D X β w m)(i:Aa)(ho:i.op=7)(hk:m.top.k≠1)(hy:m.top.y=true)(hf:m.fuel≠0)(hf2:m.fuel<=100000):Calls Tryz.prog 155 #[.p C.mb,Ac i] w (MP C D X β w ({ m.pop with fuel:=m.fuel-1 }.fail 5 i) (.tuple #[])):=by
 obtain⟨w0,As,Av,Ag,Ao,Aw,nn,lb,C9⟩:=h.Ci i;have HT:=A0 Av.o.pop;have t7:((i.op:Int)==7)=true:=by rw[ho];rfl
 clear ho;have tk:(((m.top.k:Nat):Int) !=1)=true:=by rw[P8];omega
 unfold B7 at HT;unfold Ac;go_in;go_wp2_with fail
 rw[←As.o];refine HT.o.mono ?_;rintro e w1 ⟨rfl,h1,k1⟩;have Bn:=h1.B3;have A9:A3 (dx D X) w w1:=Ag.o.trans (Ae k1);have An:=(k1.block _ Ao.o).trans Aw.o;have nn:=Bi An;have HK1:=h1.A6u (.cells #[.n m.top.k,.bool true,.i m.top.n,.s m.top.t,.pointer (Bf β m.top)] 225);have hbz:Bw w1 (w1.alloc (.cells #[.n m.top.k,.bool true,.i m.top.n,.s m.top.t,.pointer (Bf β m.top)] 225)):=Ah (Al _ _) (Af _) _;have HB1a:A3 (dx D X) w (w1.alloc (.cells #[.n m.top.k,.bool true,.i m.top.n,.s m.top.t,.pointer (Bf β m.top)] 225)):=A9.trans (Ae (h1.below hbz).2);have HI1a:=(hbz.block _ (A6 An)).trans An;have HV1:=Bp w1 (.cells #[.n m.top.k,.bool true,.i m.top.n,.s m.top.t,.pointer (Bf β m.top)] 225);have HSp:=Ye HK1 i hf hf2;unfold Ac at HSp;go_wp2_with fail
 refine HSp.mono ?_;rintro e w2 ⟨rfl,h2,k2⟩;have Ed:=h2.B3;have Au:C.Ms D (Dd X w) β w2 { m.pop with fuel:=m.fuel-1 }:=h2.less (fun _ h=>.inl h) (fun _ _ _=>rfl) rfl;have Ab:A3 (dx D X) w w2:=HB1a.trans (k2.weak (fun _ hg=>hg.imp id (fun q=>.inl (.inl q))));have Ct:=(k2.block w.heap.size (.inr (.inl (.inr ⟨Af _,by omega⟩)))).trans HI1a;have Iv:=(k2.block w1.heap.size (.inr (.inr ⟨Af _,by omega⟩))).trans HV1;have nn:=Bi Ct;obtain⟨p0,p1,p2,p3,p4,fp,lp⟩:=Pd Iv;have C2:=fun(W:World) (hb:Bw w2 W)=>C3 ((fun hs=>Ih hs 5 i) (Au.below hb).1) (Ab.trans (Ae (Au.below hb).2));exact z1ca
def A4d(h:C.Ms D X β w m)(i:Aa)(hk:m.top.k≠1):Calls Tryz.prog 156 #[.p C.mb,Ac i] w (MP C D X β w (m.fail 5 i) (.tuple #[])):=by
 obtain⟨w0,As,Av,Ag,Ao,Aw,nn,lb,C9⟩:=h.Ci i;have HT:=A0 Av.o.top;exact z19a
def z0oa {P:Prop} (h:P:=by
  (try unfold B7 at HT);unfold Ac;go_in;go_wp2_with fail
  rw[←As.o];refine HT.o.mono ?_;rintro e w1 ⟨rfl,h1,k1⟩;have Bn:=h1.B3;have A9:A3 (dx D X) w w1:=Ag.o.trans (Ae k1);have An:=(k1.block _ Ao.o).trans Aw.o;have nn:=Bi An;have Bk:=fun(W:World) (hb:Bw w1 W)=>C3 ((fun hs=>MC.Ms.pop hs) (h1.below hb).1) (A9.trans (Ae (h1.below hb).2));unfold Ac at Bk;go_wp2_with fail
  refine((Bk _ z4na).1).mono ?_;rintro e w2 ⟨rfl,h2,k2⟩;have Au:=A0 h2.back;have Ab:A3 (dx D X) w w2:=(Bk _ z4na).2.trans (Ae k2);unfold B7;go_wp2;go_end0;exact⟨rfl,Au.o,Ab⟩):P:=h
def Acp(h:C.Ms D X β w m)(i:Aa)(ho:i.op=9)(hk:m.top.k=1)(hy:m.top.y=true):Calls Tryz.prog 156 #[.p C.mb,Ac i] w (MP C D X β w (m.pop) (.tuple #[])):=by
 obtain⟨w0,As,Av,Ag,Ao,Aw,nn,lb,C9⟩:=h.Ci i;have HT:=A0 Av.o.top;have tk:(((m.top.k:Nat):Int) !=1)=false:=by rw[hk];rfl
 have t10:((i.op:Int)==10)=false:=by rw[ho];rfl
 clear ho;exact z0oa
def Aco(h:C.Ms D X β w m)(i:Aa)(ho:i.op=9)(hk:m.top.k=1)(hy:m.top.y=false)(ha:0<=i.arg):Calls Tryz.prog 156 #[.p C.mb,Ac i] w (MP C D X β w (m.jump i.arg) (.tuple #[])):=by
 obtain⟨w0,As,Av,Ag,Ao,Aw,nn,lb,C9⟩:=h.Ci i;have HT:=A0 Av.o.top;have tk:(((m.top.k:Nat):Int) !=1)=false:=by rw[hk];rfl
 have t10:((i.op:Int)==10)=false:=by rw[ho];rfl
 clear ho;exact z0ha
def Acn(h:C.Ms D X β w m)(i:Aa)(ho:i.op=10)(hk:m.top.k=1)(hy:m.top.y=true)(ha:0<=i.arg):Calls Tryz.prog 156 #[.p C.mb,Ac i] w (MP C D X β w (m.jump i.arg) (.tuple #[])):=by
 obtain⟨w0,As,Av,Ag,Ao,Aw,nn,lb,C9⟩:=h.Ci i;have HT:=A0 Av.o.top;have tk:(((m.top.k:Nat):Int) !=1)=false:=by rw[hk];rfl
 have t10:((i.op:Int)==10)=true:=by rw[ho];rfl
 clear ho;exact z0ha
def Acm(h:C.Ms D X β w m)(i:Aa)(ho:i.op=10)(hk:m.top.k=1)(hy:m.top.y=false):Calls Tryz.prog 156 #[.p C.mb,Ac i] w (MP C D X β w (m.pop) (.tuple #[])):=by
 obtain⟨w0,As,Av,Ag,Ao,Aw,nn,lb,C9⟩:=h.Ci i;have HT:=A0 Av.o.top;have tk:(((m.top.k:Nat):Int) !=1)=false:=by rw[hk];rfl
 have t10:((i.op:Int)==10)=true:=by rw[ho];rfl
 clear ho;exact z0oa
def MC.Ms.Uh(h:C.Ms D X β w m){a b:PV}(ha:Ca m.arr.length a)(hb:Ca m.arr.length b)(d:Nat):(Op.equalIn (d+1) 223 (.pointer (Bf β a)) (.pointer (Bf β b))).run Tryz.prog w=.ok (a.r==b.r) w:=by
 obtain⟨ρ,s,x,fv,ab,lp,h⟩:=h;have hp:Tryz.prog.underlying 223=some (.pointer 356):=by kernel_rfl
 have hs:(Tryz.prog.info? 356).map (fun j=>j.size !=0)=some true:=by kernel_rfl
 cases hj:Tryz.prog.info? 356 with
 | none=>rw[hj]at hs;cases hs
 | some j=>
 have hz:j.size≠0:=by rw[hj]at hs;simpa using hs
 unfold Bf;unfold Ca at ha hb;cases hr:a.r with
 | none=>
  cases hr':b.r with
  | none=>simp[Op.equalIn,P7 hp]
  | some y=>simp[Op.equalIn,P7 hp]
 | some x=>
  cases hr':b.r with
  | none=>simp[Op.equalIn,P7 hp]
  | some y=>
   rw[hr]at ha;rw[hr']at hb;have hl:=h.arr.len;obtain⟨k1,_,k3,_⟩:=h.arr.at' x z4ma ha.2;obtain⟨l1,_,l3,_⟩:=h.arr.at' y z4ma hb.2;by_cases he:x=y
   ·rw[he];simp[Op.equalIn,P7 hp,sizeOf,typeInfo,hj,run_sameAddr_same]
   ·have hne:(⟨β x,0,none⟩:Addr)≠⟨β y,0,none⟩:=by
     intro e;have e1:β x=β y:=by injection e
     rw[e1]at k3;omega
    have hs:=run_sameAddr_other (P:=Tryz.prog) w hne k1 l1;have hq:((some x:Option Nat)==some y)=false:=by simp[he]
    rw[hq];simp[Op.equalIn,P7 hp,sizeOf,typeInfo,hj,hz,hs]
def y9(a b:List UInt8):((⟨a.toArray⟩:ByteArray).toList==(⟨b.toArray⟩:ByteArray).toList)=(a==b):=by
 have h1:∀l:List UInt8,(⟨l.toArray⟩:ByteArray).toList=l:=fun l=>by simp[ByteArray.toList_mk]
 rw[h1,h1]
def z3xa {P:Prop} (h:P:=by
  have hn':=hn;go_in;go_wp2;go_ret;exact⟨rfl,Ah (Ah (Al _ _) (Af _) _) z4ra _⟩):P:=h
def R7(a b:PV)(β:Nat->Nat)(w:World):Calls Tryz.prog 254 #[B7 β a,B7 β b] w fun e w'=>e=.returned (.bool (before a b))/\Bw w w':=by
 unfold B7 before;cases hn:decide (a.n<b.n)
 ·exact z3xa
 ·exact z3xa
def z4ia {P:Prop} (h:P:=by
  have hqe:=fun(o o':Obj)=>(h1.below (Ah (Ah (Al _ _) (Af _) o) z4ra o')).1.Uh hva hvb 9998;exact z02a):P:=h
def Acy(h:C.Ms D X β w m)(i:Aa)(hva:Ca m.arr.length m.pop.top)(hvb:Ca m.arr.length m.top)(hn:m.vals.length+1<=90000000000)(he:m.pop.top=m.top):Calls Tryz.prog 219 #[.p C.mb,Ac i] w (MP C D X β w (m.pop.pop.push (ofBool true)) (.tuple #[])):=by
 obtain⟨w0,As,Av,Ag,Ao,Aw,nn,lb,C9⟩:=h.Ci i;have HT:=F1 Av.o;rw[he]at hva HT;generalize m.top=v at *;unfold Ac;go_in;go_wp2_with fail
 rw[←As.o];refine HT.mono ?_;rintro e w1 ⟨rfl,h1,k1⟩;unfold B7;have Bn:=h1.B3;have A9:A3 (dx D X) w w1:=Ag.o.trans (Ae k1);have An:=(k1.block _ Ao.o).trans Aw.o;have nn:=Bi An;have Bk:=fun(W:World) (hb:Bw w1 W)=>C3 (L8 (h1.below hb).1 true z4ta) (A9.trans (Ae (h1.below hb).2));exact z4ia
def z4ga {P:Prop} (h:P:=by
  cases h:(u.k==v.k)
  ·rw[Am]at h ⊢;omega
  ·rw[Fh]at h ⊢;omega):P:=h
def z11a {P:Prop} (h:P:=by
  obtain⟨w0,As,Av,Ag,Ao,Aw,nn,lb,C9⟩:=h.Ci i;have HT:=F1 Av.o;generalize m.pop.top=u at *;generalize m.top=v at *;have tk:((u.k:Int)==(v.k:Int))=(u.k==v.k):=by
   exact z4ga
  rw[hk]at tk;unfold Ac;go_in;go_wp2_with fail
  rw[←As.o];refine HT.mono ?_;rintro e w1 ⟨rfl,h1,k1⟩;unfold B7;have Bn:=h1.B3;have A9:A3 (dx D X) w w1:=Ag.o.trans (Ae k1);have An:=(k1.block _ Ao.o).trans Aw.o;have nn:=Bi An;have Bk:=fun(W:World) (hb:Bw w1 W)=>C3 (L8 (h1.below hb).1 false z4ta) (A9.trans (Ae (h1.below hb).2));have hqe:=fun(o o':Obj)=>(h1.below (Ah (Ah (Al _ _) (Af _) o) z4ra o')).1.Uh hva hvb 9998;exact z02a):P:=h
def Acv(h:C.Ms D X β w m)(i:Aa)(hva:Ca m.arr.length m.pop.top)(hvb:Ca m.arr.length m.top)(hn:m.vals.length+1<=90000000000)(hk:(m.pop.top.k==m.top.k)=false):Calls Tryz.prog 219 #[.p C.mb,Ac i] w (MP C D X β w (m.pop.pop.push (ofBool false)) (.tuple #[])):=by
 exact z11a
def Ad0(h:C.Ms D X β w m)(i:Aa)(hva:Ca m.arr.length m.pop.top)(hvb:Ca m.arr.length m.top)(hn:m.vals.length+1<=90000000000)(hk:(m.pop.top.k==m.top.k)=true)(hy:(m.pop.top.y==m.top.y)=false):Calls Tryz.prog 219 #[.p C.mb,Ac i] w (MP C D X β w (m.pop.pop.push (ofBool false)) (.tuple #[])):=by
 exact z11a
def Acw(h:C.Ms D X β w m)(i:Aa)(hva:Ca m.arr.length m.pop.top)(hvb:Ca m.arr.length m.top)(hn:m.vals.length+1<=90000000000)(hk:(m.pop.top.k==m.top.k)=true)(hy:(m.pop.top.y==m.top.y)=true)(hnn:(m.pop.top.n==m.top.n)=false):Calls Tryz.prog 219 #[.p C.mb,Ac i] w (MP C D X β w (m.pop.pop.push (ofBool false)) (.tuple #[])):=by
 exact z11a
def Acz(h:C.Ms D X β w m)(i:Aa)(hva:Ca m.arr.length m.pop.top)(hvb:Ca m.arr.length m.top)(hn:m.vals.length+1<=90000000000)(hk:(m.pop.top.k==m.top.k)=true)(hy:(m.pop.top.y==m.top.y)=true)(hnn:(m.pop.top.n==m.top.n)=true)(ht:(m.pop.top.t==m.top.t)=false):Calls Tryz.prog 219 #[.p C.mb,Ac i] w (MP C D X β w (m.pop.pop.push (ofBool false)) (.tuple #[])):=by
 obtain⟨w0,As,Av,Ag,Ao,Aw,nn,lb,C9⟩:=h.Ci i;have HT:=F1 Av.o;generalize m.pop.top=u at *;generalize m.top=v at *;have tk:((u.k:Int)==(v.k:Int))=(u.k==v.k):=by
  exact z4ga
 rw[hk]at tk;have ht2:=ht;unfold Ac;go_in;go_wp2_with fail
 rw[←As.o];refine HT.mono ?_;rintro e w1 ⟨rfl,h1,k1⟩;unfold B7;have Bn:=h1.B3;have A9:A3 (dx D X) w w1:=Ag.o.trans (Ae k1);have An:=(k1.block _ Ao.o).trans Aw.o;have nn:=Bi An;have Bk:=fun(W:World) (hb:Bw w1 W)=>C3 (L8 (h1.below hb).1 false z4ta) (A9.trans (Ae (h1.below hb).2));exact z4ia
def Acx(h:C.Ms D X β w m)(i:Aa)(hva:Ca m.arr.length m.pop.top)(hvb:Ca m.arr.length m.top)(hn:m.vals.length+1<=90000000000)(hk:(m.pop.top.k==m.top.k)=true)(hy:(m.pop.top.y==m.top.y)=true)(hnn:(m.pop.top.n==m.top.n)=true)(ht:(m.pop.top.t==m.top.t)=true)(hr:(m.pop.top.r==m.top.r)=false):Calls Tryz.prog 219 #[.p C.mb,Ac i] w (MP C D X β w (m.pop.pop.push (ofBool false)) (.tuple #[])):=by
 obtain⟨w0,As,Av,Ag,Ao,Aw,nn,lb,C9⟩:=h.Ci i;have HT:=F1 Av.o;generalize m.pop.top=u at *;generalize m.top=v at *;have tk:((u.k:Int)==(v.k:Int))=(u.k==v.k):=by
  exact z4ga
 rw[hk]at tk;have ht2:=ht;unfold Ac;go_in;go_wp2_with fail
 rw[←As.o];refine HT.mono ?_;rintro e w1 ⟨rfl,h1,k1⟩;unfold B7;have Bn:=h1.B3;have A9:A3 (dx D X) w w1:=Ag.o.trans (Ae k1);have An:=(k1.block _ Ao.o).trans Aw.o;have nn:=Bi An;have Bk:=fun(W:World) (hb:Bw w1 W)=>C3 (L8 (h1.below hb).1 false z4ta) (A9.trans (Ae (h1.below hb).2));have hqe:=fun(o o':Obj)=>(h1.below (Ah (Ah (Al _ _) (Af _) o) z4ra o')).1.Uh hva hvb 9998;rw[hr]at hqe;exact z02a
def A4e(h:C.Ms D X β w m)(i:Aa)(hva:Ca m.arr.length m.pop.top)(hvb:Ca m.arr.length m.top)(hn:m.vals.length+1<=90000000000):Calls Tryz.prog 219 #[.p C.mb,Ac i] w (MP C D X β w (m.pop.pop.push (ofBool (m.pop.top.same m.top))) (.tuple #[])):=by
 cases hk:(m.pop.top.k==m.top.k)
 ·have e:m.pop.top.same m.top=false:=by unfold PV.same;rw[hk];rfl
  rw[e];exact Acv h i hva hvb hn hk
 cases hy:(m.pop.top.y==m.top.y)
 ·have e:m.pop.top.same m.top=false:=by unfold PV.same;rw[hk,hy];rfl
  rw[e];exact Ad0 h i hva hvb hn hk hy
 cases hnn:(m.pop.top.n==m.top.n)
 ·have e:m.pop.top.same m.top=false:=by unfold PV.same;rw[hk,hy,hnn];rfl
  rw[e];exact Acw h i hva hvb hn hk hy hnn
 cases ht:(m.pop.top.t==m.top.t)
 ·have e:m.pop.top.same m.top=false:=by unfold PV.same;rw[hk,hy,hnn,ht];rfl
  rw[e];exact Acz h i hva hvb hn hk hy hnn ht
 cases hr:(m.pop.top.r==m.top.r)
 ·have e:m.pop.top.same m.top=false:=by unfold PV.same;rw[hk,hy,hnn,ht,hr];rfl
  rw[e];exact Acx h i hva hvb hn hk hy hnn ht hr
 have e:m.pop.top.same m.top=true:=by unfold PV.same;rw[hk,hy,hnn,ht,hr];rfl
 rw[e];refine Acy h i hva hvb hn ?_;rw[Fh]at hk hy hnn ht hr;generalize m.pop.top=u at *;generalize m.top=v at *;cases u;cases v;simp only at hk hy hnn ht hr;rw[hk,hy,hnn,ht,hr]
def Adp(h:C.Ms D X β w m)(i:Aa)(ho:i.op=26)(hva:Ca m.arr.length m.pop.top)(hvb:Ca m.arr.length m.top)(hn:m.vals.length+1<=90000000000):Calls Tryz.prog 220 #[.p C.mb,Ac i] w (MP C D X β w (m.pop.pop.push (ofBool (!m.pop.top.same m.top))) (.tuple #[])):=by
 obtain⟨w0,As,Av,Ag,Ao,Aw,nn,lb,C9⟩:=h.Ci i;have t26:((i.op:Int)==26)=true:=by rw[ho];rfl
 clear ho;have tpush:(m.pop.pop.push (ofBool (m.pop.top.same m.top))).top=ofBool (m.pop.top.same m.top):=by simp[MS.push,MS.top]
 have tpop:(m.pop.pop.push (ofBool (m.pop.top.same m.top))).pop=m.pop.pop:=by simp[MS.push,MS.pop]
 have HE:=A4e Av.o i hva hvb hn;unfold Ac at HE;generalize m.pop.top.same m.top=q at *;unfold Ac;go_in;go_wp2_with fail
 rw[←As.o];refine HE.mono ?_;rintro e w1 ⟨rfl,h1,k1⟩;have Bn:=h1.B3;have A9:A3 (dx D X) w w1:=Ag.o.trans (Ae k1);have An:=(k1.block _ Ao.o).trans Aw.o;have nn:=Bi An;have HQ:=A0 h1.pop;rw[tpush,tpop]at HQ;unfold B7 ofBool at HQ;go_wp2_with fail
 refine HQ.o.mono ?_;rintro e w2 ⟨rfl,h2,k2⟩;have Ed:=h2.B3;have Ab:A3 (dx D X) w w2:=A9.trans (Ae k2);have Ct:=(k2.block _ Ao.o).trans An;have nn:=Bi Ct;have C2:=fun(W:World) (hb:Bw w2 W)=>C3 ((fun hs=>L8 hs (!q) z4ta) (h2.below hb).1) (Ab.trans (Ae (h2.below hb).2));exact z1ca
def z0fa {P:Prop} (h:P:=by
  go_wp2_with fail
  refine(HBf _).mono ?_;rintro e w3 ⟨rfl,hb3'⟩;have Ay:Bw w2 w3:=Ib z4na (N7 hb3' z4qa);have Jr:=C2 _ Ay;have lb3:=Ay.size;go_wp2_with fail
  refine Jr.1.mono ?_;rintro e w4 ⟨rfl,h4,k4⟩;have Ft:=A0 h4.back;have D6:A3 (dx D X) w w4:=Jr.2.trans (Ae k4);go_wp2;go_end0;exact⟨rfl,Ft.o,D6⟩):P:=h
def Agh(h:C.Ms D X β w m)(i:Aa)(ho:i.op=28)(h2:m.both 2=true)(hn:m.vals.length+1<=90000000000):Calls Tryz.prog 221 #[.p C.mb,Ac i] w (MP C D X β w (m.pop.pop.push (ofBool (before m.top m.pop.top))) (.tuple #[])):=by
 obtain⟨w0,As,Av,Ag,Ao,Aw,nn,lb,C9⟩:=h.Ci i;have HBo:=L7 Av.o 2;rw[h2]at HBo;have t28:((i.op:Int)==28)=true:=by rw[ho];rfl
 clear ho;unfold Ac;go_in;go_wp2_with fail
 rw[←As.o];refine HBo.mono ?_;rintro e w1 ⟨rfl,h1,k1⟩;have Bn:=h1.B3;have A9:A3 (dx D X) w w1:=Ag.o.trans (Ae k1);have An:=(k1.block _ Ao.o).trans Aw.o;have nn:=Bi An;have HT:=F1 h1;go_wp2_with fail
 refine HT.mono ?_;rintro e w2 ⟨rfl,h2,k2⟩;unfold B7;have Ed:=h2.B3;have Ab:A3 (dx D X) w w2:=A9.trans (Ae k2);have Ct:=(k2.block _ Ao.o).trans An;have nn:=Bi Ct;have HBf:=fun(W:World)=>R7 m.top m.pop.top β W;unfold B7 at HBf;have C2:=fun(W:World) (hb:Bw w2 W)=>C3 (L8 (h2.below hb).1 (before m.top m.pop.top) z4ta) (Ab.trans (Ae (h2.below hb).2));generalize before m.top m.pop.top=q at *;exact z0fa
def z0ea {P:Prop} (h:P:=by
  go_wp2_with fail
  refine(HBf _).mono ?_;rintro e w4 ⟨rfl,hb4'⟩;have Bz:Bw w3 w4:=Ib z4na (N7 hb4' z4qa);have HR4:=H8 _ Bz;have lb4:=Bz.size;go_wp2_with fail
  refine HR4.1.mono ?_;rintro e w5 ⟨rfl,h5,k5⟩;have Ic:=A0 h5.back;have Ez:A3 (dx D X) w w5:=HR4.2.trans (Ae k5);go_wp2;go_end0;exact⟨rfl,Ic.o,Ez⟩):P:=h
def Agi(h:C.Ms D X β w m)(i:Aa)(ho:i.op=28)(h2:m.both 2=false)(h3:m.both 3=true)(hn:m.vals.length+1<=90000000000):Calls Tryz.prog 221 #[.p C.mb,Ac i] w (MP C D X β w (m.pop.pop.push (ofBool (before m.top m.pop.top))) (.tuple #[])):=by
 obtain⟨w0,As,Av,Ag,Ao,Aw,nn,lb,C9⟩:=h.Ci i;have HBo:=L7 Av.o 2;rw[h2]at HBo;have t28:((i.op:Int)==28)=true:=by rw[ho];rfl
 clear ho;unfold Ac;go_in;go_wp2_with fail
 rw[←As.o];refine HBo.mono ?_;rintro e w1 ⟨rfl,h1,k1⟩;have Bn:=h1.B3;have A9:A3 (dx D X) w w1:=Ag.o.trans (Ae k1);have An:=(k1.block _ Ao.o).trans Aw.o;have nn:=Bi An;have HBo2:=L7 h1 3;rw[h3]at HBo2;go_wp2_with fail
 refine HBo2.mono ?_;rintro e w2 ⟨rfl,h2,k2⟩;have Ed:=h2.B3;have Ab:A3 (dx D X) w w2:=A9.trans (Ae k2);have Ct:=(k2.block _ Ao.o).trans An;have nn:=Bi Ct;have HT:=F1 h2;go_wp2_with fail
 refine HT.mono ?_;rintro e w3 ⟨rfl,h3,k3⟩;unfold B7;have lb3:=h3.B3;have Ba:A3 (dx D X) w w3:=Ab.trans (Ae k3);have hi3:=(k3.block _ Ao.o).trans Ct;have nn:=Bi hi3;have HBf:=fun(W:World)=>R7 m.top m.pop.top β W;unfold B7 at HBf;have H8:=fun(W:World) (hb:Bw w3 W)=>C3 (L8 (h3.below hb).1 (before m.top m.pop.top) z4ta) (Ba.trans (Ae (h3.below hb).2));generalize before m.top m.pop.top=q at *;exact z0ea
def Agn(h:C.Ms D X β w m)(i:Aa)(ho:i.op=29)(h2:m.both 2=true)(hn:m.vals.length+1<=90000000000):Calls Tryz.prog 221 #[.p C.mb,Ac i] w (MP C D X β w (m.pop.pop.push (ofBool (before m.pop.top m.top))) (.tuple #[])):=by
 obtain⟨w0,As,Av,Ag,Ao,Aw,nn,lb,C9⟩:=h.Ci i;have HBo:=L7 Av.o 2;rw[h2]at HBo;have t28:((i.op:Int)==28)=false:=by rw[ho];rfl
 have t29:((i.op:Int)==29)=true:=by rw[ho];rfl
 clear ho;unfold Ac;go_in;go_wp2_with fail
 rw[←As.o];refine HBo.mono ?_;rintro e w1 ⟨rfl,h1,k1⟩;have Bn:=h1.B3;have A9:A3 (dx D X) w w1:=Ag.o.trans (Ae k1);have An:=(k1.block _ Ao.o).trans Aw.o;have nn:=Bi An;have HT:=F1 h1;go_wp2_with fail
 refine HT.mono ?_;rintro e w2 ⟨rfl,h2,k2⟩;unfold B7;have Ed:=h2.B3;have Ab:A3 (dx D X) w w2:=A9.trans (Ae k2);have Ct:=(k2.block _ Ao.o).trans An;have nn:=Bi Ct;have HBf:=fun(W:World)=>R7 m.pop.top m.top β W;unfold B7 at HBf;have C2:=fun(W:World) (hb:Bw w2 W)=>C3 (L8 (h2.below hb).1 (before m.pop.top m.top) z4ta) (Ab.trans (Ae (h2.below hb).2));generalize before m.pop.top m.top=q at *;exact z0fa
def Ago(h:C.Ms D X β w m)(i:Aa)(ho:i.op=29)(h2:m.both 2=false)(h3:m.both 3=true)(hn:m.vals.length+1<=90000000000):Calls Tryz.prog 221 #[.p C.mb,Ac i] w (MP C D X β w (m.pop.pop.push (ofBool (before m.pop.top m.top))) (.tuple #[])):=by
 obtain⟨w0,As,Av,Ag,Ao,Aw,nn,lb,C9⟩:=h.Ci i;have HBo:=L7 Av.o 2;rw[h2]at HBo;have t28:((i.op:Int)==28)=false:=by rw[ho];rfl
 have t29:((i.op:Int)==29)=true:=by rw[ho];rfl
 clear ho;unfold Ac;go_in;go_wp2_with fail
 rw[←As.o];refine HBo.mono ?_;rintro e w1 ⟨rfl,h1,k1⟩;have Bn:=h1.B3;have A9:A3 (dx D X) w w1:=Ag.o.trans (Ae k1);have An:=(k1.block _ Ao.o).trans Aw.o;have nn:=Bi An;have HBo2:=L7 h1 3;rw[h3]at HBo2;go_wp2_with fail
 refine HBo2.mono ?_;rintro e w2 ⟨rfl,h2,k2⟩;have Ed:=h2.B3;have Ab:A3 (dx D X) w w2:=A9.trans (Ae k2);have Ct:=(k2.block _ Ao.o).trans An;have nn:=Bi Ct;have HT:=F1 h2;go_wp2_with fail
 refine HT.mono ?_;rintro e w3 ⟨rfl,h3,k3⟩;unfold B7;have lb3:=h3.B3;have Ba:A3 (dx D X) w w3:=Ab.trans (Ae k3);have hi3:=(k3.block _ Ao.o).trans Ct;have nn:=Bi hi3;have HBf:=fun(W:World)=>R7 m.pop.top m.top β W;unfold B7 at HBf;have H8:=fun(W:World) (hb:Bw w3 W)=>C3 (L8 (h3.below hb).1 (before m.pop.top m.top) z4ta) (Ba.trans (Ae (h3.below hb).2));generalize before m.pop.top m.top=q at *;exact z0ea
def Agf(h:C.Ms D X β w m)(i:Aa)(ho:i.op=30)(h2:m.both 2=true)(hn:m.vals.length+1<=90000000000):Calls Tryz.prog 221 #[.p C.mb,Ac i] w (MP C D X β w (m.pop.pop.push (ofBool (!before m.pop.top m.top))) (.tuple #[])):=by
 obtain⟨w0,As,Av,Ag,Ao,Aw,nn,lb,C9⟩:=h.Ci i;have HBo:=L7 Av.o 2;rw[h2]at HBo;have t28:((i.op:Int)==28)=false:=by rw[ho];rfl
 have t29:((i.op:Int)==29)=false:=by rw[ho];rfl
 have t30:((i.op:Int)==30)=true:=by rw[ho];rfl
 clear ho;unfold Ac;go_in;go_wp2_with fail
 rw[←As.o];refine HBo.mono ?_;rintro e w1 ⟨rfl,h1,k1⟩;have Bn:=h1.B3;have A9:A3 (dx D X) w w1:=Ag.o.trans (Ae k1);have An:=(k1.block _ Ao.o).trans Aw.o;have nn:=Bi An;have HT:=F1 h1;go_wp2_with fail
 refine HT.mono ?_;rintro e w2 ⟨rfl,h2,k2⟩;unfold B7;have Ed:=h2.B3;have Ab:A3 (dx D X) w w2:=A9.trans (Ae k2);have Ct:=(k2.block _ Ao.o).trans An;have nn:=Bi Ct;have HBf:=fun(W:World)=>R7 m.pop.top m.top β W;unfold B7 at HBf;have C2:=fun(W:World) (hb:Bw w2 W)=>C3 (L8 (h2.below hb).1 (!before m.pop.top m.top) z4ta) (Ab.trans (Ae (h2.below hb).2));generalize before m.pop.top m.top=q at *;exact z0fa
def Agg(h:C.Ms D X β w m)(i:Aa)(ho:i.op=30)(h2:m.both 2=false)(h3:m.both 3=true)(hn:m.vals.length+1<=90000000000):Calls Tryz.prog 221 #[.p C.mb,Ac i] w (MP C D X β w (m.pop.pop.push (ofBool (!before m.pop.top m.top))) (.tuple #[])):=by
 obtain⟨w0,As,Av,Ag,Ao,Aw,nn,lb,C9⟩:=h.Ci i;have HBo:=L7 Av.o 2;rw[h2]at HBo;have t28:((i.op:Int)==28)=false:=by rw[ho];rfl
 have t29:((i.op:Int)==29)=false:=by rw[ho];rfl
 have t30:((i.op:Int)==30)=true:=by rw[ho];rfl
 clear ho;unfold Ac;go_in;go_wp2_with fail
 rw[←As.o];refine HBo.mono ?_;rintro e w1 ⟨rfl,h1,k1⟩;have Bn:=h1.B3;have A9:A3 (dx D X) w w1:=Ag.o.trans (Ae k1);have An:=(k1.block _ Ao.o).trans Aw.o;have nn:=Bi An;have HBo2:=L7 h1 3;rw[h3]at HBo2;go_wp2_with fail
 refine HBo2.mono ?_;rintro e w2 ⟨rfl,h2,k2⟩;have Ed:=h2.B3;have Ab:A3 (dx D X) w w2:=A9.trans (Ae k2);have Ct:=(k2.block _ Ao.o).trans An;have nn:=Bi Ct;have HT:=F1 h2;go_wp2_with fail
 refine HT.mono ?_;rintro e w3 ⟨rfl,h3,k3⟩;unfold B7;have lb3:=h3.B3;have Ba:A3 (dx D X) w w3:=Ab.trans (Ae k3);have hi3:=(k3.block _ Ao.o).trans Ct;have nn:=Bi hi3;have HBf:=fun(W:World)=>R7 m.pop.top m.top β W;unfold B7 at HBf;have H8:=fun(W:World) (hb:Bw w3 W)=>C3 (L8 (h3.below hb).1 (!before m.pop.top m.top) z4ta) (Ba.trans (Ae (h3.below hb).2));generalize before m.pop.top m.top=q at *;exact z0ea
def Agk(h:C.Ms D X β w m)(i:Aa)(ho:i.op=31)(h2:m.both 2=true)(hn:m.vals.length+1<=90000000000):Calls Tryz.prog 221 #[.p C.mb,Ac i] w (MP C D X β w (m.pop.pop.push (ofBool (!before m.top m.pop.top))) (.tuple #[])):=by
 obtain⟨w0,As,Av,Ag,Ao,Aw,nn,lb,C9⟩:=h.Ci i;have HBo:=L7 Av.o 2;rw[h2]at HBo;have t28:((i.op:Int)==28)=false:=by rw[ho];rfl
 have t29:((i.op:Int)==29)=false:=by rw[ho];rfl
 have t30:((i.op:Int)==30)=false:=by rw[ho];rfl
 have t31:((i.op:Int)==31)=true:=by rw[ho];rfl
 clear ho;unfold Ac;go_in;go_wp2_with fail
 rw[←As.o];refine HBo.mono ?_;rintro e w1 ⟨rfl,h1,k1⟩;have Bn:=h1.B3;have A9:A3 (dx D X) w w1:=Ag.o.trans (Ae k1);have An:=(k1.block _ Ao.o).trans Aw.o;have nn:=Bi An;have HT:=F1 h1;go_wp2_with fail
 refine HT.mono ?_;rintro e w2 ⟨rfl,h2,k2⟩;unfold B7;have Ed:=h2.B3;have Ab:A3 (dx D X) w w2:=A9.trans (Ae k2);have Ct:=(k2.block _ Ao.o).trans An;have nn:=Bi Ct;have HBf:=fun(W:World)=>R7 m.top m.pop.top β W;unfold B7 at HBf;have C2:=fun(W:World) (hb:Bw w2 W)=>C3 (L8 (h2.below hb).1 (!before m.top m.pop.top) z4ta) (Ab.trans (Ae (h2.below hb).2));generalize before m.top m.pop.top=q at *;exact z0fa
def Agl(h:C.Ms D X β w m)(i:Aa)(ho:i.op=31)(h2:m.both 2=false)(h3:m.both 3=true)(hn:m.vals.length+1<=90000000000):Calls Tryz.prog 221 #[.p C.mb,Ac i] w (MP C D X β w (m.pop.pop.push (ofBool (!before m.top m.pop.top))) (.tuple #[])):=by
 obtain⟨w0,As,Av,Ag,Ao,Aw,nn,lb,C9⟩:=h.Ci i;have HBo:=L7 Av.o 2;rw[h2]at HBo;have t28:((i.op:Int)==28)=false:=by rw[ho];rfl
 have t29:((i.op:Int)==29)=false:=by rw[ho];rfl
 have t30:((i.op:Int)==30)=false:=by rw[ho];rfl
 have t31:((i.op:Int)==31)=true:=by rw[ho];rfl
 clear ho;unfold Ac;go_in;go_wp2_with fail
 rw[←As.o];refine HBo.mono ?_;rintro e w1 ⟨rfl,h1,k1⟩;have Bn:=h1.B3;have A9:A3 (dx D X) w w1:=Ag.o.trans (Ae k1);have An:=(k1.block _ Ao.o).trans Aw.o;have nn:=Bi An;have HBo2:=L7 h1 3;rw[h3]at HBo2;go_wp2_with fail
 refine HBo2.mono ?_;rintro e w2 ⟨rfl,h2,k2⟩;have Ed:=h2.B3;have Ab:A3 (dx D X) w w2:=A9.trans (Ae k2);have Ct:=(k2.block _ Ao.o).trans An;have nn:=Bi Ct;have HT:=F1 h2;go_wp2_with fail
 refine HT.mono ?_;rintro e w3 ⟨rfl,h3,k3⟩;unfold B7;have lb3:=h3.B3;have Ba:A3 (dx D X) w w3:=Ab.trans (Ae k3);have hi3:=(k3.block _ Ao.o).trans Ct;have nn:=Bi hi3;have HBf:=fun(W:World)=>R7 m.top m.pop.top β W;unfold B7 at HBf;have H8:=fun(W:World) (hb:Bw w3 W)=>C3 (L8 (h3.below hb).1 (!before m.top m.pop.top) z4ta) (Ba.trans (Ae (h3.below hb).2));generalize before m.top m.pop.top=q at *;exact z0ea
def Xu(h:C.Ms D X β w m)(i:Aa)(h2:m.both 2=false)(h3:m.both 3=false):Calls Tryz.prog 221 #[.p C.mb,Ac i] w (MP C D X β w (m.fail 5 i) (.tuple #[])):=by
 obtain⟨w0,As,Av,Ag,Ao,Aw,nn,lb,C9⟩:=h.Ci i;have HBo:=L7 Av.o 2;rw[h2]at HBo;unfold Ac;go_in;go_wp2_with fail
 rw[←As.o];refine HBo.mono ?_;rintro e w1 ⟨rfl,h1,k1⟩;have Bn:=h1.B3;have A9:A3 (dx D X) w w1:=Ag.o.trans (Ae k1);have An:=(k1.block _ Ao.o).trans Aw.o;have nn:=Bi An;have HBo2:=L7 h1 3;rw[h3]at HBo2;go_wp2_with fail
 refine HBo2.mono ?_;rintro e w2 ⟨rfl,h2,k2⟩;have Ed:=h2.B3;have Ab:A3 (dx D X) w w2:=A9.trans (Ae k2);have Ct:=(k2.block _ Ao.o).trans An;have nn:=Bi Ct;have C2:=fun(W:World) (hb:Bw w2 W)=>C3 ((fun hs=>Ih hs 5 i) (h2.below hb).1) (Ab.trans (Ae (h2.below hb).2));unfold Ac at C2;go_wp2_with fail
 refine((C2 _ z4na).1).mono ?_;rintro e w3 ⟨rfl,h3,k3⟩;have Bu:=A0 h3.back;have Ba:A3 (dx D X) w w3:=(C2 _ z4na).2.trans (Ae k3);go_wp2;refine B9 (v:=.tuple #[]) (by simp[results,Tryz.results221,go_sem]) rfl ?_;exact⟨rfl,Bu.o,Ba⟩
def Auh(a b:List UInt8)(ha:a.length<=100)(hb:b.length<=100)(w:World):(Op.stringOp .add ⟨a.toArray⟩ ⟨b.toArray⟩).run Tryz.prog w=.ok (.s (a++b)) w:=run_string_add_lists w a b z4ma z4ma
def A4f(h:C.Ms D X β w m)(i:Aa)(hl1:m.pop.top.t.length<=100000)(Gx:m.top.t.length<=100000)(hz:100<m.pop.top.t.length+m.top.t.length):Calls Tryz.prog 213 #[.p C.mb,Ac i] w (MP C D X β w (m.pop.pop.fail 10 i) (.tuple #[])):=by
 obtain⟨w0,As,Av,Ag,Ao,Aw,nn,lb,C9⟩:=h.Ci i;have tz:decide ((100:Int)<(m.pop.top.t.length:Int)+(m.top.t.length:Int))=true:=by rw[decide_eq_true_iff];omega
 have HT:=F1 Av.o;unfold Ac;go_in;go_wp2_with fail
 rw[←As.o];refine HT.mono ?_;rintro e w1 ⟨rfl,h1,k1⟩;unfold B7;have Bn:=h1.B3;have A9:A3 (dx D X) w w1:=Ag.o.trans (Ae k1);have An:=(k1.block _ Ao.o).trans Aw.o;have nn:=Bi An;have Bk:=fun(W:World) (hb:Bw w1 W)=>C3 ((fun hs=>Ih hs 10 i) (h1.below hb).1) (A9.trans (Ae (h1.below hb).2));unfold Ac at Bk;go_wp2_with fail
 refine((Bk _ z4na).1).mono ?_;rintro e w2 ⟨rfl,h2,k2⟩;have Au:=A0 h2.back;have Ab:A3 (dx D X) w w2:=(Bk _ z4na).2.trans (Ae k2);go_wp2;refine B9 (v:=.tuple #[]) (by simp[results,Tryz.results213,go_sem]) rfl ?_;exact z4ja
def A4g(h:C.Ms D X β w m)(i:Aa)(hz:m.pop.top.t.length+m.top.t.length<=100)(hn:m.vals.length+1<=90000000000):Calls Tryz.prog 213 #[.p C.mb,Ac i] w (MP C D X β w (m.pop.pop.push (ofStr (m.pop.top.t++m.top.t))) (.tuple #[])):=by
 obtain⟨w0,As,Av,Ag,Ao,Aw,nn,lb,C9⟩:=h.Ci i;have tz:decide ((100:Int)<(m.pop.top.t.length:Int)+(m.top.t.length:Int))=false:=by rw[Ze];omega
 have hl1:m.pop.top.t.length<=100:=by omega
 have Gx:m.top.t.length<=100:=by omega
 have HT:=F1 Av.o;unfold Ac;go_in;go_wp2_with fail
 rw[←As.o];refine HT.mono ?_;rintro e w1 ⟨rfl,h1,k1⟩;unfold B7;have Bn:=h1.B3;have A9:A3 (dx D X) w w1:=Ag.o.trans (Ae k1);have An:=(k1.block _ Ao.o).trans Aw.o;have nn:=Bi An;have HPs:=fun(W:World) (hb:Bw w1 W)=>C3 ((h1.below hb).1.push (ofStr (m.pop.top.t++m.top.t)) (by simp[Ca,ofStr]) z4ta) (A9.trans (Ae (h1.below hb).2));unfold B7 ofStr at HPs;dsimp only[Bf]at HPs;go_wp2;have sa:=Auh m.pop.top.t m.top.t hl1 Gx;generalize hu:m.pop.top.t++m.top.t=u at *;go_region_law (first
  | (refine F9 rfl 99 _ _ rfl #[.pointer (some ⟨C.mb,4,none⟩),.agg #[.i 3,.bool false,.i 0,.s u,.pointer none]] z4pa HQ.o.1 ?_;rintro e w3 ⟨rfl,h3,k3⟩;refine⟨_,rfl,?_⟩;have Bu:=A0 h3.back;have Ba:Hid (A3 (dx D X) w w3):=HQ.o.2.trans (Ae k3);clear h3 k3)
  | (refine F9 rfl 86 _ _ rfl #[.s u] z4pa (A1u _ _) ?_;rintro e w2 ⟨rfl,hb2'⟩;refine⟨_,rfl,?_⟩;have Ad:Bw w1 w2:=Ib z4na (N7 (Tx hb2') z4qa);have HQ:=A0 (HPs w2 Ad);have Ed:=Ad.size;clear Ad hb2'))
 all_goals go_wp2
 all_goals go_end0
 all_goals exact⟨rfl,Bu.o,Ba.o⟩
def Abm(h:C.Ms D X β w m)(i:Aa)(ho:i.op=13)(hn:m.vals.length+1<=90000000000):Calls Tryz.prog 212 #[.p C.mb,Ac i] w (MP C D X β w (m.two fun a b m'=>m'.push (ofInt (wr (a.n+b.n)))) (.tuple #[])):=by
 obtain⟨w0,As,Av,Ag,Ao,Aw,nn,lb,C9⟩:=h.Ci i;have t12:((i.op:Int)==12)=false:=by rw[ho];rfl
 have t13:((i.op:Int)==13)=true:=by rw[ho];rfl
 clear ho;have HT:=F1 Av.o;unfold Ac;go_in;go_wp2_with fail
 rw[←As.o];refine HT.mono ?_;rintro e w1 ⟨rfl,h1,k1⟩;unfold B7;have Bn:=h1.B3;have A9:A3 (dx D X) w w1:=Ag.o.trans (Ae k1);have An:=(k1.block _ Ao.o).trans Aw.o;have nn:=Bi An;have Bk:=fun(W:World) (hb:Bw w1 W)=>C3 ((fun hs=>Oi hs (wr (m.pop.top.n+m.top.n)) z4ta) (h1.below hb).1) (A9.trans (Ae (h1.below hb).2));unfold Ac at Bk;exact z02a
def z0ka {P:Prop} (h:P:=by
  (try unfold Ac at Bk);go_wp2_with fail
  refine((Bk _ z4na).1).mono ?_;rintro e w2 ⟨rfl,h2,k2⟩;have Au:=A0 h2.back;have Ab:A3 (dx D X) w w2:=(Bk _ z4na).2.trans (Ae k2);go_wp2;refine B9 (v:=.tuple #[]) (by simp[results,Tryz.results212,go_sem]) rfl ?_;exact⟨rfl,Au.o,Ab⟩):P:=h
def Abo(h:C.Ms D X β w m)(i:Aa)(ho:i.op=12)(h3:m.both 3=true)(hz:m.pop.top.t.length+m.top.t.length<=100)(hn:m.vals.length+1<=90000000000):Calls Tryz.prog 212 #[.p C.mb,Ac i] w (MP C D X β w (m.pop.pop.push (ofStr (m.pop.top.t++m.top.t))) (.tuple #[])):=by
 obtain⟨w0,As,Av,Ag,Ao,Aw,nn,lb,C9⟩:=h.Ci i;have HBo:=L7 Av.o 3;rw[h3]at HBo;have t0:((i.op:Int)==12)=true:=by rw[ho];rfl
 clear ho;unfold Ac;go_in;go_wp2_with fail
 rw[←As.o];refine HBo.mono ?_;rintro e w1 ⟨rfl,h1,k1⟩;have Bn:=h1.B3;have A9:A3 (dx D X) w w1:=Ag.o.trans (Ae k1);have An:=(k1.block _ Ao.o).trans Aw.o;have nn:=Bi An;have Bk:=fun(W:World) (hb:Bw w1 W)=>C3 ((fun hs=>A4g hs i hz hn) (h1.below hb).1) (A9.trans (Ae (h1.below hb).2));exact z0ka
def Abn(h:C.Ms D X β w m)(i:Aa)(ho:i.op=12)(h3:m.both 3=true)(hl1:m.pop.top.t.length<=100000)(Gx:m.top.t.length<=100000)(hz:100<m.pop.top.t.length+m.top.t.length):Calls Tryz.prog 212 #[.p C.mb,Ac i] w (MP C D X β w (m.pop.pop.fail 10 i) (.tuple #[])):=by
 obtain⟨w0,As,Av,Ag,Ao,Aw,nn,lb,C9⟩:=h.Ci i;have HBo:=L7 Av.o 3;rw[h3]at HBo;have t0:((i.op:Int)==12)=true:=by rw[ho];rfl
 clear ho;unfold Ac;go_in;go_wp2_with fail
 rw[←As.o];refine HBo.mono ?_;rintro e w1 ⟨rfl,h1,k1⟩;have Bn:=h1.B3;have A9:A3 (dx D X) w w1:=Ag.o.trans (Ae k1);have An:=(k1.block _ Ao.o).trans Aw.o;have nn:=Bi An;have Bk:=fun(W:World) (hb:Bw w1 W)=>C3 ((fun hs=>A4f hs i hl1 Gx hz) (h1.below hb).1) (A9.trans (Ae (h1.below hb).2));exact z0ka
def Abl(h:C.Ms D X β w m)(i:Aa)(ho:i.op=12)(h3:m.both 3=false)(h2:m.both 2=false):Calls Tryz.prog 212 #[.p C.mb,Ac i] w (MP C D X β w (m.fail 5 i) (.tuple #[])):=by
 obtain⟨w0,As,Av,Ag,Ao,Aw,nn,lb,C9⟩:=h.Ci i;have HBo:=L7 Av.o 3;rw[h3]at HBo;have t0:((i.op:Int)==12)=true:=by rw[ho];rfl
 clear ho;unfold Ac;go_in;go_wp2_with fail
 rw[←As.o];refine HBo.mono ?_;rintro e w1 ⟨rfl,h1,k1⟩;have Bn:=h1.B3;have A9:A3 (dx D X) w w1:=Ag.o.trans (Ae k1);have An:=(k1.block _ Ao.o).trans Aw.o;have nn:=Bi An;have Bk:=fun(W:World) (hb:Bw w1 W)=>C3 ((fun hs=>Wa hs i h2) (h1.below hb).1) (A9.trans (Ae (h1.below hb).2));exact z0ka
def Abp(h:C.Ms D X β w m)(i:Aa)(ho:i.op=12)(h3:m.both 3=false)(h2:m.both 2=true)(hn:m.vals.length+1<=90000000000):Calls Tryz.prog 212 #[.p C.mb,Ac i] w (MP C D X β w (m.pop.pop.push (ofInt (wr (m.pop.top.n+m.top.n)))) (.tuple #[])):=by
 obtain⟨w0,As,Av,Ag,Ao,Aw,nn,lb,C9⟩:=h.Ci i;have HBo:=L7 Av.o 3;rw[h3]at HBo;have t0:((i.op:Int)==12)=true:=by rw[ho];rfl
 clear ho;unfold Ac;go_in;go_wp2_with fail
 rw[←As.o];refine HBo.mono ?_;rintro e w1 ⟨rfl,h1,k1⟩;have Bn:=h1.B3;have A9:A3 (dx D X) w w1:=Ag.o.trans (Ae k1);have An:=(k1.block _ Ao.o).trans Aw.o;have nn:=Bi An;have HA:=Wb h1 i h2;unfold Ac at HA;go_wp2_with fail
 refine HA.mono ?_;rintro e w2 ⟨rfl,h2,k2⟩;have Ed:=h2.B3;have Ab:A3 (dx D X) w w2:=A9.trans (Ae k2);have Ct:=(k2.block _ Ao.o).trans An;have nn:=Bi Ct;have HT:=F1 h2;go_wp2_with fail
 refine HT.mono ?_;rintro e w3 ⟨rfl,h3,k3⟩;unfold B7;have lb3:=h3.B3;have Ba:A3 (dx D X) w w3:=Ab.trans (Ae k3);have hi3:=(k3.block _ Ao.o).trans Ct;have nn:=Bi hi3;have H8:=fun(W:World) (hb:Bw w3 W)=>C3 ((fun hs=>Oi hs (wr (m.pop.top.n+m.top.n)) z4ta) (h3.below hb).1) (Ba.trans (Ae (h3.below hb).2));unfold Ac at H8;go_wp2_with fail
 refine((H8 _ z4na).1).mono ?_;rintro e w4 ⟨rfl,h4,k4⟩;have Ft:=A0 h4.back;have D6:A3 (dx D X) w w4:=(H8 _ z4na).2.trans (Ae k4);go_wp2;go_end0;exact⟨rfl,Ft.o,D6⟩
