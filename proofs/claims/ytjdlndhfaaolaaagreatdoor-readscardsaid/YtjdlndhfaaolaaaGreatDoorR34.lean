import Derived.Test.YtjdlndhfaaolaaaGreatDoorR33
set_option maxHeartbeats 20000000
namespace Go.Proofs.YtjdlndhfaaolaaaGreatDoor
section
set_option maxRecDepth 100000
open Go.RowKit
open Go.Deep (BT)
theorem o8(fns:List (Nm×Nat))(l:A2)(c:BT A2)(outer cur:List Nm)(wh:Nat)(inn:Bool)(f:B3)(h:l.kd=6\/l.kd=28):Ag fns (nd l c) outer cur wh inn f=Ag fns c outer cur wh inn (Bu (!decide (l.s∈outer++cur)) 3 l.line f):=by
 unfold nd;rw[Ag,if_neg (by omega),if_neg (by omega),if_neg (by omega)];simp only[h,if_true,Ag]
theorem o6(fns:List (Nm×Nat))(l:A2)(c:BT A2)(outer cur:List Nm)(wh:Nat)(inn:Bool)(f:B3)(h:l.kd=25\/l.kd=26):Ag fns (nd l c) outer cur wh inn f=Ag fns c outer cur wh inn (Bu (wh==0) 4 l.line f):=by
 unfold nd;rw[Ag,if_neg (by omega),if_neg (by omega),if_neg (by omega)];simp only[h,if_true,Ag];rw[if_neg (by omega),if_neg (by omega)]
theorem Aay(fns:List (Nm×Nat))(l:A2)(c:BT A2)(outer cur:List Nm)(wh:Nat)(inn:Bool)(f:B3)(h:l.kd=24):Ag fns (nd l c) outer cur wh inn f=Ag fns c outer cur wh inn (Bu (!inn) 4 l.line f):=by
 unfold nd;rw[Ag,if_neg (by omega),if_neg (by omega),if_neg (by omega)];simp only[h,Ag];rfl
theorem A7i(K:Ctx)(l:A2)(c:BT A2)(hkd:l.kd=6)(hok:Mc K c)(hshp:Hs c)(F2:Dq c):Lo K l c:=by
 have J4:l.kd≠32:=by omega
 have hI:Dy l.kd=[110,97,109,101]:=by rw[hkd];rfl
 have hsens:=fun(outer cur:List Nm) (wh:Nat) (inn:Bool) (f:B3)=>o8 K.fns l c outer cur wh inn f (.inl hkd);intro D w outer ob cur blk wh inn f ln nn S va vn vc pa pn pc c1 hst hrt A3 A9 Ar;have Ig:wh+Cy l.kd=wh:=by unfold Cy;rw[if_neg J4];rfl
 rw[Ig]at hst ⊢;rw[hI];clear hI;have HSens:=A0 (hsens outer cur wh inn f);have Dk:=A0 hst;have Gg:=A0 hrt;have E9:=A0 (hst.Lw (.cells #[.string ⟨#[110,97,109,101]⟩,.int .i64 ln,.string ⟨S.toArray⟩,.int .i64 nn,.slice va vn vc,.slice pa pn pc] 77));have HOk:=A0 hok;have HShp:=A0 hshp;have HT:=A0 F2;have hvn:vn=A8 c:=(C9 hrt.own.1).1;have hbls:=Kl c;have hnds:=B8 l c;have Ie:Ji (fun g=>D g\/g=w.heap.size) (w.alloc (.cells #[.string ⟨#[110,97,109,101]⟩,.int .i64 ln,.string ⟨S.toArray⟩,.int .i64 nn,.slice va vn vc,.slice pa pn pc] 77)) l c ln nn S va vn vc pa pn pc c1:=hrt.keep (fun g hg hl=>⟨Below.heap_alloc _ _ _ hl,.inl hg⟩);have HRt1':=A0 Ie;subst hvn;obtain⟨w1,Bm⟩:∃w1,w1=w.alloc (.cells #[.string ⟨#[110,97,109,101]⟩,.int .i64 ln,.string ⟨S.toArray⟩,.int .i64 nn,.slice va (A8 c) vc,.slice pa pn pc] 77):=⟨_,rfl⟩;have Hr:Hid (Ji (fun g=>D g\/g=w.heap.size) w1 l c ln nn S va (A8 c) vc pa pn pc c1):=by rw[Bm];exact HRt1'.o
 have Ea:Hid (w1.heap[w.heap.size]?=some (.cells #[.string ⟨#[110,97,109,101]⟩,.int .i64 ln,.string ⟨S.toArray⟩,.int .i64 nn,.slice va (A8 c) vc,.slice pa pn pc] 77)):=by show _=_;rw[Bm];exact heap_alloc_new w (.cells #[.string ⟨#[110,97,109,101]⟩,.int .i64 ln,.string ⟨S.toArray⟩,.int .i64 nn,.slice va (A8 c) vc,.slice pa pn pc] 77)
 have Br:Hid (A4 D w w1):=by rw[Bm];exact Md Dk.o (.cells #[.string ⟨#[110,97,109,101]⟩,.int .i64 ln,.string ⟨S.toArray⟩,.int .i64 nn,.slice va (A8 c) vc,.slice pa pn pc] 77)
 have HEq:=A0 Bm;have hsw1:w1.heap.size=w.heap.size+1:=by rw[Bm];simp
 have K4:=A0 Gg.o.line;have HNm0:=A0 Gg.o.name;clear hsens hst hrt Ie hok hshp F2 Ig J4 Bm HRt1' Gg;have hln:ln=l.line:=K4.o (by rw[hkd];rfl);have hS:S=l.s:=HNm0.o (by rw[hkd];rfl);have HS:=A0 hS;have HLn:=A0 hln;clear hS hln;clear hkd K4 HNm0;go_enter Tryz.func64,Tryz.ntmps64;go_wp2_with fail
 refine(o4 E9.o.st (by omega) S).mono ?_;rintro e w2 ⟨rfl,Av,hb2'⟩;generalize hq:decide (S∈outer++cur)=q;have HQ:=A0 hq;clear hq;have HStA:=A0 (E9.o.next Av (Ok hb2' E9.o.lo));have HBA:Hid (A4 (fun g=>D g\/g=w.heap.size) w1 w2):=by rw[HEq.o];exact Ok hb2' E9.o.lo
 obtain⟨x0,x1,x2,x3,x4,x5,fX,lX⟩:=As ((HBA.o.block w.heap.size (.inr rfl)).trans Ea.o);clear Av hb2';go_wp2_with fail
 refine(Nz HStA.o.st (!q) 3 l.line _ _ rfl HLn.o).mono ?_;rintro e w3 ⟨rfl,At,hb3'⟩;have Et:=A0 (HStA.o.next At hb3');have Ai:Hid (A4 (fun g=>D g\/g=w.heap.size) w1 w3):=HBA.o.trans hb3';clear At hb3';go_wp2;rw[←HQ.o,HS.o]at Et;clear x0 x1 x2 x3 x4 x5 fX lX;go_loopg [7] (A8 c) (fun k v wr=>∃(n:Nat) (cn:List Nm) (fn:B3),v=.int .i64 n/\n+k=A8 c/\cn.length+bsize (Au n c)<=(cur).length+bsize c/\K.St (fun g=>D g\/g=w.heap.size) wr outer ob cn blk wh inn fn/\Ag K.fns (Au n c) outer cn wh inn fn=Ag K.fns c outer (cur) wh inn (Bu (!decide (l.s∈outer++cur)) 3 l.line f)/\A4 (fun g=>D g\/g=w.heap.size) w1 wr)
 case atStart=>exact⟨0,cur,Bu (!decide (l.s∈outer++cur)) 3 l.line f,rfl,by omega,Nat.le_refl _,Et.o,rfl,Ai.o⟩
 case round=>
  clear Et Ai;obtain⟨n,cn,fn,rfl,hnk,hcn,hst,hse,hbel⟩:=hrel;have hX:=(hbel.block w.heap.size (.inr rfl)).trans Ea.o;obtain⟨x0,x1,x2,x3,x4,x5,fX,lX⟩:=As hX;have HSt:=A0 hst;have HSe:=A0 hse;have HBel:=A0 hbel;clear hst hse hbel;by_cases hlt:n<A8 c
  ·have hk:∀g,(D g\/g=w.heap.size)->g<w1.heap.size->wr.heap[g]?=w1.heap[g]?/\(D g\/g=w.heap.size):=fun g hg _=>⟨HBel.o.block g hg,hg⟩;obtain⟨x,y,l',cc,r,hd,ln',mm,S',Ev,G2,Ew,Eg,Gd,Eh,c2,hrt,k0,k1,k2,k3,k4,k5⟩:=Ak.at' n c c1 HShp.o (Ak.keep hk _ _ Hr.o.kids) hlt;obtain⟨g,rfl,_,hcap,lg,hcell⟩:=Fs (Hr.o.own.keep hk).1 (by omega);have d0:=hcell _ _ k0;have d1:=hcell _ _ k1;have d2:=hcell _ _ k2;have d3:=hcell _ _ k3;have d4:=hcell _ _ k4;have d5:=hcell _ _ k5;have h32:l'.kd≠32:=by have:=N2 n c HT.o;rw[hd]at this;exact this.1
   have hw:wh+Cy l'.kd=wh:=by unfold Cy;rw[if_neg h32];rfl
   have hsz:bsize (Au n c)=bsize (nd l' cc)+bsize r:=by rw[hd,B8,bsize]
   have hdn:=M4 n c;have HNd:=A0 (HOk.o n x y l' cc r hd);have HDs:=A0 (Ko n c x y l' cc r hd);have HRt:=A0 hrt;have HSx:=A0 ((congrArg (fun q=>Ag K.fns q outer cn wh inn fn) hd).trans (Mi K.fns x y l' cc r outer cn wh inn fn));have hcur:=M8 K.fns (nd l' cc) outer cn wh inn fn;have HW:=A0 hw;clear hcell hd hrt hw h32;clear k0 k1 k2 k3 k4 k5;go_wp2_with fail
   refine(HNd.o _ wr outer ob cn blk wh inn fn ln' mm S' Ev G2 Ew Eg Gd Eh c2 (by rw[HW.o];exact HSt.o) HRt.o (by simp only[List.length_append]at A3 ⊢;omega) (by omega) (by omega)).mono ?_;rintro e w3 ⟨rfl,At,Fi⟩;rw[HW.o]at At;have Hf:=A0 At;have B4:Hid (A4 (fun g=>D g\/g=w.heap.size) w1 w3):=HBel.o.trans Fi;clear At Fi;go_wp2;go_roundg (gk-1)
   case measure=>omega
   case rel=>exact⟨n+1,_,_,rfl,by omega,by rw[HDs.o];omega,Hf.o,by rw[HDs.o,←HSx.o];exact HSe.o,B4.o⟩
  ·have HE:Hid ((cn,fn)=Ag K.fns c outer (cur) wh inn (Bu (!decide (l.s∈outer++cur)) 3 l.line f)):=by
    have h0:Au n c=.nil:=Ms _ (by rw[L4];omega);have:=HSe.o;rw[h0]at this;exact this
   clear HSe;go_wp2;go_end0;have hbl:=Br.o.trans (HBel.o.weak (fun g hg=>.inl hg));rw[HSens.o,←HE.o];exact⟨rfl,Dk.o.back HSt.o.st hbl,hbl⟩
theorem A7f(K:Ctx)(l:A2)(c:BT A2)(hkd:l.kd=28)(hok:Mc K c)(hshp:Hs c)(F2:Dq c):Lo K l c:=by
 have J4:l.kd≠32:=by omega
 have hI:Dy l.kd=[115,101,116]:=by rw[hkd];rfl
 have hsens:=fun(outer cur:List Nm) (wh:Nat) (inn:Bool) (f:B3)=>o8 K.fns l c outer cur wh inn f (.inr hkd);intro D w outer ob cur blk wh inn f ln nn S va vn vc pa pn pc c1 hst hrt A3 A9 Ar;have Ig:wh+Cy l.kd=wh:=by unfold Cy;rw[if_neg J4];rfl
 rw[Ig]at hst ⊢;rw[hI];clear hI;have HSens:=A0 (hsens outer cur wh inn f);have Dk:=A0 hst;have Gg:=A0 hrt;have E9:=A0 (hst.Lw (.cells #[.string ⟨#[115,101,116]⟩,.int .i64 ln,.string ⟨S.toArray⟩,.int .i64 nn,.slice va vn vc,.slice pa pn pc] 77));have HOk:=A0 hok;have HShp:=A0 hshp;have HT:=A0 F2;have hvn:vn=A8 c:=(C9 hrt.own.1).1;have hbls:=Kl c;have hnds:=B8 l c;have Ie:Ji (fun g=>D g\/g=w.heap.size) (w.alloc (.cells #[.string ⟨#[115,101,116]⟩,.int .i64 ln,.string ⟨S.toArray⟩,.int .i64 nn,.slice va vn vc,.slice pa pn pc] 77)) l c ln nn S va vn vc pa pn pc c1:=hrt.keep (fun g hg hl=>⟨Below.heap_alloc _ _ _ hl,.inl hg⟩);have HRt1':=A0 Ie;subst hvn;obtain⟨w1,Bm⟩:∃w1,w1=w.alloc (.cells #[.string ⟨#[115,101,116]⟩,.int .i64 ln,.string ⟨S.toArray⟩,.int .i64 nn,.slice va (A8 c) vc,.slice pa pn pc] 77):=⟨_,rfl⟩;have Hr:Hid (Ji (fun g=>D g\/g=w.heap.size) w1 l c ln nn S va (A8 c) vc pa pn pc c1):=by rw[Bm];exact HRt1'.o
 have Ea:Hid (w1.heap[w.heap.size]?=some (.cells #[.string ⟨#[115,101,116]⟩,.int .i64 ln,.string ⟨S.toArray⟩,.int .i64 nn,.slice va (A8 c) vc,.slice pa pn pc] 77)):=by show _=_;rw[Bm];exact heap_alloc_new w (.cells #[.string ⟨#[115,101,116]⟩,.int .i64 ln,.string ⟨S.toArray⟩,.int .i64 nn,.slice va (A8 c) vc,.slice pa pn pc] 77)
 have Br:Hid (A4 D w w1):=by rw[Bm];exact Md Dk.o (.cells #[.string ⟨#[115,101,116]⟩,.int .i64 ln,.string ⟨S.toArray⟩,.int .i64 nn,.slice va (A8 c) vc,.slice pa pn pc] 77)
 have HEq:=A0 Bm;have hsw1:w1.heap.size=w.heap.size+1:=by rw[Bm];simp
 have K4:=A0 Gg.o.line;have HNm0:=A0 Gg.o.name;clear hsens hst hrt Ie hok hshp F2 Ig J4 Bm HRt1' Gg;have hln:ln=l.line:=K4.o (by rw[hkd];rfl);have hS:S=l.s:=HNm0.o (by rw[hkd];rfl);have HS:=A0 hS;have HLn:=A0 hln;clear hS hln;clear hkd K4 HNm0;go_enter Tryz.func64,Tryz.ntmps64;go_wp2_with fail
 refine(o4 E9.o.st (by omega) S).mono ?_;rintro e w2 ⟨rfl,Av,hb2'⟩;generalize hq:decide (S∈outer++cur)=q;have HQ:=A0 hq;clear hq;have HStA:=A0 (E9.o.next Av (Ok hb2' E9.o.lo));have HBA:Hid (A4 (fun g=>D g\/g=w.heap.size) w1 w2):=by rw[HEq.o];exact Ok hb2' E9.o.lo
 obtain⟨x0,x1,x2,x3,x4,x5,fX,lX⟩:=As ((HBA.o.block w.heap.size (.inr rfl)).trans Ea.o);clear Av hb2';go_wp2_with fail
 refine(Nz HStA.o.st (!q) 3 l.line _ _ rfl HLn.o).mono ?_;rintro e w3 ⟨rfl,At,hb3'⟩;have Et:=A0 (HStA.o.next At hb3');have Ai:Hid (A4 (fun g=>D g\/g=w.heap.size) w1 w3):=HBA.o.trans hb3';clear At hb3';go_wp2;rw[←HQ.o,HS.o]at Et;clear x0 x1 x2 x3 x4 x5 fX lX;go_loopg [7] (A8 c) (fun k v wr=>∃(n:Nat) (cn:List Nm) (fn:B3),v=.int .i64 n/\n+k=A8 c/\cn.length+bsize (Au n c)<=(cur).length+bsize c/\K.St (fun g=>D g\/g=w.heap.size) wr outer ob cn blk wh inn fn/\Ag K.fns (Au n c) outer cn wh inn fn=Ag K.fns c outer (cur) wh inn (Bu (!decide (l.s∈outer++cur)) 3 l.line f)/\A4 (fun g=>D g\/g=w.heap.size) w1 wr)
 case atStart=>exact⟨0,cur,Bu (!decide (l.s∈outer++cur)) 3 l.line f,rfl,by omega,Nat.le_refl _,Et.o,rfl,Ai.o⟩
 case round=>
  clear Et Ai;obtain⟨n,cn,fn,rfl,hnk,hcn,hst,hse,hbel⟩:=hrel;have hX:=(hbel.block w.heap.size (.inr rfl)).trans Ea.o;obtain⟨x0,x1,x2,x3,x4,x5,fX,lX⟩:=As hX;have HSt:=A0 hst;have HSe:=A0 hse;have HBel:=A0 hbel;clear hst hse hbel;by_cases hlt:n<A8 c
  ·have hk:∀g,(D g\/g=w.heap.size)->g<w1.heap.size->wr.heap[g]?=w1.heap[g]?/\(D g\/g=w.heap.size):=fun g hg _=>⟨HBel.o.block g hg,hg⟩;obtain⟨x,y,l',cc,r,hd,ln',mm,S',Ev,G2,Ew,Eg,Gd,Eh,c2,hrt,k0,k1,k2,k3,k4,k5⟩:=Ak.at' n c c1 HShp.o (Ak.keep hk _ _ Hr.o.kids) hlt;obtain⟨g,rfl,_,hcap,lg,hcell⟩:=Fs (Hr.o.own.keep hk).1 (by omega);have d0:=hcell _ _ k0;have d1:=hcell _ _ k1;have d2:=hcell _ _ k2;have d3:=hcell _ _ k3;have d4:=hcell _ _ k4;have d5:=hcell _ _ k5;have h32:l'.kd≠32:=by have:=N2 n c HT.o;rw[hd]at this;exact this.1
   have hw:wh+Cy l'.kd=wh:=by unfold Cy;rw[if_neg h32];rfl
   have hsz:bsize (Au n c)=bsize (nd l' cc)+bsize r:=by rw[hd,B8,bsize]
   have hdn:=M4 n c;have HNd:=A0 (HOk.o n x y l' cc r hd);have HDs:=A0 (Ko n c x y l' cc r hd);have HRt:=A0 hrt;have HSx:=A0 ((congrArg (fun q=>Ag K.fns q outer cn wh inn fn) hd).trans (Mi K.fns x y l' cc r outer cn wh inn fn));have hcur:=M8 K.fns (nd l' cc) outer cn wh inn fn;have HW:=A0 hw;clear hcell hd hrt hw h32;clear k0 k1 k2 k3 k4 k5;go_wp2_with fail
   refine(HNd.o _ wr outer ob cn blk wh inn fn ln' mm S' Ev G2 Ew Eg Gd Eh c2 (by rw[HW.o];exact HSt.o) HRt.o (by simp only[List.length_append]at A3 ⊢;omega) (by omega) (by omega)).mono ?_;rintro e w3 ⟨rfl,At,Fi⟩;rw[HW.o]at At;have Hf:=A0 At;have B4:Hid (A4 (fun g=>D g\/g=w.heap.size) w1 w3):=HBel.o.trans Fi;clear At Fi;go_wp2;go_roundg (gk-1)
   case measure=>omega
   case rel=>exact⟨n+1,_,_,rfl,by omega,by rw[HDs.o];omega,Hf.o,by rw[HDs.o,←HSx.o];exact HSe.o,B4.o⟩
  ·have HE:Hid ((cn,fn)=Ag K.fns c outer (cur) wh inn (Bu (!decide (l.s∈outer++cur)) 3 l.line f)):=by
    have h0:Au n c=.nil:=Ms _ (by rw[L4];omega);have:=HSe.o;rw[h0]at this;exact this
   clear HSe;go_wp2;go_end0;have hbl:=Br.o.trans (HBel.o.weak (fun g hg=>.inl hg));rw[HSens.o,←HE.o];exact⟨rfl,Dk.o.back HSt.o.st hbl,hbl⟩
theorem A7d(K:Ctx)(l:A2)(c:BT A2)(hkd:l.kd=25)(hok:Mc K c)(hshp:Hs c)(F2:Dq c):Lo K l c:=by
 have J4:l.kd≠32:=by omega
 have hI:Dy l.kd=[98,114,101,97,107]:=by rw[hkd];rfl
 have hsens:=fun(outer cur:List Nm) (wh:Nat) (inn:Bool) (f:B3)=>o6 K.fns l c outer cur wh inn f (.inl hkd);intro D w outer ob cur blk wh inn f ln nn S va vn vc pa pn pc c1 hst hrt A3 A9 Ar;have Ig:wh+Cy l.kd=wh:=by unfold Cy;rw[if_neg J4];rfl
 rw[Ig]at hst ⊢;rw[hI];clear hI;have HSens:=A0 (hsens outer cur wh inn f);have Dk:=A0 hst;have Gg:=A0 hrt;have E9:=A0 (hst.Lw (.cells #[.string ⟨#[98,114,101,97,107]⟩,.int .i64 ln,.string ⟨S.toArray⟩,.int .i64 nn,.slice va vn vc,.slice pa pn pc] 77));have HOk:=A0 hok;have HShp:=A0 hshp;have HT:=A0 F2;have hvn:vn=A8 c:=(C9 hrt.own.1).1;have hbls:=Kl c;have hnds:=B8 l c;have Ie:Ji (fun g=>D g\/g=w.heap.size) (w.alloc (.cells #[.string ⟨#[98,114,101,97,107]⟩,.int .i64 ln,.string ⟨S.toArray⟩,.int .i64 nn,.slice va vn vc,.slice pa pn pc] 77)) l c ln nn S va vn vc pa pn pc c1:=hrt.keep (fun g hg hl=>⟨Below.heap_alloc _ _ _ hl,.inl hg⟩);have HRt1':=A0 Ie;subst hvn;obtain⟨w1,Bm⟩:∃w1,w1=w.alloc (.cells #[.string ⟨#[98,114,101,97,107]⟩,.int .i64 ln,.string ⟨S.toArray⟩,.int .i64 nn,.slice va (A8 c) vc,.slice pa pn pc] 77):=⟨_,rfl⟩;have Hr:Hid (Ji (fun g=>D g\/g=w.heap.size) w1 l c ln nn S va (A8 c) vc pa pn pc c1):=by rw[Bm];exact HRt1'.o
 have Ea:Hid (w1.heap[w.heap.size]?=some (.cells #[.string ⟨#[98,114,101,97,107]⟩,.int .i64 ln,.string ⟨S.toArray⟩,.int .i64 nn,.slice va (A8 c) vc,.slice pa pn pc] 77)):=by show _=_;rw[Bm];exact heap_alloc_new w (.cells #[.string ⟨#[98,114,101,97,107]⟩,.int .i64 ln,.string ⟨S.toArray⟩,.int .i64 nn,.slice va (A8 c) vc,.slice pa pn pc] 77)
 have Br:Hid (A4 D w w1):=by rw[Bm];exact Md Dk.o (.cells #[.string ⟨#[98,114,101,97,107]⟩,.int .i64 ln,.string ⟨S.toArray⟩,.int .i64 nn,.slice va (A8 c) vc,.slice pa pn pc] 77)
 have HEq:=A0 Bm;have hsw1:w1.heap.size=w.heap.size+1:=by rw[Bm];simp
 have K4:=A0 Gg.o.line;have HNm0:=A0 Gg.o.name;clear hsens hst hrt Ie hok hshp F2 Ig J4 Bm HRt1' Gg;have hln:ln=l.line:=K4.o (by rw[hkd];rfl);have HLn:=A0 hln;clear hln;clear hkd K4 HNm0;obtain⟨na,nm,nc,ba,bm,bc,bs,hss⟩:=E9.o.st;obtain⟨y0,y1,y2,y3,y4,y5,y6,y7,fy,ly⟩:=Gn hss.cell;have hsb:=hss.Di;clear hss;have HStA:=E9;have HBA:Hid (A4 (fun g=>D g\/g=w.heap.size) w1 (w.alloc (.cells #[.string ⟨#[98,114,101,97,107]⟩,.int .i64 ln,.string ⟨S.toArray⟩,.int .i64 nn,.slice va (A8 c) vc,.slice pa pn pc] 77))):=by rw[HEq.o];exact A4.refl _ _
 have tW:(((wh:Nat):Int)==0)=(wh==0):=by
  rw[Bool.eq_iff_iff,beq_iff_eq,beq_iff_eq];omega
 go_enter Tryz.func64,Tryz.ntmps64;go_wp2;go_region_with ((go_at_call 66;refine(Nz (HStA.o.st.keep (w':=World.drew _) (fun _ _=>rfl)) (wh==0) 4 l.line _ _ rfl HLn.o).mono ?_;rintro e w3 ⟨rfl,At,hb3'⟩))
 all_goals
  have Ai:Hid (A4 (fun g=>D g\/g=w.heap.size) w1 w3):=HBA.o.trans ⟨hb3'.os,hb3'.tape,hb3'.output,hb3'.size,hb3'.block⟩;have Et:=A0 (HStA.o.next At ⟨hb3'.os,hb3'.tape,hb3'.output,hb3'.size,hb3'.block⟩);clear At hb3';go_wp2;clear y0 y1 y2 y3 y4 y5 y6 y7 fy;go_loopg [7] (A8 c) (fun k v wr=>∃(n:Nat) (cn:List Nm) (fn:B3),v=.int .i64 n/\n+k=A8 c/\cn.length+bsize (Au n c)<=(cur).length+bsize c/\K.St (fun g=>D g\/g=w.heap.size) wr outer ob cn blk wh inn fn/\Ag K.fns (Au n c) outer cn wh inn fn=Ag K.fns c outer (cur) wh inn (Bu (wh==0) 4 l.line f)/\A4 (fun g=>D g\/g=w.heap.size) w1 wr)
  case atStart=>exact⟨0,cur,Bu (wh==0) 4 l.line f,rfl,by omega,Nat.le_refl _,Et.o,rfl,Ai.o⟩
  case round=>
   clear Et Ai;obtain⟨n,cn,fn,rfl,hnk,hcn,hst,hse,hbel⟩:=hrel;have hX:=(hbel.block w.heap.size (.inr rfl)).trans Ea.o;obtain⟨x0,x1,x2,x3,x4,x5,fX,lX⟩:=As hX;have HSt:=A0 hst;have HSe:=A0 hse;have HBel:=A0 hbel;clear hst hse hbel;by_cases hlt:n<A8 c
   ·have hk:∀g,(D g\/g=w.heap.size)->g<w1.heap.size->wr.heap[g]?=w1.heap[g]?/\(D g\/g=w.heap.size):=fun g hg _=>⟨HBel.o.block g hg,hg⟩;obtain⟨x,y,l',cc,r,hd,ln',mm,S',Ev,G2,Ew,Eg,Gd,Eh,c2,hrt,k0,k1,k2,k3,k4,k5⟩:=Ak.at' n c c1 HShp.o (Ak.keep hk _ _ Hr.o.kids) hlt;obtain⟨g,rfl,_,hcap,lg,hcell⟩:=Fs (Hr.o.own.keep hk).1 (by omega);have d0:=hcell _ _ k0;have d1:=hcell _ _ k1;have d2:=hcell _ _ k2;have d3:=hcell _ _ k3;have d4:=hcell _ _ k4;have d5:=hcell _ _ k5;have h32:l'.kd≠32:=by have:=N2 n c HT.o;rw[hd]at this;exact this.1
    have hw:wh+Cy l'.kd=wh:=by unfold Cy;rw[if_neg h32];rfl
    have hsz:bsize (Au n c)=bsize (nd l' cc)+bsize r:=by rw[hd,B8,bsize]
    have hdn:=M4 n c;have HNd:=A0 (HOk.o n x y l' cc r hd);have HDs:=A0 (Ko n c x y l' cc r hd);have HRt:=A0 hrt;have HSx:=A0 ((congrArg (fun q=>Ag K.fns q outer cn wh inn fn) hd).trans (Mi K.fns x y l' cc r outer cn wh inn fn));have hcur:=M8 K.fns (nd l' cc) outer cn wh inn fn;have HW:=A0 hw;clear hcell hd hrt hw h32;clear k0 k1 k2 k3 k4 k5;go_wp2_with fail
    refine(HNd.o _ wr outer ob cn blk wh inn fn ln' mm S' Ev G2 Ew Eg Gd Eh c2 (by rw[HW.o];exact HSt.o) HRt.o (by simp only[List.length_append]at A3 ⊢;omega) (by omega) (by omega)).mono ?_;rintro e w3 ⟨rfl,At,Fi⟩;rw[HW.o]at At;have Hf:=A0 At;have B4:Hid (A4 (fun g=>D g\/g=w.heap.size) w1 w3):=HBel.o.trans Fi;clear At Fi;go_wp2;go_roundg (gk-1)
    case measure=>omega
    case rel=>exact⟨n+1,_,_,rfl,by omega,by rw[HDs.o];omega,Hf.o,by rw[HDs.o,←HSx.o];exact HSe.o,B4.o⟩
   ·have HE:Hid ((cn,fn)=Ag K.fns c outer (cur) wh inn (Bu (wh==0) 4 l.line f)):=by
     have h0:Au n c=.nil:=Ms _ (by rw[L4];omega);have:=HSe.o;rw[h0]at this;exact this
    clear HSe;go_wp2;go_end0;have hbl:=Br.o.trans (HBel.o.weak (fun g hg=>.inl hg));rw[HSens.o,←HE.o];exact⟨rfl,Dk.o.back HSt.o.st hbl,hbl⟩
theorem A7e(K:Ctx)(l:A2)(c:BT A2)(hkd:l.kd=26)(hok:Mc K c)(hshp:Hs c)(F2:Dq c):Lo K l c:=by
 have J4:l.kd≠32:=by omega
 have hI:Dy l.kd=[99,111,110,116,105,110,117,101]:=by rw[hkd];rfl
 have hsens:=fun(outer cur:List Nm) (wh:Nat) (inn:Bool) (f:B3)=>o6 K.fns l c outer cur wh inn f (.inr hkd);intro D w outer ob cur blk wh inn f ln nn S va vn vc pa pn pc c1 hst hrt A3 A9 Ar;have Ig:wh+Cy l.kd=wh:=by unfold Cy;rw[if_neg J4];rfl
 rw[Ig]at hst ⊢;rw[hI];clear hI;have HSens:=A0 (hsens outer cur wh inn f);have Dk:=A0 hst;have Gg:=A0 hrt;have E9:=A0 (hst.Lw (.cells #[.string ⟨#[99,111,110,116,105,110,117,101]⟩,.int .i64 ln,.string ⟨S.toArray⟩,.int .i64 nn,.slice va vn vc,.slice pa pn pc] 77));have HOk:=A0 hok;have HShp:=A0 hshp;have HT:=A0 F2;have hvn:vn=A8 c:=(C9 hrt.own.1).1;have hbls:=Kl c;have hnds:=B8 l c;have Ie:Ji (fun g=>D g\/g=w.heap.size) (w.alloc (.cells #[.string ⟨#[99,111,110,116,105,110,117,101]⟩,.int .i64 ln,.string ⟨S.toArray⟩,.int .i64 nn,.slice va vn vc,.slice pa pn pc] 77)) l c ln nn S va vn vc pa pn pc c1:=hrt.keep (fun g hg hl=>⟨Below.heap_alloc _ _ _ hl,.inl hg⟩);have HRt1':=A0 Ie;subst hvn;obtain⟨w1,Bm⟩:∃w1,w1=w.alloc (.cells #[.string ⟨#[99,111,110,116,105,110,117,101]⟩,.int .i64 ln,.string ⟨S.toArray⟩,.int .i64 nn,.slice va (A8 c) vc,.slice pa pn pc] 77):=⟨_,rfl⟩;have Hr:Hid (Ji (fun g=>D g\/g=w.heap.size) w1 l c ln nn S va (A8 c) vc pa pn pc c1):=by rw[Bm];exact HRt1'.o
 have Ea:Hid (w1.heap[w.heap.size]?=some (.cells #[.string ⟨#[99,111,110,116,105,110,117,101]⟩,.int .i64 ln,.string ⟨S.toArray⟩,.int .i64 nn,.slice va (A8 c) vc,.slice pa pn pc] 77)):=by show _=_;rw[Bm];exact heap_alloc_new w (.cells #[.string ⟨#[99,111,110,116,105,110,117,101]⟩,.int .i64 ln,.string ⟨S.toArray⟩,.int .i64 nn,.slice va (A8 c) vc,.slice pa pn pc] 77)
 have Br:Hid (A4 D w w1):=by rw[Bm];exact Md Dk.o (.cells #[.string ⟨#[99,111,110,116,105,110,117,101]⟩,.int .i64 ln,.string ⟨S.toArray⟩,.int .i64 nn,.slice va (A8 c) vc,.slice pa pn pc] 77)
 have HEq:=A0 Bm;have hsw1:w1.heap.size=w.heap.size+1:=by rw[Bm];simp
 have K4:=A0 Gg.o.line;have HNm0:=A0 Gg.o.name;clear hsens hst hrt Ie hok hshp F2 Ig J4 Bm HRt1' Gg;have hln:ln=l.line:=K4.o (by rw[hkd];rfl);have HLn:=A0 hln;clear hln;clear hkd K4 HNm0;obtain⟨na,nm,nc,ba,bm,bc,bs,hss⟩:=E9.o.st;obtain⟨y0,y1,y2,y3,y4,y5,y6,y7,fy,ly⟩:=Gn hss.cell;have hsb:=hss.Di;clear hss;have HStA:=E9;have HBA:Hid (A4 (fun g=>D g\/g=w.heap.size) w1 (w.alloc (.cells #[.string ⟨#[99,111,110,116,105,110,117,101]⟩,.int .i64 ln,.string ⟨S.toArray⟩,.int .i64 nn,.slice va (A8 c) vc,.slice pa pn pc] 77))):=by rw[HEq.o];exact A4.refl _ _
 have tW:(((wh:Nat):Int)==0)=(wh==0):=by
  rw[Bool.eq_iff_iff,beq_iff_eq,beq_iff_eq];omega
 go_enter Tryz.func64,Tryz.ntmps64;go_wp2;go_region_with ((go_at_call 66;refine(Nz (HStA.o.st.keep (w':=World.drew _) (fun _ _=>rfl)) (wh==0) 4 l.line _ _ rfl HLn.o).mono ?_;rintro e w3 ⟨rfl,At,hb3'⟩))
 all_goals
  have Ai:Hid (A4 (fun g=>D g\/g=w.heap.size) w1 w3):=HBA.o.trans ⟨hb3'.os,hb3'.tape,hb3'.output,hb3'.size,hb3'.block⟩;have Et:=A0 (HStA.o.next At ⟨hb3'.os,hb3'.tape,hb3'.output,hb3'.size,hb3'.block⟩);clear At hb3';go_wp2;clear y0 y1 y2 y3 y4 y5 y6 y7 fy;go_loopg [7] (A8 c) (fun k v wr=>∃(n:Nat) (cn:List Nm) (fn:B3),v=.int .i64 n/\n+k=A8 c/\cn.length+bsize (Au n c)<=(cur).length+bsize c/\K.St (fun g=>D g\/g=w.heap.size) wr outer ob cn blk wh inn fn/\Ag K.fns (Au n c) outer cn wh inn fn=Ag K.fns c outer (cur) wh inn (Bu (wh==0) 4 l.line f)/\A4 (fun g=>D g\/g=w.heap.size) w1 wr)
  case atStart=>exact⟨0,cur,Bu (wh==0) 4 l.line f,rfl,by omega,Nat.le_refl _,Et.o,rfl,Ai.o⟩
  case round=>
   clear Et Ai;obtain⟨n,cn,fn,rfl,hnk,hcn,hst,hse,hbel⟩:=hrel;have hX:=(hbel.block w.heap.size (.inr rfl)).trans Ea.o;obtain⟨x0,x1,x2,x3,x4,x5,fX,lX⟩:=As hX;have HSt:=A0 hst;have HSe:=A0 hse;have HBel:=A0 hbel;clear hst hse hbel;by_cases hlt:n<A8 c
   ·have hk:∀g,(D g\/g=w.heap.size)->g<w1.heap.size->wr.heap[g]?=w1.heap[g]?/\(D g\/g=w.heap.size):=fun g hg _=>⟨HBel.o.block g hg,hg⟩;obtain⟨x,y,l',cc,r,hd,ln',mm,S',Ev,G2,Ew,Eg,Gd,Eh,c2,hrt,k0,k1,k2,k3,k4,k5⟩:=Ak.at' n c c1 HShp.o (Ak.keep hk _ _ Hr.o.kids) hlt;obtain⟨g,rfl,_,hcap,lg,hcell⟩:=Fs (Hr.o.own.keep hk).1 (by omega);have d0:=hcell _ _ k0;have d1:=hcell _ _ k1;have d2:=hcell _ _ k2;have d3:=hcell _ _ k3;have d4:=hcell _ _ k4;have d5:=hcell _ _ k5;have h32:l'.kd≠32:=by have:=N2 n c HT.o;rw[hd]at this;exact this.1
    have hw:wh+Cy l'.kd=wh:=by unfold Cy;rw[if_neg h32];rfl
    have hsz:bsize (Au n c)=bsize (nd l' cc)+bsize r:=by rw[hd,B8,bsize]
    have hdn:=M4 n c;have HNd:=A0 (HOk.o n x y l' cc r hd);have HDs:=A0 (Ko n c x y l' cc r hd);have HRt:=A0 hrt;have HSx:=A0 ((congrArg (fun q=>Ag K.fns q outer cn wh inn fn) hd).trans (Mi K.fns x y l' cc r outer cn wh inn fn));have hcur:=M8 K.fns (nd l' cc) outer cn wh inn fn;have HW:=A0 hw;clear hcell hd hrt hw h32;clear k0 k1 k2 k3 k4 k5;go_wp2_with fail
    refine(HNd.o _ wr outer ob cn blk wh inn fn ln' mm S' Ev G2 Ew Eg Gd Eh c2 (by rw[HW.o];exact HSt.o) HRt.o (by simp only[List.length_append]at A3 ⊢;omega) (by omega) (by omega)).mono ?_;rintro e w3 ⟨rfl,At,Fi⟩;rw[HW.o]at At;have Hf:=A0 At;have B4:Hid (A4 (fun g=>D g\/g=w.heap.size) w1 w3):=HBel.o.trans Fi;clear At Fi;go_wp2;go_roundg (gk-1)
    case measure=>omega
    case rel=>exact⟨n+1,_,_,rfl,by omega,by rw[HDs.o];omega,Hf.o,by rw[HDs.o,←HSx.o];exact HSe.o,B4.o⟩
   ·have HE:Hid ((cn,fn)=Ag K.fns c outer (cur) wh inn (Bu (wh==0) 4 l.line f)):=by
     have h0:Au n c=.nil:=Ms _ (by rw[L4];omega);have:=HSe.o;rw[h0]at this;exact this
    clear HSe;go_wp2;go_end0;have hbl:=Br.o.trans (HBel.o.weak (fun g hg=>.inl hg));rw[HSens.o,←HE.o];exact⟨rfl,Dk.o.back HSt.o.st hbl,hbl⟩
theorem A7c(K:Ctx)(l:A2)(c:BT A2)(hkd:l.kd=24)(hok:Mc K c)(hshp:Hs c)(F2:Dq c):Lo K l c:=by
 have J4:l.kd≠32:=by omega
 have hI:Dy l.kd=[114,101,116,117,114,110]:=by rw[hkd];rfl
 have hsens:=fun(outer cur:List Nm) (wh:Nat) (inn:Bool) (f:B3)=>Aay K.fns l c outer cur wh inn f (hkd);intro D w outer ob cur blk wh inn f ln nn S va vn vc pa pn pc c1 hst hrt A3 A9 Ar;have Ig:wh+Cy l.kd=wh:=by unfold Cy;rw[if_neg J4];rfl
 rw[Ig]at hst ⊢;rw[hI];clear hI;have HSens:=A0 (hsens outer cur wh inn f);have Dk:=A0 hst;have Gg:=A0 hrt;have E9:=A0 (hst.Lw (.cells #[.string ⟨#[114,101,116,117,114,110]⟩,.int .i64 ln,.string ⟨S.toArray⟩,.int .i64 nn,.slice va vn vc,.slice pa pn pc] 77));have HOk:=A0 hok;have HShp:=A0 hshp;have HT:=A0 F2;have hvn:vn=A8 c:=(C9 hrt.own.1).1;have hbls:=Kl c;have hnds:=B8 l c;have Ie:Ji (fun g=>D g\/g=w.heap.size) (w.alloc (.cells #[.string ⟨#[114,101,116,117,114,110]⟩,.int .i64 ln,.string ⟨S.toArray⟩,.int .i64 nn,.slice va vn vc,.slice pa pn pc] 77)) l c ln nn S va vn vc pa pn pc c1:=hrt.keep (fun g hg hl=>⟨Below.heap_alloc _ _ _ hl,.inl hg⟩);have HRt1':=A0 Ie;subst hvn;obtain⟨w1,Bm⟩:∃w1,w1=w.alloc (.cells #[.string ⟨#[114,101,116,117,114,110]⟩,.int .i64 ln,.string ⟨S.toArray⟩,.int .i64 nn,.slice va (A8 c) vc,.slice pa pn pc] 77):=⟨_,rfl⟩;have Hr:Hid (Ji (fun g=>D g\/g=w.heap.size) w1 l c ln nn S va (A8 c) vc pa pn pc c1):=by rw[Bm];exact HRt1'.o
 have Ea:Hid (w1.heap[w.heap.size]?=some (.cells #[.string ⟨#[114,101,116,117,114,110]⟩,.int .i64 ln,.string ⟨S.toArray⟩,.int .i64 nn,.slice va (A8 c) vc,.slice pa pn pc] 77)):=by show _=_;rw[Bm];exact heap_alloc_new w (.cells #[.string ⟨#[114,101,116,117,114,110]⟩,.int .i64 ln,.string ⟨S.toArray⟩,.int .i64 nn,.slice va (A8 c) vc,.slice pa pn pc] 77)
 have Br:Hid (A4 D w w1):=by rw[Bm];exact Md Dk.o (.cells #[.string ⟨#[114,101,116,117,114,110]⟩,.int .i64 ln,.string ⟨S.toArray⟩,.int .i64 nn,.slice va (A8 c) vc,.slice pa pn pc] 77)
 have HEq:=A0 Bm;have hsw1:w1.heap.size=w.heap.size+1:=by rw[Bm];simp
 have K4:=A0 Gg.o.line;have HNm0:=A0 Gg.o.name;clear hsens hst hrt Ie hok hshp F2 Ig J4 Bm HRt1' Gg;have hln:ln=l.line:=K4.o (by rw[hkd];rfl);have HLn:=A0 hln;clear hln;clear hkd K4 HNm0;obtain⟨na,nm,nc,ba,bm,bc,bs,hss⟩:=E9.o.st;obtain⟨y0,y1,y2,y3,y4,y5,y6,y7,fy,ly⟩:=Gn hss.cell;have hsb:=hss.Di;clear hss;have HStA:=E9;have HBA:Hid (A4 (fun g=>D g\/g=w.heap.size) w1 (w.alloc (.cells #[.string ⟨#[114,101,116,117,114,110]⟩,.int .i64 ln,.string ⟨S.toArray⟩,.int .i64 nn,.slice va (A8 c) vc,.slice pa pn pc] 77))):=by rw[HEq.o];exact A4.refl _ _
 go_enter Tryz.func64,Tryz.ntmps64;go_wp2;go_region_with ((go_at_call 66;refine(Nz (HStA.o.st.keep (w':=World.drew _) (fun _ _=>rfl)) (!inn) 4 l.line _ _ rfl HLn.o).mono ?_;rintro e w3 ⟨rfl,At,hb3'⟩))
 all_goals
  have Ai:Hid (A4 (fun g=>D g\/g=w.heap.size) w1 w3):=HBA.o.trans ⟨hb3'.os,hb3'.tape,hb3'.output,hb3'.size,hb3'.block⟩;have Et:=A0 (HStA.o.next At ⟨hb3'.os,hb3'.tape,hb3'.output,hb3'.size,hb3'.block⟩);clear At hb3';go_wp2;clear y0 y1 y2 y3 y4 y5 y6 y7 fy;go_loopg [7] (A8 c) (fun k v wr=>∃(n:Nat) (cn:List Nm) (fn:B3),v=.int .i64 n/\n+k=A8 c/\cn.length+bsize (Au n c)<=(cur).length+bsize c/\K.St (fun g=>D g\/g=w.heap.size) wr outer ob cn blk wh inn fn/\Ag K.fns (Au n c) outer cn wh inn fn=Ag K.fns c outer (cur) wh inn (Bu (!inn) 4 l.line f)/\A4 (fun g=>D g\/g=w.heap.size) w1 wr)
  case atStart=>exact⟨0,cur,Bu (!inn) 4 l.line f,rfl,by omega,Nat.le_refl _,Et.o,rfl,Ai.o⟩
  case round=>
   clear Et Ai;obtain⟨n,cn,fn,rfl,hnk,hcn,hst,hse,hbel⟩:=hrel;have hX:=(hbel.block w.heap.size (.inr rfl)).trans Ea.o;obtain⟨x0,x1,x2,x3,x4,x5,fX,lX⟩:=As hX;have HSt:=A0 hst;have HSe:=A0 hse;have HBel:=A0 hbel;clear hst hse hbel;by_cases hlt:n<A8 c
   ·have hk:∀g,(D g\/g=w.heap.size)->g<w1.heap.size->wr.heap[g]?=w1.heap[g]?/\(D g\/g=w.heap.size):=fun g hg _=>⟨HBel.o.block g hg,hg⟩;obtain⟨x,y,l',cc,r,hd,ln',mm,S',Ev,G2,Ew,Eg,Gd,Eh,c2,hrt,k0,k1,k2,k3,k4,k5⟩:=Ak.at' n c c1 HShp.o (Ak.keep hk _ _ Hr.o.kids) hlt;obtain⟨g,rfl,_,hcap,lg,hcell⟩:=Fs (Hr.o.own.keep hk).1 (by omega);have d0:=hcell _ _ k0;have d1:=hcell _ _ k1;have d2:=hcell _ _ k2;have d3:=hcell _ _ k3;have d4:=hcell _ _ k4;have d5:=hcell _ _ k5;have h32:l'.kd≠32:=by have:=N2 n c HT.o;rw[hd]at this;exact this.1
    have hw:wh+Cy l'.kd=wh:=by unfold Cy;rw[if_neg h32];rfl
    have hsz:bsize (Au n c)=bsize (nd l' cc)+bsize r:=by rw[hd,B8,bsize]
    have hdn:=M4 n c;have HNd:=A0 (HOk.o n x y l' cc r hd);have HDs:=A0 (Ko n c x y l' cc r hd);have HRt:=A0 hrt;have HSx:=A0 ((congrArg (fun q=>Ag K.fns q outer cn wh inn fn) hd).trans (Mi K.fns x y l' cc r outer cn wh inn fn));have hcur:=M8 K.fns (nd l' cc) outer cn wh inn fn;have HW:=A0 hw;clear hcell hd hrt hw h32;clear k0 k1 k2 k3 k4 k5;go_wp2_with fail
    refine(HNd.o _ wr outer ob cn blk wh inn fn ln' mm S' Ev G2 Ew Eg Gd Eh c2 (by rw[HW.o];exact HSt.o) HRt.o (by simp only[List.length_append]at A3 ⊢;omega) (by omega) (by omega)).mono ?_;rintro e w3 ⟨rfl,At,Fi⟩;rw[HW.o]at At;have Hf:=A0 At;have B4:Hid (A4 (fun g=>D g\/g=w.heap.size) w1 w3):=HBel.o.trans Fi;clear At Fi;go_wp2;go_roundg (gk-1)
    case measure=>omega
    case rel=>exact⟨n+1,_,_,rfl,by omega,by rw[HDs.o];omega,Hf.o,by rw[HDs.o,←HSx.o];exact HSe.o,B4.o⟩
   ·have HE:Hid ((cn,fn)=Ag K.fns c outer (cur) wh inn (Bu (!inn) 4 l.line f)):=by
     have h0:Au n c=.nil:=Ms _ (by rw[L4];omega);have:=HSe.o;rw[h0]at this;exact this
    clear HSe;go_wp2;go_end0;have hbl:=Br.o.trans (HBel.o.weak (fun g hg=>.inl hg));rw[HSens.o,←HE.o];exact⟨rfl,Dk.o.back HSt.o.st hbl,hbl⟩
end
end Go.Proofs.YtjdlndhfaaolaaaGreatDoor
