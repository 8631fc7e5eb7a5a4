import Derived.Deep.OwnRows
import Derived.Laws.CopyOwn
import Derived.Test.YtjdlndhfaaolaaaGreatDoorR49
set_option maxHeartbeats 20000000
namespace Go.Proofs.YtjdlndhfaaolaaaGreatDoor
section
set_option maxRecDepth 100000
open Go.RowKit
open Go.Deep (BT)
def A11(fs:List (Nm×Nat))(w:World)(e:Ending)(w':World):Prop:=
 Below w.heap.size w w'/\∃va vn vc,e=.returned (.slice va vn vc)/\w'.ownsRow 0 9 1 (.slice va vn vc) fs.length (Lj fs)/\(∀g,(Value.slice va vn vc).ownBlock=some g->w.heap.size<=g)
theorem Qi.keep{E:Nat->Prop}{w w':World}{gb:Nat}{P:Pc}(h:Qi E w gb P)(hk:∀g,E g->g<w.heap.size->w'.heap[g]?=w.heap[g]?):Qi E w' gb P:=by
 obtain⟨pb,h1,h2,h3⟩:=h;exact⟨pb,h1,(hk gb h1 (A5 h2)).trans h2,h3.keep (fun g hg hl=>⟨hk g hg hl,hg⟩)⟩
theorem A5t{D:Nat->Prop}{w:World}:∀{fs:List Fn} {cs:List Value},Mo D w fs cs->∀(j:Nat) (n:Nm),(fs.map Fn.name)[j]?=some n->cs[j*4]?=some (Ln n):=by
 intro fs;induction fs with
 | nil=>intro cs _ j n h;simp at h
 | cons g r ih=>
  intro cs h j n hj;obtain⟨sa,sn,sc,rest,e1,h1,h2⟩:=h;cases j with
  | zero=>
   simp only[List.map_cons,List.getElem?_cons_zero,Option.some.injEq]at hj;subst hj;rw[e1];rfl
  | succ j=>
   simp only[List.map_cons,List.getElem?_cons_succ]at hj;rw[e1,show(j+1)*4=j*4+4 by omega];simpa using ih h2 j n hj
theorem A5v{E:Nat->Prop}{w:World}{gb:Nat}{P:Pc}(fs:List (Nm×Nat))(h:Qi E w gb P)(hfs:P.fns.map Fn.name=fs.map Prod.fst)(hfew:fs.length<=100000) :
  Calls Tryz.prog 27 #[.pointer (some ⟨gb,0,none⟩)] w (A11 fs w):=by
 obtain⟨pb,_,hgb,_,_,_,ha,hn,hc,ms,_,hpb,_,hfo,hfi⟩:=h;have hlen:P.fns.length=fs.length:=by have:=congrArg List.length hfs;simpa using this
 have hhn:hn=fs.length:=(C9 hfo.1).1.trans hlen;subst hhn;have hmk:=run_make_row' (P:=Tryz.prog) 37 9 (.string ⟨#[]⟩) 16 Tryz.underlying37 Rq rfl .i64 .i64 fs.length (by omega) (by omega) w;obtain⟨Z,hZ⟩:∃Z,Z=(madeCells #[.string ⟨#[]⟩] fs.length):=⟨_,rfl⟩;have hZl:Z.size=fs.length:=by rw[hZ,size_madeCells]
 rw[←hZ]at hmk;have Bm:(w.alloc (.cells Z 9)).heap[w.heap.size]?=some (.cells Z 9 (0,0)):=heap_alloc_new w _;have hB1:Below w.heap.size w (w.alloc (.cells Z 9)):=Below.alloc (Below.refl _ _) (Nat.le_refl _) _;obtain⟨w1,e1⟩:∃w1,w1=w.alloc (.cells Z 9):=⟨_,rfl⟩;rw[←e1]at hmk Bm hB1;clear e1 hZ;have g0:=Ac hgb 0 _ rfl;have p3:=Ac hpb 3 _ rfl;have lg:=A5 hgb;have lp:=A5 hpb;have HGb:=A0 hgb;have HPb:=A0 hpb;have HOwn:=A0 hfo.1;have HFi:=A0 (A5t hfi);have HFs:=A0 hfs;have HW1:=A0 Bm;have Ab:=A0 hB1;have hl:fs.length=P.fns.length:=hlen.symm;have HL:=A0 hl;clear hgb hpb hfo hfi hfs Bm hB1 hlen hl;go_enter Tryz.func27,Tryz.ntmps27;go_wp2;go_loopg [16] fs.length (fun k v wr=>∃(i:Nat) (cur:Array Value),v=.int .i64 i/\i+k=fs.length/\wr.heap[w.heap.size]?=some (.cells cur 9 (0,0))/\cur.size=fs.length/\cur.toList.take i=(Lj fs).take i/\Below w.heap.size w wr)
 case atStart=>exact⟨0,Z,rfl,by omega,HW1.o,hZl,rfl,Ab.o⟩
 case round=>
  obtain⟨i,cur,rfl,hik,hcu,hcl,htk,hbr⟩:=hrel;have HCu:=A0 hcu;have HTk:=A0 htk;have HBr:=A0 hbr;have lsr:=hbr.size;have e0:=(World.cell?_of_block (hbr.block gb lg)).trans g0;have e3:=(World.cell?_of_block (hbr.block pb lp)).trans p3;have fz:=Ce hcu;have lcu:=A5 hcu;clear htk;by_cases hlt:i<fs.length
  ·obtain⟨g,e1,_,hcap,l1,k1⟩:=Fs HOwn.o (by have:=HL.o;omega);subst e1;have hnm:=HFi.o i fs[i].1 (by rw[HFs.o,List.getElem?_map,List.getElem?_eq_getElem hlt];rfl);have d1:=(World.cell?_of_block (hbr.block g l1)).trans (k1 _ _ hnm);have hci:∃v,wr.cell? ⟨w.heap.size,i,none⟩=some v:=⟨cur[i]'(by omega),by rw[cell_of_row wr w.heap.size i cur _ _ hcu,Array.getElem?_eq_getElem (by omega)]⟩;obtain⟨v0,d2⟩:=hci;have hl:=HL.o;have l2:g<wr.heap.size:=by omega
   generalize hq:fs[i].1=nm at *;have HQ:=A0 hq;unfold Ln at d1;clear k1 hq hcu hbr hnm;go_wp2;go_roundg (gk-1)
   case measure=>omega
   case rel=>
    refine⟨i+1,cur.setIfInBounds i (.string ⟨nm.toArray⟩),rfl,by omega,heap_set (j:=i) HCu.o _,by simp[hcl],?_,Below.setCell HBr.o (Nat.le_refl _) _⟩;rw[Array.toList_setIfInBounds,List.take_add_one,List.take_set_of_le (Nat.le_refl _),HTk.o,List.getElem?_set_self (by simp;omega),List.take_add_one (l:=Lj fs)];congr 1
    unfold Lj;rw[List.getElem?_map,List.getElem?_eq_getElem hlt,←HQ.o];rfl
  ·have hif:i=fs.length:=by omega
   subst hif;have HC:=A0 hcl;clear hcu hbr e0 e3;go_wp2;refine bodyPost_ret (v:=.slice (some ⟨w.heap.size,0,none⟩) fs.length fs.length) (by simp[results,Tryz.results27,go_sem]) rfl ?_;refine⟨HBr.o,_,_,_,rfl,⟨by simp[Lj],.inr ⟨_,_,_,rfl,Nat.zero_le _,HCu.o,Nat.le_refl _,by simp only[maxLen];omega,by rw[HC.o];omega,?_⟩⟩,?_⟩
   ·rw[Nat.mul_one,HTk.o];exact List.take_of_length_le (by simp[Lj])
   ·intro g e;simp only[Value.ownBlock,Option.some.injEq]at e;omega
end
section
set_option maxRecDepth 100000
open Go.RowKit
theorem Aad(fs:List (Nm×Nat))(hfew:fs.length<=100000)(w:World)(va:Option Addr)(vn vc:Nat)(ua:Option Addr)(un uc:Nat)(h1:w.ownsRow 0 9 1 (.slice va vn vc) fs.length (Lj fs))(h2:w.ownsRow 0 9 1 (.slice ua un uc) fs.length (Lj fs)) :
  Calls Tryz.prog 29 #[.slice va vn vc,.slice ua un uc] w fun e w'=>e=.returned (.bool true)/\Below w.heap.size w w':=by
 have hvn:vn=fs.length:=(C9 h1).1;have hun:un=fs.length:=(C9 h2).1;subst hvn hun;have H1:=A0 h1;have H2:=A0 h2;clear h1 h2;go_enter Tryz.func29,Tryz.ntmps29;go_wp2;go_loopg [5] fs.length (fun k v wr=>∃i:Nat,v=.int .i64 i/\i+k=fs.length/\Below w.heap.size w wr)
 case atStart=>exact⟨0,rfl,by omega,Below.refl _ _⟩
 case round=>
  obtain⟨i,rfl,hik,hbel⟩:=hrel;have HB:=A0 hbel;by_cases hlt:i<fs.length
  ·obtain⟨g1,e1,_,c1,l1,k1⟩:=Fs H1.o (by omega);obtain⟨g2,e2,_,c2,l2,k2⟩:=Fs H2.o (by omega);subst e1 e2;have hv:(Lj fs)[i]?=some (.string ⟨fs[i].1.toArray⟩):=by simp[Lj,List.getElem?_eq_getElem hlt]
   have d1:=(World.cell?_of_block (hbel.block g1 l1)).trans (k1 i _ hv);have d2:=(World.cell?_of_block (hbel.block g2 l2)).trans (k2 i _ hv);have ls:=hbel.size;have m1:g1<wr.heap.size:=by omega
   have m2:g2<wr.heap.size:=by omega
   generalize fs[i].1.toArray=nm at *;clear hbel k1 k2 hv;go_wp2;go_quiet (fail)
   go_wp2;go_roundg (gk-1)
   case measure=>omega
   case rel=>exact⟨i+1,rfl,by omega,⟨HB.o.os,HB.o.tape,HB.o.output,HB.o.size,HB.o.block⟩⟩
  ·clear hbel;go_wp2;exact bodyPost_ret (v:=.bool true) (by simp[results,Tryz.results29,go_sem]) rfl ⟨rfl,HB.o⟩
end
section
set_option maxRecDepth 100000
open Go.RowKit
open Go.Deep (BT)
def A0r(l:List UInt8)(w:World)(e:Ending)(w':World):Prop:=
 Below w.heap.size w w'/\∃p q,e=.returned (.tuple #[.pointer p,.pointer q,.bool true])/\((K7 l).1.1=0->∃b,p=some ⟨b,0,none⟩)
def A1i(fs:List (Nm×Nat))(W:World)(k:Nat)(v9 v10:Value)(wr:World):Prop:=
 ∃(i:Nat) (ua:Option Addr) (un uc:Nat),v9=.slice ua un uc/\v10=.int .i64 i/\i+k=fs.length/\wr.ownsRow 0 9 1 (.slice ua un uc) i (Lj (fs.take i))/\(∀g,(Value.slice ua un uc).ownBlock=some g->W.heap.size<=g)/\Below W.heap.size W wr
theorem A29{g2:Nat}{v:Value}{W wr w2:World}(h:Below W.heap.size W wr)(hlo:∀g,v.ownBlock=some g->W.heap.size<=g)(hgrow:wr.grownBy w2 v.ownBlock)(hat:v.ownBlock=some g2\/g2=wr.heap.size+1):Below W.heap.size W w2/\W.heap.size<=g2:=by
 have hs:=h.size;have Av:=hgrow.size;refine⟨⟨hgrow.os.trans h.os,hgrow.tape.trans h.tape,hgrow.output.trans h.output,by omega,fun k hk=>(hgrow.block k (by omega) (fun e=>by have:=hlo k e.symm;omega)).trans (h.block k hk)⟩,?_⟩;rcases hat with e|e
 ·exact hlo g2 e
 ·omega
theorem Xc(l:List UInt8)(w:World)(hg:Ju w)(hw:4<=w.heap.size)(hr:∀l w,Calls Tryz.prog 31 #[.string ⟨l.toArray⟩] w (Sl l w)) :
  Calls Tryz.prog 12 #[.string ⟨l.toArray⟩] w (A0r l w):=by
 have HC:=A0 (A3l l w hg hw);have HR:=A0 (hr l);clear hr;clear hg;go_enter Tryz.func12,Tryz.ntmps12;go_wp2_with fail
 refine HC.o.mono ?_;rintro e w1 ⟨A3,⟨hf,rfl⟩|⟨fs,gb,E,P,hcp,hfew,rfl,hpg,hE,hnm⟩⟩
 ·have Ab:=A0 A3;have HF:=A0 hf;clear A3 hf HC;go_wp2_with fail
  refine(HR.o _).mono ?_;rintro e w2 ⟨A9,⟨hf2,rfl⟩|⟨fs,pb,la,ln,lc,fa,fc,cs,hcp,hfew,rfl,hpb,hpc,hpo,hat,hplo⟩⟩
  ·have hF2:=Bg A9 (heap_alloc_new w1 (.cells #[.int .i64 ((K7 l).1.1:Nat),.int .i64 ((K7 l).1.2:Nat)] 50));have Ai:Hid (Below w.heap.size w w2):=Ab.o.trans (Below.trans (Below.alloc (Below.refl _ _) Ab.o.size _) (A9.mono (by have:=Ab.o.size;simp;omega)));obtain⟨x0,x1,fx,lx⟩:=J2 hF2;clear hF2 A9 hf2;generalize hfl:(K7 l).1=fl at *;have HFl:=A0 hfl;clear hfl;go_wp2;refine bodyPost_ret (v:=.tuple #[.pointer none,.pointer none,.bool true]) (by simp[results,Tryz.results12,go_sem]) rfl ?_;refine⟨?_,none,none,rfl,fun h=>absurd h (by rw[HFl.o];exact HF.o)⟩;exact Below.alloc Ai.o Ai.o.size _
  ·exact absurd (by rw[hcp]) HF.o
 ·have Ab:=A0 A3;have HPg:=A0 hpg;have HE:=A0 hE;have HFn:=A0 hnm;clear A3 HC hpg hE hnm;go_wp2_with fail
  refine(HR.o _).mono ?_;rintro e w2 ⟨A9,⟨hf2,rfl⟩|⟨fs2,pb,la,ln,lc,fa,fc,cs,hcp2,hfew2,rfl,hpb,hpc,hpo,hat,hplo⟩⟩
  ·exact absurd (by rw[hcp]) hf2
  ·have hfe:fs2=fs:=by rw[hcp]at hcp2;simpa using hcp2.symm
   subst hfe;have hF2:=Bg A9 (heap_alloc_new w1 (.cells #[.int .i64 0,.int .i64 0] 50));have Ai:Hid (Below w.heap.size w w2):=Ab.o.trans (Below.trans (Below.alloc (Below.refl _ _) Ab.o.size _) (A9.mono (by have:=Ab.o.size;simp;omega)));obtain⟨x0,x1,fx,lx⟩:=J2 hF2;have HNm:=A0 (A5v (w:=w2.alloc (.cells #[.int .i64 0,.int .i64 0] 50)) fs2 (HPg.o.keep (fun k hk hl=>(Below.heap_alloc _ _ _ (by have:=A9.size;simp at this;omega)).trans ((A9.block k (by simp;omega)).trans (Below.heap_alloc _ _ _ hl)))) HFn.o hfew);have HPc:=A0 hpc;have HPo:=A0 hpo;have HAt:=A0 hat;have HCp:=A0 hcp;clear hF2 A9 hpc hpo hat hplo hcp hcp2 HPg HE HFn;go_wp2_with fail
   refine HNm.o.mono ?_;rintro e w3 ⟨Ar,na,nn,nc,rfl,hno,hnlo⟩;have B4:Hid (Below w.heap.size w w3):=Ai.o.trans (Below.trans (Below.alloc (Below.refl _ _) Ai.o.size _) (Ar.mono (by have:=Ai.o.size;simp;omega)));have hP3:=Bg Ar (alloc_old (o':=.cells #[.int .i64 0,.int .i64 0] 50) HPc.o);have hPo3:w3.ownsRow 0 77 6 (.slice fa fs2.length fc) fs2.length cs:=Bb HPo.o (fun k hk hl=>(Ar.block k (by simp;omega)).trans (Below.heap_alloc _ _ _ hl));obtain⟨y0,y1,fy,ly⟩:=J2 hP3;have De:=A0 hP3;have HPo3:=A0 hPo3;have HNo:=A0 hno;have ls3:=B4.o.size;clear hP3 hPo3 hno Ar;go_wp2;go_loopg [10,11] fs2.length (fun k v10 v11 wr=>A1i fs2 w3 k v10 v11 wr)
   case atStart=>exact⟨0,none,0,0,rfl,rfl,by omega,World.ownsRow_nil _ _ _ _,by simp[Value.ownBlock],Below.refl _ _⟩
   case round=>
    obtain⟨i,ua,un,uc,rfl,rfl,hik,hown,hulo,hbel⟩:=hrel;have hun:un=i:=(C9 hown).1;subst hun;have lsr:=hbel.size;have z1:=(World.cell?_of_block (hbel.block pb ly)).trans y1;have lz:pb<wr.heap.size:=by omega
    have HOwn:=A0 hown;have HLo:=A0 hulo;have HBr:=A0 hbel;by_cases hlt:un<fs2.length
    ·obtain⟨gn,e1,_,c1,l1,k1⟩:=Fs HPo3.o (by omega);subst e1;have d1:=(World.cell?_of_block (hbel.block gn l1)).trans (k1 _ _ (HAt.o un hlt).1);have l2:gn<wr.heap.size:=by omega
     generalize hnm:fs2[un].1=nm at *;have HNmE:=A0 hnm;clear k1 hnm hbel hulo;go_wp2_with (at_builtin;refine F1 wr #[.string ⟨nm.toArray⟩] 9 rfl (.tmp 46) (.tmp 55) 37 rfl 0 1 16 (.string ⟨#[]⟩) Tryz.underlying37 Rq rfl (by omega) _ _ _ rfl rfl hown rfl (fun u hu=>by simp at hu;rw[hu];rfl) (by omega) (by omega) (Nat.zero_le _) ?_;intro g1 Bw w4 E1 hgrow1 hat1 hg1;have HK:=A0 (A29 HBr.o HLo.o hgrow1 hat1);have HOwn1:=A0 E1;clear E1 hgrow1 hat1)
     go_roundg (gk-1)
     case measure=>omega
     case rel=>
      refine⟨un+1,some ⟨g1,0,none⟩,un+1,Bw,rfl,rfl,by omega,?_,fun k hk=>?_,HK.o.1⟩
      ·rw[show Lj (fs2.take (un+1))=Lj (fs2.take un)++[.string ⟨nm.toArray⟩] from by unfold Lj;rw[List.take_add_one,List.getElem?_eq_getElem hlt,List.map_append];simp[HNmE.o]];exact HOwn1.o
      ·simp only[Value.ownBlock,Option.some.injEq]at hk;rw[←hk];exact HK.o.2
    ·have hif:un=fs2.length:=by omega
     subst hif;have h1:wr.ownsRow 0 9 1 (.slice na nn nc) fs2.length (Lj fs2):=Bb HNo.o (fun k hk hl=>hbel.block k hl);have h2:wr.ownsRow 0 9 1 (.slice ua fs2.length uc) fs2.length (Lj fs2):=by
      have:=HOwn.o;rw[List.take_length]at this;exact this
     have HSm:=A0 (Aad fs2 hfew wr na nn nc ua fs2.length uc h1 h2);clear h1 h2 hbel hulo hown;go_wp2_with fail
     refine HSm.o.mono ?_;rintro e w5 ⟨rfl,C7⟩;have Fo:Hid (Below w.heap.size w w5):=B4.o.trans (Below.trans (HBr.o.mono ls3) (C7.mono (by omega)));clear C7;go_wp2;refine bodyPost_ret (v:=.tuple #[.pointer (some ⟨gb,0,none⟩),.pointer (some ⟨pb,0,none⟩),.bool true]) (by simp[results,Tryz.results12,go_sem]) rfl ?_;exact⟨Fo.o,_,_,rfl,fun _=>⟨gb,rfl⟩⟩
end
section
set_option maxRecDepth 100000
open Go.RowKit
def n6:List UInt8:=[102,110,32,102,40,120,41,32,123,32,114,101,116,117,114,110,32,120,32,43,32,120,59,32,125,32,112,114,105,110,116,32,102,40,50,41,59,32,112,114,105,110,116,32,102,40,34,97,34,41,59,32,112,114,105,110,116,32,102,40,51,41,59]
theorem Aa6:(K7 n6).1.1=0:=by decide +kernel
theorem A9p(l:List UInt8)(w:World)(hg:Ju w)(hr:∀l w,Calls Tryz.prog 31 #[.string ⟨l.toArray⟩] w (Sl l w)) :
  Calls Tryz.prog 3 #[.string ⟨l.toArray⟩] w fun e w'=>e=.returned (.bool true)/\Below w.heap.size w w':=by
 have hsz:4<=w.heap.size:=by
  obtain⟨ev,h,_⟩:=hg.range;have:=block_lt_of_cell h;simp at this;omega
 have I3:=A0 (Xc n6 w hg hsz hr);have E8:=A0 (fun w' (hb:Below w.heap.size w w')=>Xc l w' (hg.below hb) (Nat.le_trans hsz hb.size) hr);have HOk:=A0 Aa6;clear hg hr;go_enter Tryz.func3,Tryz.ntmps3;go_wp2_with fail
 refine I3.o.mono ?_;rintro e w1 ⟨A3,p,q,rfl,hp⟩;obtain⟨b,rfl⟩:=hp HOk.o;have Ab:=A0 A3;have HC2':=A0 (E8.o w1 A3);clear A3 I3 E8 HOk hp;go_wp2_with fail
 refine HC2'.o.mono ?_;rintro e w2 ⟨A9,p2,q2,rfl,_⟩;have Ai:Hid (Below w.heap.size w w2):=Ab.o.trans (A9.mono Ab.o.size);clear A9;go_wp2;exact bodyPost_ret (v:=.bool true) (by simp[results,Tryz.results3,go_sem]) rfl ⟨rfl,Ai.o⟩
end
end Go.Proofs.YtjdlndhfaaolaaaGreatDoor
