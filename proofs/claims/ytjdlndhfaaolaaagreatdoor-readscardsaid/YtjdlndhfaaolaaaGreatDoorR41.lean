import Derived.Test.YtjdlndhfaaolaaaGreatDoorR40
set_option maxHeartbeats 20000000
namespace Go.Proofs.YtjdlndhfaaolaaaGreatDoor
section
set_option maxRecDepth 100000
open Go.RowKit
open Go.Deep (BT)
theorem kn0'{k:Nat}(h:k≠0):((k:Int)==0)=false:=by rw[beq_eq_false_iff_ne];omega
theorem A4s:∀c:BT A2,Au (A8 c) c=.nil:=by
 intro c;induction c with
 | nil=>rfl
 | node x y l ch sib _ ih=>
  show Au (A8 sib+1) _=_;rw[Au];exact ih
def A0s(r:BT A2×PS)(w:World)(e:Ending)(w':World):Prop:=
 Below w.heap.size w w'/\(((Dj (Bf r.1) r.1 [] [] (0,0)).1≠0/\e=.returned (.tuple #[.pointer none,.agg #[.int .i64 ((Dj (Bf r.1) r.1 [] [] (0,0)).1:Nat),.int .i64 ((Dj (Bf r.1) r.1 [] [] (0,0)).2:Nat)]]))\/
  ((Dj (Bf r.1) r.1 [] [] (0,0)).1=0/\∃fs pb la ln lc fa fc cs,Bf r.1=fs/\fs.length<=100000/\e=.returned (.tuple #[.pointer (some ⟨pb,0,none⟩),.agg #[.int .i64 0,.int .i64 0]])/\w.heap.size<pb/\
   w'.heap[pb]?=some (.cells #[.slice la ln lc,.slice fa fs.length fc] 74 (0,0))/\w'.ownsRow 0 77 6 (.slice fa fs.length fc) fs.length cs/\Qs fs cs/\(∀g,(Value.slice fa fs.length fc).ownBlock=some g->w.heap.size<g)))
theorem Ab1{w:World}{pb:Nat}{c:BT A2}{va:Option Addr}{vn vc:Nat}{fs:List (Nm×Nat)}{W:World}{fa:Option Addr}{fc:Nat}{cs:List Value}(hI:Qg W pb va vn vc fs w fa fc cs)(hfs:Bf c=fs)(hf:fs.length<=100000) :
  (⟨w.heap.size,pb,113,74,Bf c,va,vn,vc,fa,fs.length,fc⟩:Ctx).St (fun g=>g<w.heap.size) (w.alloc (.cells #[.pointer (some ⟨pb,0,none⟩),.slice none 0 0,.slice none 0 0,.int .i64 0,.int .i64 0,.bool false,.int .i64 0,.int .i64 0] 113)) [] [] [] 0 0 false (0,0):=by
 have lp:=A5 hI.cell;subst hfs;refine⟨⟨none,0,0,none,0,0,[],heap_alloc_new _ _,World.ownsRow_nil _ _ _ _,World.ownsRow_nil _ _ _ _,rfl,fun i h=>by simp at h,fun i h=>by simp at h,by simp,fun g e=>by simp[Value.ownBlock]at e,fun g e=>by simp[Value.ownBlock]at e,by omega,rfl,rfl⟩,⟨alloc_old hI.cell,lp,rfl,hf,fun i hi=>?_⟩,fun g hg=>by simp;omega⟩;have hi':i<(Bf c).length:=hi;obtain⟨g,k1,k2,k3,k4,k5⟩:=Fs hI.own (by omega);obtain⟨m1,pa,pc,m2⟩:=hI.at' i hi;exact⟨g,k1,k4,by simp;omega,k3,(World.cell?_of_block (Below.heap_alloc _ _ _ k4)).trans (k5 _ _ m1),pa,pc,(World.cell?_of_block (Below.heap_alloc _ _ _ k4)).trans (k5 _ _ m2)⟩
theorem A3q(l:List UInt8)(w:World)(hl:l.length<=2000)(ts:List Tk)(hn:lex (l.length+1) l 1 false=.inr ts)(h1:ts.length<=2001)(h2:Gk 1 2000 ts)(r:BT A2×PS)(hr:A7 100000 10 0 .nil ⟨ts,0⟩=some r)(hb:r.2.bad=0)(hd:nest ts 0=0)(hkd:Jh r.1)(hsane:Ek r.1)(F2:Dq r.1)(hsz:bsize r.1<=4002) :
  Calls Tryz.prog 31 #[.string ⟨l.toArray⟩] w (A0s r w):=by
 have t:decide (2000<(l.length:Int))=false:=decide_eq_false (by omega);have HN:=A0 hn;have HC:=A0 (fun w=>U8 l w (by omega));have HR:=A0 hr;have HKd:=A0 hkd;have HSane:=A0 hsane;have HT32:=A0 F2;clear hn hr hkd hsane F2;go_enter Tryz.func31,Tryz.ntmps31;go_wp2_with fail
 refine(HC.o _).mono ?_;rintro e w1 ⟨v,k,rfl,ho,hbel⟩;rw[HN.o]at ho;obtain⟨rfl,xs,hxm,hxk,hown⟩:=ho;have hxl:ts.length=xs.length:=by rw[←hxm];simp
 have hpos:=h2.pos;obtain⟨g0,cap,cur,rfl,hg1,Eo,hg3,hg4⟩:=Tc hown (by omega);have hT:=Wk hxm hxk h1 h2;have hR:=Bg hbel (heap_alloc_new w (.cells #[.int .i64 0,.int .i64 0] 50));obtain⟨x0,x1,fX,lX⟩:=Lg hR;have HRb:=A0 hR;have HBel:Hid (Below w.heap.size w w1):=Below.trans (Below.alloc (Below.refl _ _) (Nat.le_refl _) _) (hbel.mono (by simp));have HG:=A0 Eo;have lg:=A5 Eo;have HTk:=A0 hT;have HG4:=A0 hg4;have HXm:=A0 hxm;have HRS:Hid (RS w1.heap.size g0 cap 108 xs (w1.alloc (.cells #[.slice (some ⟨g0,0,none⟩) xs.length cap,.int .i64 0,.int .i64 0] 108)) ⟨ts,0⟩):=by
  refine⟨0,hT,heap_alloc_new w1 _,⟨cur,alloc_old Eo,hg4⟩,by omega,by omega,hg3,fun _=>by rw[←hxm];rfl,fun e=>absurd rfl e⟩
 have Cz:w.heap.size<w1.heap.size:=by have:=hbel.size;rw[World.size_alloc]at this;omega
 clear hbel HC hR hown Eo hg4 hxk hT;go_wp2_with fail
 refine(Vt (by decide) _ _ r HRS.o HR.o).mono ?_;rintro e w2 ⟨va,vn,vc,n,cs,rfl,hown,hlo2,hrs,honly,hrep⟩;have hRr:=honly.blk (alloc_old (o':=.cells #[.slice (some ⟨g0,0,none⟩) xs.length cap,.int .i64 0,.int .i64 0] 108) HRb.o) (by omega);obtain⟨hbc,hbl⟩:=hrs.Nj;rw[hb]at hbc;clear hbl;have lb:w1.heap.size<w2.heap.size:=by have:=honly.size;simp at this;omega
 have Ai:Hid (Below w.heap.size w w2):=HBel.o.trans (Below.trans (b:=w1.alloc (.cells #[.slice (some ⟨g0,0,none⟩) xs.length cap,.int .i64 0,.int .i64 0] 108)) (Below.alloc (Below.refl _ _) (by omega) _) ⟨honly.os,honly.tape,honly.output,honly.size,fun k hk=>honly.block k (by simp;omega) (by omega)⟩);have HG2:=A0 (honly.blk (alloc_old (o':=.cells #[.slice (some ⟨g0,0,none⟩) xs.length cap,.int .i64 0,.int .i64 0] 108) HG.o) (by omega));have HRow:Hid (Oi g0 cap xs (w2.alloc (.cells #[.slice va vn vc,.slice none 0 0] 74))):=⟨HTk.o,⟨cur,alloc_old HG2.o,HG4.o⟩,hg3⟩;clear x0 x1 fX lX HRS honly hrs;obtain⟨x0,x1,fX,lX⟩:=Lg hRr;have HRr:=A0 hRr;have HOwn:=A0 hown;have HRep:=A0 hrep;clear hRr hxm hown hrep;go_wp2_with fail
 refine(Zj _ HRow.o).mono ?_;rintro e w3 ⟨rfl,hbel3⟩;rw[HXm.o,hd];have hR3:=Bg hbel3 (alloc_old HRr.o);have hP3:=Bg hbel3 (heap_alloc_new w2 (.cells #[.slice va vn vc,.slice none 0 0] 74));have B4:Hid (Below w.heap.size w w3):=Ai.o.trans (Below.trans (Below.alloc (Below.refl _ _) (by omega) _) (hbel3.mono (by simp;omega)));have HBn:=A0 hbel3;clear x0 x1 fX lX hbc hbel3;obtain⟨x0,x1,fX,lX⟩:=Lg hR3;obtain⟨p0,p1,fp,lp⟩:=Lg hP3;have He:=A0 hR3;have lb3:w2.heap.size<w3.heap.size:=lp;clear hR3;have hvn:vn=n:=(C9 HOwn.o.1).1;obtain⟨hnb,hrep0⟩:=HRep.o hb;have hnn:vn=A8 (E2 r.1):=by rw[hvn,hnb,Sh _ HSane.o]
 have hkk:∀g,(w1.alloc (.cells #[.slice (some ⟨g0,0,none⟩) xs.length cap,.int .i64 0,.int .i64 0] 108)).heap.size<=g->g<w2.heap.size->w3.heap[g]?=w2.heap[g]?/\(g<w2.heap.size/\w1.heap.size<g):=fun g h1 h2=>⟨(HBn.o.block g (by simp;omega)).trans (Below.heap_alloc _ _ _ h2),h2,by simp at h1;omega⟩;have hOwn3:=HOwn.o.keep hkk;have hRep3:=Ak.E2 _ _ HSane.o (Ak.keep hkk _ _ hrep0);rw[hnb,←Sh _ HSane.o]at hOwn3;rw[hnn]at hOwn3 hP3 p0;have HOwn3:=A0 hOwn3;have Gt:=A0 hRep3;have hfs0:=Yu r.1 HKd.o;obtain⟨c,hc⟩:∃c,c=E2 r.1:=⟨_,rfl⟩;rw[←hc]at HOwn3 Gt hP3 p0 hfs0;have De:=A0 hP3;have HShp:Hid (Hs c):=by show Hs c;rw[hc];exact Adc _ HSane.o
 have HT:Hid (Dq c):=by show Dq c;rw[hc];exact Wn _ HSane.o HT32.o
 have HKdc:Hid (Jh c):=by show Jh c;rw[hc];exact Jh.E2 _ HKd.o
 have hbs:bsize c<=4002:=by rw[hc];exact Nat.le_trans (Ade _) hsz
 have hbl:=Kl c;have HFs0:=A0 hfs0;have HC0:=A0 hc;clear hc hP3 hOwn3 hRep3 hfs0 hkk hrep0 hnn hvn hnb;go_wp2;go_loopg [9] (A8 c) (fun k v wr=>∃(i:Nat) (fs:List (Nm×Nat)) (fa:Option Addr) (fc:Nat) (cs:List Value),v=.int .i64 i/\i+k=A8 c/\Bf c=fs++Bf (Au i c)/\fs.length<=i/\Qg w3 w2.heap.size va (A8 c) vc fs wr fa fc cs)
 case atStart=>exact⟨0,[],none,0,[],rfl,by omega,by rw[show Au 0 c=c from by cases c <;> rfl];rfl,Nat.le_refl _,⟨De.o,World.ownsRow_nil _ _ _ _,fun j h=>by simp at h,by simp[Value.ownBlock],A1.refl _ _⟩⟩
 case round=>
  clear p0 p1 fp lp x0 x1 fX lX;obtain⟨i,fs,fa,fc,fcs,rfl,hik,hfs,hfl,hI⟩:=hrel;obtain⟨p0,p1,fp,lp⟩:=Lg hI.cell;have hlsr:=hI.only.size;have HI:=A0 hI;have HFs:=A0 hfs;clear hI hfs;by_cases hlt:i<A8 c
  ·have hk:∀g,(g<w2.heap.size/\w1.heap.size<g)->g<w3.heap.size->wr.heap[g]?=w3.heap[g]?/\(g<w2.heap.size/\w1.heap.size<g):=fun g hg hl=>⟨HI.o.only.block g hl (by omega),hg⟩;obtain⟨x,y,lab,cc,rr,hd',ln',mm,S',Ev,G2,Ew,Eg,Gd,Eh,c2,hrt,k0,k1,k2,k3,k4,k5⟩:=Ak.at' i c cs HShp.o (Ak.keep hk _ _ Gt.o) hlt;obtain⟨gl,hla,_,hcap,lgl,hcell⟩:=Fs (HOwn3.o.keep hk).1 (by omega);subst hla;have hgl:=(HOwn3.o.keep hk).2 gl rfl;have d0:=hcell _ _ k0;have d1:=hcell _ _ k1;have d2:=hcell _ _ k2;have d3:=hcell _ _ k3;have d4:=hcell _ _ k4;have d5:=hcell _ _ k5;have HDs:=A0 (Ko i c x y lab cc rr hd');obtain⟨h140,hok,_,_⟩:=Zz ⟨0,0,0,0,[],none,0,0,none,0,0⟩ i c HShp.o HKdc.o x y lab cc rr hd';have HRt:=A0 hrt;have HD':=A0 hd';clear hcell hd' hrt k0 k1 k2 k3 k4 k5 hk;by_cases h20:lab.kd=20
   ·have hIA:(Dy lab.kd).toArray=#[102,110]:=by rw[h20];rfl
    rw[hIA]at d0;clear hIA;obtain⟨ys,hxo,hxm⟩:=HRt.o.prm h20;have hpn:Gd=ys.length:=(C9 hxo.1).1;have hS:S'=lab.s:=HRt.o.name (by rw[h20];rfl);have hps:lab.ps.length=ys.length:=by rw[←hxm];simp
    have hpn2:Gd=lab.ps.length:=by omega
    subst hS;subst hpn2;have HFn:Hid (Bf (Au i c)=(lab.s,lab.ps.length)::Bf (Au (i+1) c)):=by
     show _=_;rw[HD'.o,T2 _ _ _ _ _ h20,HDs.o]
    have hown:=HI.o.own;have hlt1:=A72 fs.length;clear h20 hxo hxm hpn hps h140 hok HRt;go_wp2;go_region_law (refine P9 _ wr.heap.size O2 77 (by show(wr.alloc _).heap[wr.heap.size]?=_;exact heap_alloc_new wr (.cells O2 77)) rfl (.tmp 68) (.tmp 77) 72 rfl 0 6 96 (.agg #[.string ⟨#[]⟩,.int .i64 0,.string ⟨#[]⟩,.int .i64 0,.slice none 0 0,.slice none 0 0]) Tryz.underlying72 Kz rfl (by omega) (.slice fa fs.length fc) fs.length fcs rfl rfl (hown.alloc _) rfl Af6 (by omega) (by omega) (Nat.zero_le _) ?_;intro g2 cap2 w4 Iv hgrow2 hat2 Eo;have hM:=HI.o.mid (g2:=g2) (cap2:=cap2) (by omega) Iv ⟨hgrow2.os,hgrow2.tape,hgrow2.output,hgrow2.size,hgrow2.block⟩ hat2;obtain⟨q0,q1,fq,lq⟩:=Lg hM.cell;obtain⟨m0,m1,m2,m3,m4,m5⟩:=hM.zs;have fm:=hM.frz;obtain⟨lm,lcap⟩:=hM.lt;have hne:=hM.ne;have HM:=A0 hM;clear hM hgrow2 hat2 Iv)
    all_goals
     go_wp2;go_roundg (gk-1)
     case measure=>omega
     case rel=>
      refine⟨i+1,fs++[(lab.s,lab.ps.length)],some ⟨g2,0,none⟩,cap2,fcs++[.string ⟨#[102,110]⟩,.int .i64 ln',.string ⟨lab.s.toArray⟩,.int .i64 mm,.slice Ev G2 Ew,.slice Eg lab.ps.length Eh],rfl,by omega,by rw[HFs.o,HFn.o,List.append_assoc];rfl,by simp;omega,?_⟩;have D1:=HM.o.A4l (.string ⟨#[102,110]⟩) (.int .i64 ln') (.int .i64 mm) (.slice Ev G2 Ew) lab.s lab.ps.length Eg Eh;have D2:=HM.o.A4m (.string ⟨#[102,110]⟩) (.int .i64 ln') (.int .i64 mm) (.slice Ev G2 Ew) lab.s lab.ps.length Eg Eh;first
       | with_reducible exact D1
       | with_reducible exact D2
   ·have hne:(Dy lab.kd==[102,110])=false:=Yt _ h140 hok h20;have HFn:Hid (Bf (Au i c)=Bf (Au (i+1) c)):=by
     show _=_;rw[HD'.o,Qt _ _ _ _ _ h20,HDs.o]
    clear h20 hok HRt;go_wp2;go_roundg (gk-1)
    case measure=>omega
    case rel=>exact⟨i+1,fs,fa,fc,fcs,rfl,by omega,by rw[HFs.o,HFn.o],by omega,HI.o⟩
  ·have hie:i=A8 c:=by omega
   have hfe:Bf c=fs:=by
    have:=HFs.o;rw[hie,A4s]at this;simpa [Bf]using this
   have hR4:=(HI.o.only.block w.heap.size (by omega) (by omega)).trans He.o;have HSt:=A0 (Ab1 HI.o hfe (by omega));have hk:∀g,(g<w2.heap.size/\w1.heap.size<g)->g<w3.heap.size->(wr.alloc (.cells #[.pointer (some ⟨w2.heap.size,0,none⟩),.slice none 0 0,.slice none 0 0,.int .i64 0,.int .i64 0,.bool false,.int .i64 0,.int .i64 0] 113)).heap[g]?=w3.heap[g]?/\(g<wr.heap.size):=fun g hg hl=>⟨(Below.heap_alloc _ _ _ (by omega)).trans (HI.o.only.block g hl (by omega)),by omega⟩;have HAll:=A0 (A1n ⟨wr.heap.size,w2.heap.size,113,74,Bf c,va,A8 c,vc,fa,fs.length,fc⟩ c cs _ _ (0,0) HSt.o (HOwn3.o.keep hk) (Ak.keep hk _ _ Gt.o) HShp.o HT.o HKdc.o rfl (by omega));have HFe:=A0 hfe;have I8:=A0 hR4;have Dm:Hid (Below w.heap.size w wr):=⟨HI.o.only.os.trans B4.o.os,HI.o.only.tape.trans B4.o.tape,HI.o.only.output.trans B4.o.output,by omega,fun k hk=>(HI.o.only.block k (by omega) (by omega)).trans (B4.o.block k hk)⟩;clear hk hfe hie hR4 HSt;go_wp2_with fail
   refine HAll.o.mono ?_;rintro e w5 ⟨rfl,cur',C0,C7⟩;obtain⟨na,nm,nc,ba,bm,bc,bs,hss⟩:=C0.st;obtain⟨y0,y1,y2,y3,y4,y5,y6,y7,fy,ly⟩:=Gn hss.cell;replace ly:wr.heap.size<w5.heap.size:=ly;have hold:∀g,g<wr.heap.size->w5.heap[g]?=wr.heap[g]?:=fun g hg=>(C7.block g hg).trans (Below.heap_alloc _ _ _ hg);have hR5:=(hold _ (by omega)).trans I8.o;have hP5:=(hold _ lp).trans HI.o.cell;obtain⟨x0,x1,fx,lx⟩:=Lg hR5;have ls5:=C7.size;rw[World.size_alloc]at ls5;have Fo:Hid (Below w.heap.size w w5):=⟨C7.os.trans Dm.o.os,C7.tape.trans Dm.o.tape,C7.output.trans Dm.o.output,by omega,fun k hk=>(hold k (by omega)).trans (Dm.o.block k hk)⟩;have hse:Dj (Bf c) c [] [] (0,0)=Dj (Bf r.1) r.1 [] [] (0,0):=by
    rw[HC0.o,Yu _ HKd.o,Aat _ _ HSane.o HKd.o]
   simp only[]at y6 y7;rw[hse]at y6 y7;have Ei:=A0 hP5;have HOld:=A0 hold;clear hss C0 C7 hse hR5 hP5 hold HAll p0 p1 fp;generalize hfl:Dj (Bf r.1) r.1 [] [] (0,0)=fl at *;have HFl:=A0 hfl;clear hfl;by_cases hs0:fl.1=0
   ·have HS0:=A0 hs0;rw[hs0]at y6;clear hs0;go_wp2;refine bodyPost_ret (v:=.tuple #[.pointer (some ⟨w2.heap.size,0,none⟩),.agg #[.int .i64 0,.int .i64 0]]) (by simp[results,Tryz.results31,go_sem,x0,x1]) rfl ?_;have hset:∀g,w.heap.size<g->((w5.setCell ⟨w.heap.size,0,none⟩ (.int .i64 0)).setCell ⟨w.heap.size,1,none⟩ (.int .i64 0)).heap[g]?=w5.heap[g]?:=by
     intro g hg;rw[Below.heap_setCell _ _ _ _ (by show g≠w.heap.size;omega),Below.heap_setCell _ _ _ _ (by show g≠w.heap.size;omega)]
    refine⟨?_,.inr ⟨by rw[HFl.o];exact HS0.o,fs,w2.heap.size,va,A8 c,vc,fa,fc,fcs,HFs0.o.symm.trans HFe.o,by omega,rfl,by omega,(hset _ (by omega)).trans Ei.o,?_,HI.o.at',fun g e=>by have:=HI.o.lo g e;omega⟩⟩
    ·repeat (first|exact Fo.o|refine Below.alloc ?_ (by simp[World.setCell];omega) _|refine Below.setCell ?_ (by simp) _|refine Below.drew ?_)
    ·exact Bb HI.o.own (fun k hk hl=>(hset k (by have:=HI.o.lo k hk;omega)).trans (HOld.o k hl))
   ·have t4:((fl.1:Int)==0)=false:=kn0' hs0;have HS0:=A0 hs0;clear hs0;go_wp2;go_region
    all_goals go_wp2
    all_goals refine bodyPost_ret (v:=.tuple #[.pointer none,.agg #[.int .i64 (fl.1:Nat),.int .i64 (fl.2:Nat)]]) (by simp[results,Tryz.results31,go_sem,x0,x1]) rfl ?_
    all_goals refine⟨?_,.inl (by rw[HFl.o];exact⟨HS0.o,rfl⟩)⟩
    all_goals repeat (first|exact Fo.o|refine Below.alloc ?_ (by simp[World.setCell];omega) _|refine Below.setCell ?_ (by simp) _|refine Below.drew ?_)
end
end Go.Proofs.YtjdlndhfaaolaaaGreatDoor
