import Derived.Test.YtjdlndhfaaolaaaGreatDoorY44
set_option maxHeartbeats 20000000
set_option linter.all false
namespace Go.Proofs.YtjdlndhfaaolaaaGreatDoor
section
set_option maxRecDepth 100000
open Go.RowKit
open Go.Deep (BT)
def A9o{w:World}(h:Hr w):Lg<w.heap.size:=by
 unfold Hr Lib.TabIs World.var? at h;rw[A2k]at h;simp only[A37]at h;split at h
 ·rename_i hh;exact A6 hh
 ·cases h
def A18{w:World}{b k:Nat}(v0 v1 v2 v3 v4:Value)(h:k≠b):(((((w.setCell ⟨b,0,none⟩ v0).setCell ⟨b,1,none⟩ v1).setCell ⟨b,2,none⟩ v2).setCell ⟨b,3,none⟩ v3).setCell ⟨b,4,none⟩ v4).heap[k]?=w.heap[k]?:=
 ((((Bh _ _ _ _ h).trans (Bh _ _ _ _ h)).trans (Bh _ _ _ _ h)).trans (Bh _ _ _ _ h)).trans (Bh _ _ _ _ h)
def Ajc{w w':World}{B b:Nat}(hB:B<=b)(h:Below B w w')(v0 v1 v2 v3 v4:Value):Below B w (((((w'.setCell ⟨b,0,none⟩ v0).setCell ⟨b,1,none⟩ v1).setCell ⟨b,2,none⟩ v2).setCell ⟨b,3,none⟩ v3).setCell ⟨b,4,none⟩ v4):=
 B0 (B0 (B0 (B0 (B0 h hB _) hB _) hB _) hB _) hB _
def Aqs{P:C5}{bets:List Cl}{m':MS}(hwk:Zz P (bets.take 20) m')(hml:m'.lots.length<=5000)(hN:P.fns.length<=5000)(hG:P.globals<=5000)(hS:P.slots<=5000):Xh P bets m':=by
 intro w gb E v hpg hE ht hb;show Calls _ _ _ _ (Xi w m'.code m'.line m'.out m'.lots);obtain⟨a,cc,rfl,hcc,hb'⟩:=id hb;obtain⟨pb,hEg,hgb,hp⟩:=hpg;obtain⟨w0,Dk⟩:∃w0,w0=w.alloc (.cells #[.slice none 0 0,.i 0,.i 0,.slice none 0 0,.slice none 0 0] 54):=⟨_,rfl⟩;have It:w0.heap.size=w.heap.size+1:=by rw[Dk];simp
 have Bq:Bw w w0:=by rw[Dk];exact A1i _ _
 have I6:w0.heap[w.heap.size]?=some (.cells #[.slice none 0 0,.i 0,.i 0,.slice none 0 0,.slice none 0 0] 54 (0,0)):=by rw[Dk];exact Bp _ _
 have ht0:=ht.keep Bq;have HR:=Amg hwk hml hN hG hS (hp.keep (fun k hk hl=>⟨Bq.block k hl,hk⟩)) (fun g hg=>by have:=hE g hg;omega) ht0 (A9o ht0) (hb.below Bq);have cg:=A4 hgb 0 _ rfl;have lg:=A6 hgb;go_in;go_wp2_with fail
 rw[←Dk];refine HR.mono ?_;rintro e w1 ⟨va,vn,vc,fv,dv,rfl,hfd,ho,hbl⟩;obtain⟨fa,fn,fc,da,dn,dc,rfl,rfl,hof,hod⟩:=hfd;have Cu:=(hbl.block w.heap.size z4ma).trans I6;have ls:=hbl.size;obtain⟨m0,f0⟩:=C3 (A4 Cu 0 _ rfl) (By Cu);have m1:=A4 Cu 1 _ rfl;have m2:=A4 Cu 2 _ rfl;have m3:=A4 Cu 3 _ rfl;have m4:=A4 Cu 4 _ rfl;have lz:=A6 Cu;go_wp2;have hne:=fun k hk=>A1s ho Cu z4oa k hk;have hnf:=fun k hk=>A1s hof Cu z4oa k hk;have hnd:=fun k hk=>A1s hod Cu z4oa k hk;have hq:=A68 Cu (.slice va vn vc) (.n m'.code) (.n m'.line) (.slice fa fn fc) (.slice da dn dc);have x0:=A4 hq 0 _ rfl;have x1:=A4 hq 1 _ rfl;have x2:=A4 hq 2 _ rfl;have x3:=A4 hq 3 _ rfl;have x4:=A4 hq 4 _ rfl;refine B9 (v:=.agg #[.slice va vn vc,.n m'.code,.n m'.line,.slice fa fn fc,.slice da dn dc]) (by simp[results,Tryz.results23,go_sem,x0,x1,x2,x3,x4]) rfl ?_;unfold Xi;refine⟨va,vn,vc,fa,fn,fc,da,dn,dc,rfl,Bc ho (fun k hk _=>?_),Bc hof (fun k hk _=>?_),Bc hod (fun k hk _=>?_),?_⟩
 ·exact A18 _ _ _ _ _ (hne k hk)
 ·exact A18 _ _ _ _ _ (hnf k hk)
 ·exact A18 _ _ _ _ _ (hnd k hk)
 ·exact Ajc (Af _) (Bq.trans (hbl.mono z4ma)) _ _ _ _ _
def Aqr{P:C5}{bets:List Cl}{m':MS}(h:Xh P bets m')(hc:m'.code=0):A42 P bets m'.out:=by
 intro w gb E v hpg hE ht hb;refine(h w gb E v hpg hE ht hb).mono ?_;rintro e w' ⟨va,vn,vc,fa,fn,fc,da,dn,dc,he,h1,_,_,h4⟩;rw[hc]at he;exact⟨va,vn,vc,m'.line,_,_,he,⟨fa,fn,fc,da,dn,dc,rfl,rfl⟩,h1,h4⟩
