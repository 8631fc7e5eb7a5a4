import Derived.Test.YtjdlndhfaaolaaaGreatDoorQ10
set_option maxHeartbeats 20000000
namespace Go.Proofs.YtjdlndhfaaolaaaGreatDoor
section
set_option maxRecDepth 100000
open Go.RowKit
def Jw:List (List UInt8×Nat):=[([61,61],27),([33,61],29),([60,61],31),([62,61],33),([38,38],39),([124,124],40),([40],18),([41],19),([123],20),([125],21),([91],22),([93],23),([44],24),([59],25),([61],26),([33],28),([60],30),([62],32),([43],34),([45],35),([42],36),([47],37),([37],38)]
def Vn:List (List UInt8×Nat)->List Value
 | []=>[]
 | x::r=>.string ⟨x.1.toArray⟩::.int .i64 (x.2:Nat)::Vn r
def Rx:Array Value:=(Vn Jw).toArray
theorem Adz(w:World):∀n (h:n<23),(Instr.index 338 (.agg Rx) (.int .i64 (n:Nat))).run Tryz.prog w=.ok (.agg #[.string ⟨(Jw[n]'h).1.toArray⟩,.int .i64 ((Jw[n]'h).2:Nat)]) w
 | 0,_=>by kernel_rfl
 | 1,_=>by kernel_rfl
 | 2,_=>by kernel_rfl
 | 3,_=>by kernel_rfl
 | 4,_=>by kernel_rfl
 | 5,_=>by kernel_rfl
 | 6,_=>by kernel_rfl
 | 7,_=>by kernel_rfl
 | 8,_=>by kernel_rfl
 | 9,_=>by kernel_rfl
 | 10,_=>by kernel_rfl
 | 11,_=>by kernel_rfl
 | 12,_=>by kernel_rfl
 | 13,_=>by kernel_rfl
 | 14,_=>by kernel_rfl
 | 15,_=>by kernel_rfl
 | 16,_=>by kernel_rfl
 | 17,_=>by kernel_rfl
 | 18,_=>by kernel_rfl
 | 19,_=>by kernel_rfl
 | 20,_=>by kernel_rfl
 | 21,_=>by kernel_rfl
 | 22,_=>by kernel_rfl
 | n+23,h=>absurd h (by omega)
theorem Zf{α:Type}{p:α->Bool}{l:List α}{n:Nat}(hn:n<l.length):(l.drop n).find? p=if p l[n] then some l[n] else(l.drop (n+1)).find? p:=by
 rw[List.drop_eq_getElem_cons hn,List.find?_cons];cases p l[n] <;> rfl
def Ak6(b te:Nat)(w:World)(l:List UInt8)(i line:Nat)(e:Ending)(w':World):Prop:=
 A7 b w w'/\((∃p,Jw.find? (fun p=>Gf (l.drop i) p.1)=some p/\e=.returned (.tuple #[.agg #[.int .i64 (p.2:Nat),.int .i64 (line:Nat),.string ⟨#[]⟩,.int .i64 0],.bool true])/\Sc b te w' l (i+p.1.length) line)\/
  (Jw.find? (fun p=>Gf (l.drop i) p.1)=none/\e=.returned (.tuple #[.agg #[.int .i64 0,.int .i64 0,.string ⟨#[]⟩,.int .i64 0],.bool false])/\Sc b te w' l i line))
theorem Ahp{w:World}{g:Nat}{a0 a1:Value}{t:TypeId}(h:w.heap[g]?=some (.cells #[a0,a1] t (0,0))) :
  w.cell? ⟨g,0,none⟩=some a0/\w.cell? ⟨g,1,none⟩=some a1/\(∀o,w.frozen? ⟨g,o,none⟩=false)/\g<w.heap.size:=
 ⟨A2 h 0 _ rfl,A2 h 1 _ rfl,Bd h,A4 h⟩
theorem A3b{b te tg:Nat}{fr:Nat×Nat}{w:World}{l:List UInt8}{i line:Nat}(h:Sc b te w l i line)(hg:w.heap[1]?=some (.cells Rx tg fr))(hl:l.length<=100000)(hi:i<l.length) :
  Calls Tryz.prog 129 #[.pointer (some ⟨b,0,none⟩)] w (Ak6 b te w l i line):=by
 obtain⟨c0,c1,c2,fz,lb⟩:=h.cells;have HSc0:=A0 h;have HX:∀a b,(⟨l.toArray⟩:ByteArray).extract a b=⟨((l.drop a).take (b-a)).toArray⟩:=R8 l;go_enter Tryz.func129,Tryz.ntmps129;go_wp2_with (refine wpList_load_row rfl 338 _ rfl 1 rfl tg _ fr _ (alloc_old hg) Tryz.underlying338 rfl (by kernel_rfl) ?_)
 clear c0 c1 c2 fz hg h;go_loopg [7] 23 (fun k v wr=>∃n:Nat,v=.int .i64 n/\n+k=23/\Jw.find? (fun p=>Gf (l.drop i) p.1)=(Jw.drop n).find? (fun p=>Gf (l.drop i) p.1)/\Sc b te wr l i line/\A7 b w wr/\wr.heap[w.heap.size]?=some (.cells #[.int .i64 0,.int .i64 0,.string ⟨#[]⟩,.int .i64 0] 198))
 case atStart=>exact⟨0,rfl,rfl,rfl,HSc0.o.keep (Below.heap_alloc _ _ _ lb),(A7.refl _ _).alloc _,heap_alloc_new _ _⟩
 case round=>
  clear HSc0;obtain⟨n,rfl,hnk,hf,hsc,ho,ht⟩:=hrel;have HF:=A0 hf;have HSc:=A0 hsc;have HO:=A0 ho;have HT:=A0 ht;obtain⟨x0,x1,x2,x3,fx,lx⟩:=Dw ht;obtain⟨c0,c1,c2,fz,lbr⟩:=hsc.cells;have hne:b≠w.heap.size:=by omega
  clear hf hsc ho ht;by_cases hlt:n<23
  ·have hix:=fun W=>Adz W n hlt;have HF1:=A0 (HF.o.trans (Zf hlt));generalize Rx=sc at *;generalize Jw[n]=p at *;clear HF;have hdr:(l.drop i).take (l.length-i)=l.drop i:=List.take_of_length_le (by simp);cases hp:Gf (l.drop i) p.1
   ·have HF2:Hid (Jw.find? (fun p=>Gf (l.drop i) p.1)=(Jw.drop (n+1)).find? (fun p=>Gf (l.drop i) p.1)):=by
     show _=_;rw[HF1.o];simp only[hp];rfl
    clear HF1;go_wp2;go_quiet ((go_at_call 174;exact Calls.quiet_of_same (Rr hp _)))
    go_wp2;go_roundg (gk-1)
    case measure=>omega
    case rel=>exact⟨n+1,rfl,by omega,HF2.o,HSc.o.keep (Below.heap_alloc _ _ _ lbr),(HO.o.alloc _).drewN _,alloc_old HT.o⟩
   ·have HF2:Hid (Jw.find? (fun p=>Gf (l.drop i) p.1)=some p):=by
     show _=_;rw[HF1.o];simp only[hp];rfl
    have hpl:i+p.1.length<=l.length:=by
     unfold Gf at hp;simp only[Bool.and_eq_true,decide_eq_true_eq,List.length_drop]at hp;omega
    clear HF1;go_wp2;go_quiet ((go_at_call 174;exact Calls.quiet_of_same (Rr hp _)))
    have HSc5:Hid (Sc b te ((wr.alloc (.cells #[.string ⟨p.1.toArray⟩,.int .i64 (p.2:Nat)] 329)).drewN nq) l i line):=HSc.o.keep (Below.heap_alloc _ _ _ lbr);have C4:Hid (A7 b w ((wr.alloc (.cells #[.string ⟨p.1.toArray⟩,.int .i64 (p.2:Nat)] 329)).drewN nq)):=(HO.o.alloc _).drewN _;have HT5:Hid (((wr.alloc (.cells #[.string ⟨p.1.toArray⟩,.int .i64 (p.2:Nat)] 329)).drewN nq).heap[w.heap.size]?=_):=alloc_old HT.o;have Eo:Hid (((wr.alloc (.cells #[.string ⟨p.1.toArray⟩,.int .i64 (p.2:Nat)] 329)).drewN nq).heap[wr.heap.size]?=_):=heap_alloc_new _ _;generalize ((wr.alloc (.cells #[.string ⟨p.1.toArray⟩,.int .i64 (p.2:Nat)] 329)).drewN nq)=w5 at *;generalize wr.heap.size=pb at *;clear x0 x1 x2 x3 fx c0 c1 c2 fz HSc HO HT;obtain⟨x0,x1,x2,x3,fx,lx5⟩:=Dw HT5.o;obtain⟨c0,c1,c2,fz,lb5⟩:=HSc5.o.cells;obtain⟨y0,y1,fy,ly⟩:=Ahp Eo.o;have hne2:pb≠b:=by omega
    have hne3:pb≠w.heap.size:=by omega
    go_wp2;go_region
    all_goals go_wp2
    all_goals go_region
    all_goals go_wp2
    all_goals
     refine bodyPost_ret (v:=.tuple #[.agg #[.int .i64 (p.2:Nat),.int .i64 (line:Nat),.string ⟨#[]⟩,.int .i64 0],.bool true]) (by simp[results,Tryz.results129,go_sem,x0,x1,x2,x3]) rfl ?_;exact⟨(A7.Hu (A7.set (p:=⟨b,1,none⟩) C4.o (.inl rfl) _) (Nat.le_refl _) _ _ _ _).drew.drew,.inl ⟨p,HF2.o,rfl,(Sc.at HSc5.o (i+p.1.length) _ (by omega)).keep (Gw (by omega) _ _ _ _)⟩⟩
  ·have HF2:Hid (Jw.find? (fun p=>Gf (l.drop i) p.1)=none):=by
    show _=_;rw[HF.o,show n=23 by omega];rfl
   go_wp2;refine bodyPost_ret (v:=.tuple #[.agg #[.int .i64 0,.int .i64 0,.string ⟨#[]⟩,.int .i64 0],.bool false]) (by simp[results,Tryz.results129,go_sem,x0,x1,x2,x3]) rfl ?_;exact⟨A7.Hu HO.o (Nat.le_refl _) _ _ _ _,.inr ⟨HF2.o,rfl,HSc.o.keep (Gw (by omega) _ _ _ _)⟩⟩
end
end Go.Proofs.YtjdlndhfaaolaaaGreatDoor
