import Derived.Test.YtjdlndhfaaolaaaGreatDoorT14
set_option maxHeartbeats 20000000
namespace Go.Proofs.YtjdlndhfaaolaaaGreatDoor
section
open Go.Deep (BT)
variable {P:Dl} {bets:List Dc} {a b:Int} {M:List Af}
theorem Wq{m0:MS}{V:List PV}{o:List (List UInt8)}{pc:Nat}{x:Af}{m':MS}(hc:m0.code=0)(hi:M[pc]?=some x)(hx:B1 P bets x (Io m0 M V o (pc+1))=m'):K3 P bets 1 (Io m0 M V o pc) m':=goS hc (.inl hi) hx hx
theorem b6(a:Int):(Jx a).length<=4:=by unfold Jx;split <;> simp
def bs(f:Nat)(l:Ey)(calls:List Fr):MS:=⟨[],[],calls,⟨[],0,0⟩,f,0,[],0,0,[],[l]⟩
theorem Yx(m:MS)(i:Af)(ho:i.op=42)(hf:m.fuel≠0)(hd:m.calls.length≠40){f:Fn}(hp:P.fns[i.arg.toNat]?=some f):B1 P bets i m=MS.body P bets i.arg.toNat f { m with fuel:=m.fuel-1,calls:=m.calls++[m.now] }:=by
 unfold B1;rw[ho];show MS.Km _ _ _=_;unfold MS.Km;rw[if_neg hf];dsimp only;rw[if_neg hd,hp]
def Wl(i:Af):Bool:=decide (0<=i.arg)&&decide (i.arg<=5000)&&i.v.r.isNone&&decide (i.v.k≠4)&&decide (i.v.t.length<=2000)&&decide (-9223372036854775808<=i.v.n)&&decide (i.v.n<=9223372036854775807)&&decide (i.op=42->i.arg.toNat<1)&&decide (i.op<=44)
theorem Og{i:Af}(h:Wl i=true):Jq 1 i:=by
 simp only[Wl,Bool.and_eq_true,decide_eq_true_eq,Option.isNone_iff_eq_none]at h;obtain⟨h,o1⟩:=h;exact⟨h.1.1.1.1.1.1.1,h.1.1.1.1.1.1.2,h.1.1.1.1.1.2,h.1.1.1.1.2,⟨h.1.1.1.2,⟨h.1.1.2,h.1.2⟩⟩,h.2,o1⟩
theorem Tu{l:List Af}(h:l.all Wl=true):∀i∈l,Jq 1 i:=fun i hi=>Og (List.all_eq_true.1 h i hi)
theorem Rm(n:Int)(h:Cf n):Jq 1 ⟨0,0,0,ofInt n⟩:=⟨Int.le_refl 0,by show(0:Int)<=5000;decide,rfl,by show(2:Nat)≠4;decide,Qb h,fun q=>(by cases q),(by unfold Le;dsimp only;omega)⟩
theorem A0h(a:Int)(ha:Cf a):∀i∈Jx a,Jq 1 i:=by
 unfold Jx;unfold Cf at ha;split
 ·intro i hi;simp only[List.mem_cons,List.not_mem_nil,or_false]at hi;rcases hi with rfl|rfl|rfl|rfl
  ·exact Rm _ ⟨by omega,by omega⟩
  ·exact Og (by rfl)
  ·exact Rm _ ⟨by omega,by omega⟩
  ·exact Og (by rfl)
 ·intro i hi;simp only[List.mem_singleton]at hi;rw[hi];exact Rm _ ha
end
section
set_option maxRecDepth 100000
open Go.Deep (BT)
def Na:List UInt8:=[102,110,32,102,40,120,41,32,123,32,114,101,116,117,114,110,32,120,32,43,32,120,59,32,125,32,112,114,105,110,116,32,102,40,50,41,59,32,112,114,105,110,116,32,102,40,34,97,34,41,59,32,112,114,105,110,116,32,102,40,51,41,59]
def Nz:List Tk:=[⟨4,1,[],0⟩,⟨1,1,[102],0⟩,⟨18,1,[],0⟩,⟨1,1,[120],0⟩,⟨19,1,[],0⟩,⟨20,1,[],0⟩,⟨9,1,[],0⟩,⟨1,1,[120],0⟩,⟨34,1,[],0⟩,⟨1,1,[120],0⟩,⟨25,1,[],0⟩,⟨21,1,[],0⟩,⟨12,1,[],0⟩,⟨1,1,[102],0⟩,⟨18,1,[],0⟩,⟨2,1,[],2⟩,⟨19,1,[],0⟩,⟨25,1,[],0⟩,⟨12,1,[],0⟩,⟨1,1,[102],0⟩,⟨18,1,[],0⟩,⟨3,1,[97],0⟩,⟨19,1,[],0⟩,⟨25,1,[],0⟩,⟨12,1,[],0⟩,⟨1,1,[102],0⟩,⟨18,1,[],0⟩,⟨2,1,[],3⟩,⟨19,1,[],0⟩,⟨25,1,[],0⟩,⟨0,1,[],0⟩]
def A9e:List Af:=[⟨1,0,0,Ab⟩,⟨1,0,0,Ab⟩,⟨12,0,1,Ab⟩,⟨44,0,0,Ab⟩,⟨43,0,0,Ab⟩]
def fnA:Fn:=⟨[102],1,1,A9e⟩
def Ke:List Af:=[⟨0,0,0,ofInt 2⟩,⟨42,0,1,Ab⟩,⟨41,0,1,Ab⟩,⟨0,0,0,ofStr [97]⟩,⟨42,0,1,Ab⟩,⟨41,0,1,Ab⟩,⟨0,0,0,ofInt 3⟩,⟨42,0,1,Ab⟩,⟨41,0,1,Ab⟩]
def Jg:Dl:=⟨0,0,Ke,[fnA]⟩
theorem A18:lex 2001 Na 1 false=.inr Nz:=by kernel_rfl
theorem A1z:Ai 100000 10 0 .nil ⟨Nz,0⟩=some (N9 Nz,⟨[⟨0,1,[],0⟩],0⟩):=by kernel_rfl
theorem Ag0:nest Nz 0=0:=by kernel_rfl
theorem Aka:Et (Cu (N9 Nz)) (N9 Nz) [] [] (0,0)=(0,0):=by kernel_rfl
theorem emA:Np (N9 Nz)=Jg:=by kernel_rfl
theorem Ap3:∃c,Hh Na=((0,0),some c)/\Np c=Jg:=by
 have hl:Na.length=63:=by kernel_rfl
 exact⟨_,Ap4 Na Nz z51a (fun f hf=>by rw[Xb f 2001 _ _ _ hf z51a,A18]) A1z Ag0 Aka,emA⟩
theorem Ah2:Px Na:=Ah4 Na Nz (fun f hf=>by rw[Xb f 2001 _ _ _ hf (show Na.length<2001 by rw[show Na.length=63 by kernel_rfl];omega),A18]) A1z (of_decide_eq_true (by kernel_rfl))
def M9(n:Nat):Ey:=⟨n,none,0,0⟩
theorem Adt:K3 Jg [] 6 (mstart Jg) (Io (bs 1999 (M9 1) []) Ke [ofInt (wr (2+2))] [] 2):=fun n=>by kernel_rfl
theorem Adu(o:List (List UInt8)):K3 Jg [] 6 (Io (bs 1999 (M9 1) []) Ke [] o 3) (Io (bs 1998 (M9 2) []) Ke [ofStr [97,97]] o 5):=fun n=>by kernel_rfl
theorem Adv(o:List (List UInt8)):K3 Jg [] 6 (Io (bs 1998 (M9 2) []) Ke [] o 6) (Io (bs 1997 (M9 3) []) Ke [ofInt (wr (3+3))] o 8):=fun n=>by kernel_rfl
theorem Aoq(arr:List (List PV))(t:List UInt8):Fs arr 4 [] (ofStr t)=t:=by simp[Fs,ofStr]
def Pr:List (List UInt8):=[[52],[97,97],[54]]
theorem A8j:∃m',J1 Jg [] 22 (mstart Jg)=some m'/\m'.code=0/\m'.out=Pr:=by
 have i4:Lib.itoa (wr (2+2))=[52]:=by
  have:wr (2+2)=4:=Sr ⟨by decide,by decide⟩;rw[this];simp[Lib.itoa,Lib.decDigits]
 have i6:Lib.itoa (wr (3+3))=[54]:=by
  have:wr (3+3)=6:=Sr ⟨by decide,by decide⟩;rw[this];simp[Lib.itoa,Lib.decDigits]
 have s0:K3 Jg [] 1 (Io (bs 1999 (M9 1) []) Ke [ofInt (wr (2+2))] [] 2) (Io (bs 1999 (M9 1) []) Ke [] ([]++[[52]]) 3):=Wq (P:=Jg) (bets:=[]) rfl (show Ke[2]?=some ⟨41,0,1,Ab⟩ from rfl) (Y1 (V:=[]) ((Ye _ _).trans i4) z56a z56a);have s1:K3 Jg [] 1 (Io (bs 1998 (M9 2) []) Ke [ofStr [97,97]] ([]++[[52]]) 5) (Io (bs 1998 (M9 2) []) Ke [] ([]++[[52]]++[[97,97]]) 6):=Wq (P:=Jg) (bets:=[]) rfl (show Ke[5]?=some ⟨41,0,1,Ab⟩ from rfl) (Y1 (V:=[]) (Aoq _ _) z56a z56a);have s2:K3 Jg [] 1 (Io (bs 1997 (M9 3) []) Ke [ofInt (wr (3+3))] ([]++[[52]]++[[97,97]]) 8) (Io (bs 1997 (M9 3) []) Ke [] ([]++[[52]]++[[97,97]]++[[54]]) 9):=Wq (P:=Jg) (bets:=[]) rfl (show Ke[8]?=some ⟨41,0,1,Ab⟩ from rfl) (Y1 (V:=[]) ((Ye _ _).trans i6) z56a z56a);have g:=((((Adt.trans s0).trans (Adu _)).trans s1).trans (Adv _)).trans s2;exact⟨_,g 1,rfl,rfl⟩
theorem Wm:O1 1 Jg:=by
 refine⟨by show(0:Nat)<=1;omega,Tu (by rfl),?_⟩;intro f hf;simp only[Jg,List.mem_singleton]at hf;rw[hf];exact⟨Nat.le_refl 1,Nat.le_refl 1,Tu (by rfl)⟩
def Nu(i:Af)(m:MS):Bool:=(i.op !=41||m.top.k !=4)&&(i.op !=39||m.pop.top.k !=3)&&((i.op !=2&&i.op !=4)||decide (i.arg.toNat<m.gl.length))&&(i.op !=36||decide (i.arg.toNat<=m.vals.length))
theorem U5{i:Af}{m:MS}(h:Nu i m=true):U4 i m:=by
 simp only[Nu,Bool.and_eq_true,Bool.or_eq_true,bne_iff_ne,decide_eq_true_eq]at h;obtain⟨⟨⟨h1,h2⟩,h3⟩,h4⟩:=h;exact⟨fun e=>h1.resolve_left (fun q=>q e),fun e=>h2.resolve_left (fun q=>q e),fun e=>h3.resolve_left (fun q=>e.elim (fun e=>q.1 e) (fun e=>q.2 e)),fun e=>h4.resolve_left (fun q=>q e)⟩
def Xf(P:Dl)(bets:List Dc):Nat->MS->Bool
 | 0,_=>true
 | n+1,m=>m.code !=0||(match m.now.steps[m.now.pc]? with
  | none=>true
  | some i=>Nu i m&&Xf P bets n (N2 P bets i m))
theorem Ag8(P:Dl)(bets:List Dc):∀(n:Nat) (m:MS),Xf P bets n m=true->nice P bets n m:=by
 intro n;induction n with
 | zero=>intro m _;trivial
 | succ n ih=>
  intro m h hc i hi;rw[Xf,hc,hi]at h;simp only[bne_self_eq_false,Bool.false_or,Bool.and_eq_true]at h;exact⟨U5 h.1,ih _ h.2⟩
theorem Agg:Pg Jg [] 22 (mstart Jg):=A1x Wm (fun x h=>by cases h) z51a 22 1 _ (X0 Wm) (Ag8 _ _ _ _ (by decide +kernel)) z51a
end
section
def Tn(k:Nat):List UInt8:=[UInt8.ofNat (48+k)]
theorem Ab9{n:Int}(h0:0<=n)(h:n<10):Dw n=Tn (n.tmod 10).toNat:=by
 unfold Dw;rw[if_neg z51a,Lib.decDigits,dif_pos z51a];rw[Int.tmod_eq_of_lt h0 h];rfl
theorem Ab8{n:Int}(h:10<=n):Dw n=Dw (n.tdiv 10)++Tn (n.tmod 10).toNat:=by
 obtain⟨u,rfl⟩:∃u:Nat,n=(u:Int):=⟨n.toNat,by omega⟩;have e1:(u:Int).tdiv 10=((u / 10:Nat):Int):=rfl;have e2:(u:Int).tmod 10=((u % 10:Nat):Int):=rfl;rw[e1,e2];unfold Dw;rw[if_neg z51a,if_neg z51a,Int.toNat_natCast,Int.toNat_natCast,Int.toNat_natCast,Lib.decDigits,dif_neg z51a];rfl
theorem Aba{n:Int}(h:n<0):Dw n=[40,45]++Dw (-(n+1))++[45,49,41]:=by
 have e:Dw (-(n+1))=Lib.decDigits (-(n+1)).toNat:=by unfold Dw;rw[if_neg z51a]
 rw[e];unfold Dw;rw[if_pos h];rfl
theorem Aef{n:Int}(h:0<=n):Lib.itoa n=Dw n:=by
 unfold Lib.itoa Dw;rw[if_neg z51a,if_neg z51a]
theorem itoa_neg{n:Int}(h:n<0):Lib.itoa n=(if n.tdiv 10<0 then Lib.itoa (n.tdiv 10) else [45])++Tn (-(n.tmod 10)).toNat:=by
 obtain⟨u,rfl,hu⟩:∃u:Nat,n=-(u:Int)/\0<u:=⟨n.natAbs,by omega,by omega⟩;have e1:(-(u:Int)).tdiv 10=-((u / 10:Nat):Int):=by rw[Int.neg_tdiv];rfl
 have e2:-((-(u:Int)).tmod 10)=((u % 10:Nat):Int):=by rw[Int.neg_tmod,Int.neg_neg];rfl
 rw[e1,e2,Int.toNat_natCast];by_cases h10:u<10
 ·rw[if_neg z51a];unfold Lib.itoa;rw[if_pos h,Int.natAbs_neg,Int.natAbs_natCast,Lib.decDigits,dif_pos h10,Nat.mod_eq_of_lt h10];rfl
 ·rw[if_pos z51a];unfold Lib.itoa;rw[if_pos h,if_pos z51a,Int.natAbs_neg,Int.natAbs_natCast,Int.natAbs_neg,Int.natAbs_natCast,Lib.decDigits,dif_neg h10];rfl
end
section
open Go.Deep (BT)
variable {N B k:Nat} {m:MS} {P:Dl} {bets:List Dc}
theorem Aea(hP:O1 B P)(hbt:∀x∈bets,Mm x):∀(n k:Nat) (m m':MS),Inv P.fns.length B k m->J1 P bets n m=some m'->∃k',Inv P.fns.length B k' m':=by
 intro n;induction n with
 | zero=>intro k m m' h e;rw[J1]at e;cases e
 | succ n ih=>
  intro k m m' h e;rw[J1]at e;split at e
  ·cases e;exact⟨k,h⟩
  ·split at e
   ·cases e;exact⟨k,h⟩
   ·rename_i i hi;exact ih _ _ _ (h.step rfl hP hbt i (List.mem_of_getElem? hi)) e
theorem A3g(hP:O1 B P)(hbt:∀x∈bets,Mm x){n:Nat}{m':MS}(h:J1 P bets n (mstart P)=some m'):m'.lots.length=P.fns.length:=by
 obtain⟨k',hk⟩:=Aea hP hbt n B _ _ (X0 hP) h;exact hk.lotn
end
section
set_option maxRecDepth 100000
open Go.Deep (BT)
def Li:List UInt8:=[102,110,32,115,101,116,40,97,44,32,105,44,32,118,41,32,123,32,97,91,105,93,32,61,32,118,59,32,112,117,115,104,40,97,44,32,118,41,59,32,114,101,116,117,114,110,32,97,32,61,61,32,97,59,32,125,32,108,101,116,32,97,32,61,32,91,48,93,59]
def Ul:List UInt8:=[32,112,117,115,104,40,97,44,32]
def Pm:List UInt8:=[32,108,101,116,32,98,32,61,32,97,59,32,108,101,116,32,99,32,61,32,91,97,93,59,32,108,101,116,32,100,32,61,32,91,48,93,59,32,112,114,105,110,116,32,115,101,116,40,98,44,32]
def Mc:List UInt8:=[41,59,32,112,114,105,110,116,32,108,101,110,40,97,41,59,32,112,114,105,110,116,32,97,91]
def Lj:List UInt8:=[93,59,32,112,114,105,110,116,32,99,91,48,93,91,108,101,110,40,98,41,32,45,32,49,93,59,32,112,114,105,110,116,32,97,32,61,61,32,98,59,32,112,114,105,110,116,32,99,91,48,93,32,61,61,32,97,59,32,112,114,105,110,116,32,100,32,61,61,32,91,48,93,59,32,112,114,105,110,116,32,108,101,110,40,100,41,59]
def Sd:List Tk:=[⟨4,1,[],0⟩,⟨1,1,[115,101,116],0⟩,⟨18,1,[],0⟩,⟨1,1,[97],0⟩,⟨24,1,[],0⟩,⟨1,1,[105],0⟩,⟨24,1,[],0⟩,⟨1,1,[118],0⟩,⟨19,1,[],0⟩,⟨20,1,[],0⟩,⟨1,1,[97],0⟩,⟨22,1,[],0⟩,⟨1,1,[105],0⟩,⟨23,1,[],0⟩,⟨26,1,[],0⟩,⟨1,1,[118],0⟩,⟨25,1,[],0⟩,⟨17,1,[],0⟩,⟨18,1,[],0⟩,⟨1,1,[97],0⟩,⟨24,1,[],0⟩,⟨1,1,[118],0⟩,⟨19,1,[],0⟩,⟨25,1,[],0⟩,⟨9,1,[],0⟩,⟨1,1,[97],0⟩,⟨27,1,[],0⟩,⟨1,1,[97],0⟩,⟨25,1,[],0⟩,⟨21,1,[],0⟩,⟨5,1,[],0⟩,⟨1,1,[97],0⟩,⟨26,1,[],0⟩,⟨22,1,[],0⟩,⟨2,1,[],0⟩,⟨23,1,[],0⟩,⟨25,1,[],0⟩]
def Um:List Tk:=[⟨17,1,[],0⟩,⟨18,1,[],0⟩,⟨1,1,[97],0⟩,⟨24,1,[],0⟩]
def Xx:List Tk:=[⟨5,1,[],0⟩,⟨1,1,[98],0⟩,⟨26,1,[],0⟩,⟨1,1,[97],0⟩,⟨25,1,[],0⟩,⟨5,1,[],0⟩,⟨1,1,[99],0⟩,⟨26,1,[],0⟩,⟨22,1,[],0⟩,⟨1,1,[97],0⟩,⟨23,1,[],0⟩,⟨25,1,[],0⟩,⟨5,1,[],0⟩,⟨1,1,[100],0⟩,⟨26,1,[],0⟩,⟨22,1,[],0⟩,⟨2,1,[],0⟩,⟨23,1,[],0⟩,⟨25,1,[],0⟩,⟨12,1,[],0⟩,⟨1,1,[115,101,116],0⟩,⟨18,1,[],0⟩,⟨1,1,[98],0⟩,⟨24,1,[],0⟩]
def Xy:List Tk:=[⟨19,1,[],0⟩,⟨25,1,[],0⟩,⟨12,1,[],0⟩,⟨16,1,[],0⟩,⟨18,1,[],0⟩,⟨1,1,[97],0⟩,⟨19,1,[],0⟩,⟨25,1,[],0⟩,⟨12,1,[],0⟩,⟨1,1,[97],0⟩,⟨22,1,[],0⟩]
def Xz:List Tk:=[⟨23,1,[],0⟩,⟨25,1,[],0⟩,⟨12,1,[],0⟩,⟨1,1,[99],0⟩,⟨22,1,[],0⟩,⟨2,1,[],0⟩,⟨23,1,[],0⟩,⟨22,1,[],0⟩,⟨16,1,[],0⟩,⟨18,1,[],0⟩,⟨1,1,[98],0⟩,⟨19,1,[],0⟩,⟨35,1,[],0⟩,⟨2,1,[],1⟩,⟨23,1,[],0⟩,⟨25,1,[],0⟩,⟨12,1,[],0⟩,⟨1,1,[97],0⟩,⟨27,1,[],0⟩,⟨1,1,[98],0⟩,⟨25,1,[],0⟩,⟨12,1,[],0⟩,⟨1,1,[99],0⟩,⟨22,1,[],0⟩,⟨2,1,[],0⟩,⟨23,1,[],0⟩,⟨27,1,[],0⟩,⟨1,1,[97],0⟩,⟨25,1,[],0⟩,⟨12,1,[],0⟩,⟨1,1,[100],0⟩,⟨27,1,[],0⟩,⟨22,1,[],0⟩,⟨2,1,[],0⟩,⟨23,1,[],0⟩,⟨25,1,[],0⟩,⟨12,1,[],0⟩,⟨16,1,[],0⟩,⟨18,1,[],0⟩,⟨1,1,[100],0⟩,⟨19,1,[],0⟩,⟨25,1,[],0⟩,⟨0,1,[],0⟩]
def Jo(r:Int):List UInt8:=Ul++(Dw r++[41,59])
def M3(r:Int):List Tk:=Um++(J2 r++[⟨19,1,[],0⟩,⟨25,1,[],0⟩])
def Mk(rs:List Int)(k v:Int):List UInt8:=Li++(rs.flatMap Jo++(Pm++(Dw k++44::32::(Dw v++(Mc++(Dw k++Lj))))))
def Ox(rs:List Int)(k v:Int):List Tk:=Sd++(rs.flatMap M3++(Xx++(J2 k++⟨24,1,[],0⟩::(J2 v++(Xy++(J2 k++Xz))))))
theorem Afj(s:List UInt8)(f:Nat):lex (f+55) (Li++32::s) 1 false=Jh Sd (lex f (32::s) 1 false):=by kernel_rfl
theorem Afo(d:UInt8)(s:List UInt8)(f:Nat):lex (f+6) (Ul++d::s) 1 false=Jh Um (lex f (d::s) 1 false):=by kernel_rfl
theorem Afn(s:List UInt8)(f:Nat):lex (f+2) (41::59::32::s) 1 false=Jh [⟨19,1,[],0⟩,⟨25,1,[],0⟩] (lex f (32::s) 1 false):=by kernel_rfl
theorem Afk(d:UInt8)(s:List UInt8)(f:Nat):lex (f+39) (Pm++d::s) 1 false=Jh Xx (lex f (d::s) 1 false):=by kernel_rfl
theorem Afl(d:UInt8)(s:List UInt8)(f:Nat):lex (f+15) (Mc++d::s) 1 false=Jh Xy (lex f (d::s) 1 false):=by kernel_rfl
theorem Afm(f:Nat):lex (f+61) Lj 1 false=.inr Xz:=by kernel_rfl
theorem Afg(r:Int)(hr:Cf r)(s:List UInt8):∃k,∀f,lex (f+k) (Jo r++32::s) 1 false=Jh (M3 r) (lex f (32::s) 1 false):=by
 obtain⟨d,t,hd⟩:=W5 r;obtain⟨k1,e1⟩:=U1 r hr.1 hr.2 41 (59::32::s) z52a;refine⟨2+k1+6,fun f=>?_⟩;have q:=Afo d (t++41::59::32::s) (f+2+k1);rw[←List.cons_append,←hd,e1,Afn]at q;unfold Jo M3;rw[List.append_assoc,List.append_assoc,List.cons_append,List.cons_append,List.nil_append,show f+(2+k1+6)=f+2+k1+6 by omega,q,Sn,Sn]
theorem Afh(s:List UInt8):∀(rs:List Int),(∀r∈rs,Cf r)->∃t k,rs.flatMap Jo++32::s=32::t/\∀f,lex (f+k) (32::t) 1 false=Jh (rs.flatMap M3) (lex f (32::s) 1 false):=by
 intro rs;induction rs with
 | nil=>intro _;exact⟨s,0,rfl,fun f=>rfl⟩
 | cons r rs ih=>
  intro h;obtain⟨t,k,e,hk⟩:=ih (fun x hx=>h x (by simp[hx]));obtain⟨k2,h2⟩:=Afg r (h r z56a) t;rw[List.flatMap_cons,List.append_assoc,e];refine⟨_,k+k2,show Jo r++32::t=32::(Jo r++32::t).tail from rfl,fun f=>?_⟩;show lex (f+(k+k2)) (Jo r++32::t) 1 false=_;rw[←Nat.add_assoc,h2,hk,List.flatMap_cons,Sn]
theorem A19(rs:List Int)(k v:Int)(hr:∀r∈rs,Cf r)(hk:Cf k)(hv:Cf v)(f:Nat)(hf:(Mk rs k v).length<f):lex f (Mk rs k v) 1 false=.inr (Ox rs k v):=by
 obtain⟨d,s,hd⟩:=W5 k;obtain⟨d',s',hd'⟩:=W5 v;have e3:Lj=93::Lj.tail:=rfl;have e2:Mc=41::Mc.tail:=rfl;have e1':Pm=32::Pm.tail:=rfl;obtain⟨k1,e1⟩:=U1 k hk.1 hk.2 93 Lj.tail z52a;rw[←e3]at e1;have q2:=fun f=>Afl d (s++Lj) f;rw[←List.cons_append,←hd]at q2;obtain⟨k3,e4⟩:=U1 v hv.1 hv.2 41 (Mc.tail++(Dw k++Lj)) z52a;rw[←List.cons_append,←e2]at e4;have q5:=fun f=>Afi d' (s'++(Mc++(Dw k++Lj))) f;rw[←List.cons_append,←hd']at q5;obtain⟨k6,e6⟩:=U1 k hk.1 hk.2 44 (32::(Dw v++(Mc++(Dw k++Lj)))) z52a;have q7:=fun f=>Afk d (s++44::32::(Dw v++(Mc++(Dw k++Lj)))) f;rw[←List.cons_append,←hd]at q7;obtain⟨t,k8,e8,h8⟩:=Afh (Pm.tail++(Dw k++44::32::(Dw v++(Mc++(Dw k++Lj))))) rs hr;rw[←List.cons_append,←e1']at e8 h8;have q9:=fun f=>Afj t f;rw[←e8]at q9 h8;rw[Xb f (f+61+k1+15+k3+2+k6+39+k8+55) _ _ _ hf z51a];unfold Mk;rw[q9,h8,q7,e6,q5,e4,q2,e1,Afm];simp only[Aos,Ox,List.cons_append,List.nil_append]
def Q8:Tk:=⟨0,1,[],0⟩
def S8(ts:List Tk):BT A6:=match Ai 500 10 0 .nil ⟨ts,0⟩ with
 | some r=>r.1
 | none=>.nil
def Qx:BT A6->List (BT A6)
 | .nil=>[]
 | .node x y l c r=>.node x y l c .nil::Qx r
theorem P2(f g h:BT A6):C4 (C4 f g) h=C4 f (C4 g h):=by
 induction f with
 | nil=>rfl
 | node x y l c r _ ih=>rw[C4,C4,C4,ih]
theorem A42(t:BT A6):∀acc,(Qx t).foldl C4 acc=C4 acc t:=by
 induction t with
 | nil=>intro acc;rw[Qx,List.foldl_nil];induction acc with
  | nil=>rfl
  | node x y l c r _ ih=>rw[C4,←ih]
 | node x y l c r _ ih=>intro acc;rw[Qx,List.foldl_cons,ih,P2];rfl
def Re(r:Int):BT A6:=if r<0 then nd (Bb 8 1) (nd (Bb 135 1) (C4 (nd (Bb 14 1) (nd ⟨1,1,[],-(r+1),[]⟩ .nil)) (nd ⟨1,1,[],1,[]⟩ .nil))) else nd ⟨1,1,[],r,[]⟩ .nil
def Nx(r:Int):BT A6:=nd (Bb 30 1) (nd (Bb 11 1) (C4 (nd ⟨6,1,[97],0,[]⟩ .nil) (Re r)))
def Lg:List Int->BT A6
 | []=>.nil
 | r::rs=>C4 (Nx r) (Lg rs)
def Uj:List Tk:=[⟨4,1,[],0⟩,⟨1,1,[115,101,116],0⟩,⟨18,1,[],0⟩,⟨1,1,[97],0⟩,⟨24,1,[],0⟩,⟨1,1,[105],0⟩,⟨24,1,[],0⟩,⟨1,1,[118],0⟩,⟨19,1,[],0⟩,⟨20,1,[],0⟩,⟨1,1,[97],0⟩,⟨22,1,[],0⟩,⟨1,1,[105],0⟩,⟨23,1,[],0⟩,⟨26,1,[],0⟩,⟨1,1,[118],0⟩,⟨25,1,[],0⟩,⟨17,1,[],0⟩,⟨18,1,[],0⟩,⟨1,1,[97],0⟩,⟨24,1,[],0⟩,⟨1,1,[118],0⟩,⟨19,1,[],0⟩,⟨25,1,[],0⟩,⟨9,1,[],0⟩,⟨1,1,[97],0⟩,⟨27,1,[],0⟩,⟨1,1,[97],0⟩,⟨25,1,[],0⟩,⟨21,1,[],0⟩]
def Uk:List Tk:=[⟨5,1,[],0⟩,⟨1,1,[97],0⟩,⟨26,1,[],0⟩,⟨22,1,[],0⟩,⟨2,1,[],0⟩,⟨23,1,[],0⟩,⟨25,1,[],0⟩]
def Mh(ks vs:List Tk):List Tk:=Xx++(ks++⟨24,1,[],0⟩::(vs++(Xy++(ks++Xz))))
def Qd:BT A6:=S8 (Uj++[Q8])
def Qf:BT A6:=S8 (Uk++[Q8])
def Mi(k v:Int):BT A6:=S8 (Mh [⟨2,1,[],k⟩] (J2 v))
def Mj(rs:List Int)(k v:Int):BT A6:=C4 Qd (C4 Qf (C4 (Lg rs) (Mi k v)))
def Ra:List Af:=[⟨1,0,0,Ab⟩,⟨1,1,0,Ab⟩,⟨1,2,0,Ab⟩,⟨40,0,1,Ab⟩,⟨1,0,0,Ab⟩,⟨1,2,0,Ab⟩,⟨38,0,1,Ab⟩,⟨5,0,0,Ab⟩,⟨1,0,0,Ab⟩,⟨1,0,0,Ab⟩,⟨25,0,1,Ab⟩,⟨44,0,0,Ab⟩,⟨43,0,0,Ab⟩]
def Rn:Fn:=⟨[115,101,116],3,3,Ra⟩
def Pk(r:Int):List Af:=⟨2,0,0,Ab⟩::(Jx r++[⟨38,0,1,Ab⟩,⟨5,0,0,Ab⟩])
def Xa:List Af:=[⟨0,0,0,ofInt 0⟩,⟨36,1,1,Ab⟩,⟨4,0,0,Ab⟩]
def Yf(k:Int):List Af:=[⟨2,0,0,Ab⟩,⟨4,1,0,Ab⟩,⟨2,0,0,Ab⟩,⟨36,1,1,Ab⟩,⟨4,2,0,Ab⟩,⟨0,0,0,ofInt 0⟩,⟨36,1,1,Ab⟩,⟨4,3,0,Ab⟩,⟨2,1,0,Ab⟩,⟨0,0,0,ofInt k⟩]
def Yg(k:Int):List Af:=[⟨42,0,1,Ab⟩,⟨41,0,1,Ab⟩,⟨2,0,0,Ab⟩,⟨37,0,1,Ab⟩,⟨41,0,1,Ab⟩,⟨2,0,0,Ab⟩,⟨0,0,0,ofInt k⟩,⟨39,0,1,Ab⟩,⟨41,0,1,Ab⟩,⟨2,2,0,Ab⟩,⟨0,0,0,ofInt 0⟩,⟨39,0,1,Ab⟩,⟨2,1,0,Ab⟩,⟨37,0,1,Ab⟩,⟨0,0,0,ofInt 1⟩,⟨15,0,1,Ab⟩,⟨39,0,1,Ab⟩,⟨41,0,1,Ab⟩,⟨2,0,0,Ab⟩,⟨2,1,0,Ab⟩,⟨25,0,1,Ab⟩,⟨41,0,1,Ab⟩,⟨2,2,0,Ab⟩,⟨0,0,0,ofInt 0⟩,⟨39,0,1,Ab⟩,⟨2,0,0,Ab⟩,⟨25,0,1,Ab⟩,⟨41,0,1,Ab⟩,⟨2,3,0,Ab⟩,⟨0,0,0,ofInt 0⟩,⟨36,1,1,Ab⟩,⟨25,0,1,Ab⟩,⟨41,0,1,Ab⟩,⟨2,3,0,Ab⟩,⟨37,0,1,Ab⟩,⟨41,0,1,Ab⟩]
def V0(k v:Int):List Af:=Yf k++(Jx v++Yg k)
def J3(rs:List Int)(k v:Int):Dl:=⟨4,0,Xa++(rs.flatMap Pk++V0 k v),[Rn]⟩
def Uv(st l:List Af):List Af:=l.foldl (fun s i=>s++[i]) st
theorem A40(l:List Af):∀st,Uv st l=st++l:=by
 unfold Uv;induction l with
 | nil=>intro st;simp
 | cons i r ih=>intro st;rw[List.foldl_cons,ih];simp
theorem A2x{n:Nat}{acc c:BT A6}{ts rest:List Tk}(h0:(ts.headD Ig).k≠0)(h4:(ts.headD Ig).k≠4)(h:Ai n 9 0 .nil ⟨ts,0⟩=some (c,⟨rest,0⟩)):Ai (n+1) 10 0 acc ⟨ts,0⟩=Ai n 10 0 (C4 acc c) ⟨rest,0⟩:=by
 rw[Ai,if_neg z52a,if_neg z52a,if_neg z52a,if_neg z52a,if_neg z52a,if_neg z52a,if_neg z52a,if_neg z52a,if_neg z52a,if_neg z52a,if_pos rfl,if_neg (by exact h0),if_neg (by exact h4),h];rfl
theorem Amg(n:Nat)(r:Int)(rest:List Tk):Ai (n+59) 9 0 .nil ⟨Um++([⟨2,1,[],r⟩]++[⟨19,1,[],0⟩,⟨25,1,[],0⟩])++rest,0⟩=some (nd (Bb 30 1) (nd (Bb 11 1) (C4 (nd ⟨6,1,[97],0,[]⟩ .nil) (nd ⟨1,1,[],r,[]⟩ .nil))),⟨rest,0⟩):=by kernel_rfl
theorem Amh(n:Nat)(r:Int)(rest:List Tk):Ai (n+59) 9 0 .nil ⟨Um++([⟨18,1,[],0⟩,⟨35,1,[],0⟩,⟨2,1,[],r⟩,⟨35,1,[],0⟩,⟨2,1,[],1⟩,⟨19,1,[],0⟩]++[⟨19,1,[],0⟩,⟨25,1,[],0⟩])++rest,0⟩=some (nd (Bb 30 1) (nd (Bb 11 1) (C4 (nd ⟨6,1,[97],0,[]⟩ .nil) (nd (Bb 8 1) (nd (Bb 135 1) (C4 (nd (Bb 14 1) (nd ⟨1,1,[],r,[]⟩ .nil)) (nd ⟨1,1,[],1,[]⟩ .nil)))))),⟨rest,0⟩):=by kernel_rfl
theorem Ags(n:Nat)(r:Int)(acc:BT A6)(rest:List Tk):Ai (n+60) 10 0 acc ⟨M3 r++rest,0⟩=Ai (n+59) 10 0 (C4 acc (Nx r)) ⟨rest,0⟩:=by
 refine A2x (by show(17:Nat)≠0;omega) (by show(17:Nat)≠4;omega) ?_;unfold M3 Nx J2 Re;by_cases h:r<0
 ·rw[if_pos h,if_pos h];exact Amh n _ rest
 ·rw[if_neg h,if_neg h];exact Amg n _ rest
theorem Agt(rest:List Tk):∀(rs:List Int) (n:Nat) (acc:BT A6),Ai (n+60+rs.length) 10 0 acc ⟨rs.flatMap M3++rest,0⟩=Ai (n+60) 10 0 (C4 acc (Lg rs)) ⟨rest,0⟩:=by
 intro rs;induction rs with
 | nil=>
  intro n acc;have:C4 acc (Lg [])=acc:=(A42 .nil acc).symm;rw[this];rfl
 | cons r rs ih=>
  intro n acc;rw[List.flatMap_cons,List.append_assoc,List.length_cons,show n+60+(rs.length+1)=(n+rs.length+1)+60 by omega,Ags,show n+rs.length+1+59=n+60+rs.length by omega,ih,P2];rfl
theorem Agv(n:Nat)(k v:Int)(acc:BT A6):Ai (n+100) 10 0 acc ⟨Mh [⟨2,1,[],k⟩] [⟨2,1,[],v⟩],0⟩=some ((Qx (S8 (Mh [⟨2,1,[],k⟩] [⟨2,1,[],v⟩]))).foldl C4 acc,⟨[Q8],0⟩):=by kernel_rfl
theorem Agw(n:Nat)(k v:Int)(acc:BT A6):Ai (n+100) 10 0 acc ⟨Mh [⟨2,1,[],k⟩] [⟨18,1,[],0⟩,⟨35,1,[],0⟩,⟨2,1,[],v⟩,⟨35,1,[],0⟩,⟨2,1,[],1⟩,⟨19,1,[],0⟩],0⟩=some ((Qx (S8 (Mh [⟨2,1,[],k⟩] [⟨18,1,[],0⟩,⟨35,1,[],0⟩,⟨2,1,[],v⟩,⟨35,1,[],0⟩,⟨2,1,[],1⟩,⟨19,1,[],0⟩]))).foldl C4 acc,⟨[Q8],0⟩):=by kernel_rfl
theorem Agu(n:Nat)(k v:Int)(acc:BT A6):Ai (n+100) 10 0 acc ⟨Mh [⟨2,1,[],k⟩] (J2 v),0⟩=some (C4 acc (Mi k v),⟨[Q8],0⟩):=by
 unfold Mi;rw[←A42];unfold J2;by_cases h:v<0
 ·rw[if_pos h];exact Agw n k _ acc
 ·rw[if_neg h];exact Agv n k _ acc
theorem Ahl{n:Nat}{acc c:BT A6}{ts rest:List Tk}(h4:(ts.headD Ig).k=4)(h:Ai n 11 0 .nil ⟨ts,0⟩=some (c,⟨rest,0⟩)):Ai (n+1) 10 0 acc ⟨ts,0⟩=Ai n 10 0 (C4 acc c) ⟨rest,0⟩:=by
 have h0:(ts.headD Ig).k≠0:=by rw[h4];decide
 rw[Ai,if_neg z52a,if_neg z52a,if_neg z52a,if_neg z52a,if_neg z52a,if_neg z52a,if_neg z52a,if_neg z52a,if_neg z52a,if_neg z52a,if_pos rfl,if_neg (by exact h0),if_pos (by exact h4),h];rfl
theorem Agq(n:Nat)(rest:List Tk):Ai (n+60) 11 0 .nil ⟨Uj++rest,0⟩=some (Qd,⟨rest,0⟩):=by kernel_rfl
theorem Agr(n:Nat)(rest:List Tk):Ai (n+60) 9 0 .nil ⟨Uk++rest,0⟩=some (Qf,⟨rest,0⟩):=by kernel_rfl
theorem A20(rs:List Int)(k v:Int)(hl:rs.length<=20)(hk:0<=k):Ai 100000 10 0 .nil ⟨Ox rs k v,0⟩=some (Mj rs k v,⟨[Q8],0⟩):=by
 have e:Ox rs k v=Uj++(Uk++(rs.flatMap M3++Mh [⟨2,1,[],k⟩] (J2 v))):=by
  unfold Ox Mh;rw[show Sd=Uj++Uk from rfl,List.append_assoc,show J2 k=[⟨2,1,[],k⟩] from if_neg z51a]
 rw[e,show 100000=(99939+60)+1 from rfl,Ahl rfl (Agq 99939 _),show 99939+60=(99938+60)+1 from rfl,A2x (by show(5:Nat)≠0;omega) (by show(5:Nat)≠4;omega) (Agr 99938 _),show 99938+60=(99938-rs.length)+60+rs.length by omega,Agt,show 99938-rs.length+60=(99898-rs.length)+100 by omega,Agu];unfold Mj;rw[P2,P2];rfl
theorem Ag1(r:Int)(rest:List Tk):nest (M3 r++rest) 0=nest rest 0:=by
 unfold M3 J2;by_cases h:r<0
 ·rw[if_pos h];rfl
 ·rw[if_neg h];rfl
theorem Ag2(rest:List Tk):∀rs:List Int,nest (rs.flatMap M3++rest) 0=nest rest 0:=by
 intro rs;induction rs with
 | nil=>rfl
 | cons r rs ih=>rw[List.flatMap_cons,List.append_assoc,Ag1,ih]
theorem Ag4(k v:Int):nest (Mh [⟨2,1,[],k⟩] (J2 v)) 0=0:=by
 unfold J2;by_cases h:v<0
 ·rw[if_pos h];rfl
 ·rw[if_neg h];rfl
theorem Ag3(rs:List Int)(k v:Int)(hk:0<=k):nest (Ox rs k v) 0=0:=by
 have e:Ox rs k v=Sd++(rs.flatMap M3++Mh [⟨2,1,[],k⟩] (J2 v)):=by
  unfold Ox Mh;rw[show J2 k=[⟨2,1,[],k⟩] from if_neg z51a]
 rw[e,show ∀rest,nest (Sd++rest) 0=nest rest 0 from fun _=>rfl,Ag2,Ag4]
def K8:List (Nm×Nat):=[([115,101,116],3)]
theorem Ad2(x:BT A6):∀rs:List Int,Cu (C4 (Lg rs) x)=Cu x:=by
 intro rs;induction rs with
 | nil=>rfl
 | cons r rs ih=>rw[Lg,P2];exact ih
theorem z4va {P:Prop} (h:P:=by
  unfold Mi J2;by_cases h:v<0
  ·rw[if_pos h];kernel_rfl
  ·rw[if_neg h];kernel_rfl):P:=h
theorem Ad3(k v:Int):Cu (Mi k v)=[]:=by
 exact z4va
theorem A0n(rs:List Int)(k v:Int):Cu (Mj rs k v)=K8:=by
 unfold Mj;have e:∀x,Cu (C4 Qd (C4 Qf x))=([115,101,116],3)::Cu x:=fun x=>by kernel_rfl
 rw[e,Ad2,Ad3];rfl
theorem Akb(r:Int)(x:BT A6):Et K8 (C4 (Nx r) x) [[115,101,116]] [[97]] (0,0)=Et K8 x [[115,101,116]] [[97]] (0,0):=by
 unfold Nx Re;by_cases h:r<0
 ·rw[if_pos h];kernel_rfl
 ·rw[if_neg h];kernel_rfl
theorem Akc(x:BT A6):∀rs:List Int,Et K8 (C4 (Lg rs) x) [[115,101,116]] [[97]] (0,0)=Et K8 x [[115,101,116]] [[97]] (0,0):=by
 intro rs;induction rs with
 | nil=>rfl
 | cons r rs ih=>rw[Lg,P2,Akb,ih]
theorem Ake(k v:Int):Et K8 (Mi k v) [[115,101,116]] [[97]] (0,0)=(0,0):=by
 exact z4va
theorem Ak9(x:BT A6):Et K8 (C4 Qd (C4 Qf x)) [] [] (0,0)=Et K8 x [[115,101,116]] [[97]] (0,0):=by kernel_rfl
theorem Akd(rs:List Int)(k v:Int):Et K8 (Mj rs k v) [] [] (0,0)=(0,0):=by
 unfold Mj;rw[Ak9,Akc,Ake]
theorem Aby(r:Int)(x:BT A6)(fs:List Fn)(st:List Af):Kw K8 (C4 (Nx r) x) [[97]] fs ⟨[],0,st,[]⟩=Kw K8 x [[97]] fs ⟨[],0,Uv st (Pk r),[]⟩:=by
 unfold Nx Re Pk Jx;by_cases h:r<0
 ·rw[if_pos h,if_pos h];kernel_rfl
 ·rw[if_neg h,if_neg h];kernel_rfl
theorem Abz(x:BT A6)(fs:List Fn):∀(rs:List Int) (st:List Af),Kw K8 (C4 (Lg rs) x) [[97]] fs ⟨[],0,st,[]⟩=Kw K8 x [[97]] fs ⟨[],0,st++rs.flatMap Pk,[]⟩:=by
 intro rs;induction rs with
 | nil=>intro st;simp[Lg,C4]
 | cons r rs ih=>intro st;rw[Lg,P2,Aby,ih,A40,List.flatMap_cons,List.append_assoc]
theorem Ac0(k v:Int)(fs:List Fn)(st:List Af):Kw K8 (Mi k v) [[97]] fs ⟨[],0,st,[]⟩=⟨4,0,Uv st (V0 k v),fs⟩:=by
 unfold Mi J2 V0 Jx;by_cases h:v<0
 ·rw[if_pos h,if_pos h];kernel_rfl
 ·rw[if_neg h,if_neg h];kernel_rfl
theorem em0(x:BT A6):Kw K8 (C4 Qd (C4 Qf x)) [] [] ⟨[],0,[],[]⟩=Kw K8 x [[97]] [Rn] ⟨[],0,Xa,[]⟩:=by kernel_rfl
theorem emS(rs:List Int)(k v:Int):Np (Mj rs k v)=J3 rs k v:=by
 unfold Np;rw[A0n];unfold Mj;rw[em0,Abz,Ac0,A40];unfold J3;rw[List.append_assoc]
theorem Ajp(r:Int)(hr:Cf r):(Jo r).length<=35:=by
 have:=Ob r hr.1 hr.2;have h0:Ul.length=9:=rfl;simp only[Jo,List.length_append,List.length_cons,List.length_nil,h0];omega
theorem Y0:∀rs:List Int,(∀r∈rs,Cf r)->(rs.flatMap Jo).length<=35*rs.length:=by
 intro rs;induction rs with
 | nil=>intro _;simp
 | cons r rs ih=>
  intro h;have:=ih (fun x hx=>h x (by simp[hx]));have:=Ajp r (h r z56a);rw[List.flatMap_cons,List.length_append,List.length_cons];omega
theorem Ap7(rs:List Int)(k v:Int)(hl:rs.length<=12)(hr:∀r∈rs,Cf r)(hk:Cf k)(hv:Cf v):(Mk rs k v).length<=2000:=by
 have:=Y0 rs hr;have:=Ob k hk.1 hk.2;have:=Ob v hv.1 hv.2;have h0:Li.length+Pm.length+Mc.length+Lj.length=232:=by kernel_rfl
 simp only[Mk,List.length_append,List.length_cons];omega
theorem Ap5(rs:List Int)(k v:Int)(hl:rs.length<=12)(hr:∀r∈rs,Cf r)(hk0:0<=k)(hk:Cf k)(hv:Cf v):∃c,Hh (Mk rs k v)=((0,0),some c)/\Np c=J3 rs k v:=by
 refine⟨Mj rs k v,?_,emS rs k v⟩;unfold Hh;rw[if_neg (by have:=Ap7 rs k v hl hr hk hv;omega),A19 rs k v hr hk hv _ (Nat.lt_succ_self _)];simp only[A20 rs k v z51a hk0,Ag3 rs k v hk0,A0n,Akd,ne_eq,not_true_eq_false,if_false]
end
section
open Go.Deep (BT)
variable {P:Dl} {bets:List Dc}
def Kq(P:Dl)(bets:List Dc)(k:Nat)(m m':MS):Prop:=(∀n,J1 P bets (n+k) m=J1 P bets n m')/\∀n,nice P bets n m'->nice P bets (n+k) m
theorem Kq.refl(m:MS):Kq P bets 0 m m:=⟨fun _=>rfl,fun _ h=>h⟩
theorem Kq.trans{k j:Nat}{x y z:MS}(h1:Kq P bets k x y)(h2:Kq P bets j y z):Kq P bets (j+k) x z:=by
 refine⟨fun n=>?_,fun n h=>?_⟩
 ·rw[←Nat.add_assoc,h1.1,h2.1]
 ·rw[←Nat.add_assoc];exact h1.2 _ (h2.2 n h)
theorem Kq.one{m:MS}{i:Af}(hc:m.code=0)(hi:m.now.steps[m.now.pc]?=some i)(hn:U4 i m):Kq P bets 1 m (N2 P bets i m):=by
 refine⟨fun n=>?_,fun n h=>?_⟩
 ·rw[J1,if_neg (by rw[hc];simp),hi]
 ·intro _ j hj;rw[hi]at hj;injection hj with hj;rw[←hj];exact⟨hn,h⟩
def F4(m:MS)(S:List Af)(pc:Nat):MS:={ m with now:=⟨S,pc,m.now.base⟩ }
def Yu(S:List Af)(pc:Nat)(c:List Af):Prop:=∀j i,c[j]?=some i->S[pc+j]?=some i
def Bo(P:Dl)(bets:List Dc)(k:Nat)(c:List Af)(m m':MS):Prop:=∀S pc,Yu S pc c->Kq P bets k (F4 m S pc) (F4 m' S (pc+c.length))
theorem Bo.seq{k j:Nat}{c d:List Af}{x y z:MS}(h1:Bo P bets k c x y)(h2:Bo P bets j d y z):Bo P bets (j+k) (c++d) x z:=by
 intro S pc h;have a1:=h1 S pc (fun q i hq=>h q i (by rw[List.getElem?_append_left (List.getElem?_eq_some_iff.1 hq).1];exact hq));have a2:=h2 S (pc+c.length) (fun q i hq=>by rw[Nat.add_assoc];exact h _ i (by rw[List.getElem?_append_right z51a,Nat.add_sub_cancel_left];exact hq));rw[List.length_append,←Nat.add_assoc];exact a1.trans a2
theorem Bo.nil(m:MS):Bo P bets 0 [] m m:=fun _ _ _=>Kq.refl _
theorem Bo.one{i:Af}{m m':MS}(hc:m.code=0)(hn:Nu i m=true)(h:∀S pc,B1 P bets i (F4 m S pc)=F4 m' S pc):Bo P bets 1 [i] m m':=by
 intro S pc hp;have:=Kq.one (P:=P) (bets:=bets) (m:=F4 m S pc) hc (hp 0 i rfl) (U5 hn);have e:N2 P bets i (F4 m S pc)=F4 m' S (pc+1):=h S (pc+1);rw[e]at this;exact this
def cs(V gl:List PV)(arr:List (List PV))(cells fuel:Nat)(o:List (List UInt8))(calls:List Fr)(lots:List Ey)(f:Fr):MS:=⟨V,gl,calls,f,fuel,cells,o,0,0,arr,lots⟩
variable {V gl:List PV} {arr:List (List PV)} {cells fuel:Nat} {o:List (List UInt8)} {calls:List Fr} {lots:List Ey} {f:Fr}
theorem a36(m:MS):B1 P bets ⟨36,1,1,Ab⟩ m=MS.room 1 ⟨36,1,1,Ab⟩ m (fun m'=>MS.push (Ae m'.arr.length) { (MS.cut ((m'.vals.length:Int)-1) m') with arr:=m'.arr++[(List.range (1:Int).toNat).map (fun(j:Nat)=>m'.at' ((m'.vals.length:Int)-1+j))] }):=rfl
theorem a37(m:MS):B1 P bets ⟨37,0,1,Ab⟩ m=(match sizeOf' m m.top with|some n=>m.pop.push (ofInt (n:Nat))|none=>m.pop.fail 5 ⟨37,0,1,Ab⟩):=rfl
theorem a38(m:MS):B1 P bets ⟨38,0,1,Ab⟩ m=(if m.pop.top.k=4 then MS.room 1 ⟨38,0,1,Ab⟩ m.pop.pop (fun m2=>MS.push m.top { m2 with arr:=m2.arr.modify (m.pop.top.r.getD 0) (·++[m.top]) }) else m.pop.pop.fail 5 ⟨38,0,1,Ab⟩):=rfl
theorem a39(m:MS):B1 P bets ⟨39,0,1,Ab⟩ m=MS.place m.pop.top m.top ⟨39,0,1,Ab⟩ m.pop.pop (fun m2=>m2.push (if m.pop.top.k=3 then ofStr ((m.pop.top.t.drop m.top.n.toNat).take 1) else(((m2.arr[m.pop.top.r.getD 0]?).getD [])[m.top.n.toNat]?).getD Ab)):=rfl
theorem a40(m:MS):B1 P bets ⟨40,0,1,Ab⟩ m=(if m.pop.pop.top.k=4 then MS.place m.pop.pop.top m.pop.top ⟨40,0,1,Ab⟩ m.pop.pop.pop (fun m2=>{ m2 with arr:=m2.arr.modify (m.pop.pop.top.r.getD 0) (·.set m.pop.top.n.toNat m.top) }) else m.pop.pop.pop.fail 5 ⟨40,0,1,Ab⟩):=rfl
theorem a25(m:MS):B1 P bets ⟨25,0,1,Ab⟩ m=m.pop.pop.push (ofBool (m.pop.top.same m.top)):=rfl
theorem a15(m:MS):B1 P bets ⟨15,0,1,Ab⟩ m=(if m.both 2 then m.pop.pop.push (ofInt (wr (m.pop.top.n-m.top.n))) else m.fail 5 ⟨15,0,1,Ab⟩):=rfl
theorem a23(m:MS):B1 P bets ⟨23,0,1,Ab⟩ m=(if m.top.k=2 then m.pop.push (ofInt (wr (-m.top.n))) else m.fail 5 ⟨23,0,1,Ab⟩):=rfl
theorem K6(v:PV)(S:List Af)(pc:Nat):(F4 (cs (V++[v]) gl arr cells fuel o calls lots f) S pc).top=v:=by simp[MS.top,F4,cs]
theorem K5(v:PV)(S:List Af)(pc:Nat):(F4 (cs (V++[v]) gl arr cells fuel o calls lots f) S pc).pop=F4 (cs V gl arr cells fuel o calls lots f) S pc:=by simp[MS.pop,F4,cs]
theorem M1(v:PV):Bo P bets 1 [⟨0,0,0,v⟩] (cs V gl arr cells fuel o calls lots f) (cs (V++[v]) gl arr cells fuel o calls lots f):=Bo.one rfl rfl (fun _ _=>rfl)
theorem L1{g:Nat}{v:PV}(h:gl[g]?=some v):Bo P bets 1 [⟨2,(g:Nat),0,Ab⟩] (cs V gl arr cells fuel o calls lots f) (cs (V++[v]) gl arr cells fuel o calls lots f):=by
 have hl:=(List.getElem?_eq_some_iff.1 h).1;refine Bo.one rfl (by simp[Nu,cs,hl]) (fun S pc=>?_);show MS.push ((gl[((g:Nat):Int).toNat]?).getD Ab) (F4 (cs V gl arr cells fuel o calls lots f) S pc)=_;rw[Int.toNat_natCast,h];rfl
theorem Uf{g:Nat}{v:PV}(h:g<gl.length):Bo P bets 1 [⟨4,(g:Nat),0,Ab⟩] (cs (V++[v]) gl arr cells fuel o calls lots f) (cs V (gl.set g v) arr cells fuel o calls lots f):=by
 refine Bo.one rfl (by simp[Nu,cs,h]) (fun S pc=>?_);show { MS.pop (F4 (cs (V++[v]) gl arr cells fuel o calls lots f) S pc) with gl:=gl.set ((g:Nat):Int).toNat (F4 (cs (V++[v]) gl arr cells fuel o calls lots f) S pc).top }=_;rw[Int.toNat_natCast,K6,K5];rfl
theorem A36{v:PV}:Bo P bets 1 [⟨5,0,0,Ab⟩] (cs (V++[v]) gl arr cells fuel o calls lots f) (cs V gl arr cells fuel o calls lots f):=Bo.one rfl rfl (fun S pc=>K5 v S pc)
theorem Ue{v:PV}(h:cells+1<=500):Bo P bets 1 [⟨36,1,1,Ab⟩] (cs (V++[v]) gl arr cells fuel o calls lots f) (cs (V++[Ae arr.length]) gl (arr++[[v]]) (cells+1) fuel o calls lots f):=by
 refine Bo.one rfl (by simp[Nu,cs]) (fun S pc=>?_);rw[a36];unfold MS.room;rw[if_neg (by show ¬(500:Int)-(cells:Nat)<1;omega)];have hv:¬((V.length:Int)<0):=by omega
 simp[MS.push,MS.cut,MS.at',F4,cs,List.range,List.range.loop,hv]
theorem A39{v:PV}{r:Nat}(h:cells+1<=500):Bo P bets 1 [⟨38,0,1,Ab⟩] (cs (V++[Ae r]++[v]) gl arr cells fuel o calls lots f) (cs (V++[v]) gl (arr.modify r (·++[v])) (cells+1) fuel o calls lots f):=by
 refine Bo.one rfl rfl (fun S pc=>?_);rw[a38,K6,K5,K6,K5,if_pos (show(Ae r).k=4 from rfl)];unfold MS.room;rw[if_neg (by show ¬(500:Int)-(cells:Nat)<1;omega)];rfl
theorem A3a{v:PV}{l:List UInt8}(ht:Fs arr 4 [] v=l)(hk:v.k≠4)(hl:l.length<=500)(ho:o.length<100):Bo P bets 1 [⟨41,0,1,Ab⟩] (cs (V++[v]) gl arr cells fuel o calls lots f) (cs V gl arr cells fuel (o++[l]) calls lots f):=by
 refine Bo.one rfl (by simp[Nu,cs,MS.top,hk]) (fun S pc=>?_);show MS.Md _ _=_;unfold MS.Md;rw[K6,K5,show(F4 (cs (V++[v]) gl arr cells fuel o calls lots f) S pc).arr=arr from rfl,show(F4 (cs (V++[v]) gl arr cells fuel o calls lots f) S pc).out=o from rfl,ht,if_neg z51a];rfl
theorem z4ea {P:Prop} (h:P:=by
  show some ((arr[r]?).getD []).length=_;rw[h];rfl):P:=h
theorem A37{r:Nat}{L:List PV}(h:arr[r]?=some L):Bo P bets 1 [⟨37,0,1,Ab⟩] (cs (V++[Ae r]) gl arr cells fuel o calls lots f) (cs (V++[ofInt (L.length:Nat)]) gl arr cells fuel o calls lots f):=by
 refine Bo.one rfl rfl (fun S pc=>?_);rw[a37,K6,K5];have e:sizeOf' (F4 (cs (V++[Ae r]) gl arr cells fuel o calls lots f) S pc) (Ae r)=some L.length:=by
  exact z4ea
 rw[e];rfl
theorem Ud{r j:Nat}{L:List PV}{x:PV}(h:arr[r]?=some L)(hj:L[j]?=some x):Bo P bets 1 [⟨39,0,1,Ab⟩] (cs (V++[Ae r]++[ofInt (j:Nat)]) gl arr cells fuel o calls lots f) (cs (V++[x]) gl arr cells fuel o calls lots f):=by
 have hl:=(List.getElem?_eq_some_iff.1 hj).1;refine Bo.one rfl (by simp[Nu,cs,MS.top,MS.pop,Ae]) (fun S pc=>?_);rw[a39,K6,K5,K6,K5];unfold MS.place;have e:sizeOf' (F4 (cs V gl arr cells fuel o calls lots f) S pc) (Ae r)=some L.length:=by
  exact z4ea
 rw[e];dsimp only;rw[if_neg (by simp[ofInt]),if_neg (by show ¬((j:Int)<0\/(L.length:Int)<=(j:Int));omega),if_neg (by simp[Ae])];show MS.push (((((arr)[r]?).getD [])[((j:Nat):Int).toNat]?).getD Ab) _=_;rw[h,Int.toNat_natCast,Option.getD_some,hj];rfl
theorem Aj0{r j:Nat}{L:List PV}{v:PV}(h:arr[r]?=some L)(hj:j<L.length):Bo P bets 1 [⟨40,0,1,Ab⟩] (cs (V++[Ae r]++[ofInt (j:Nat)]++[v]) gl arr cells fuel o calls lots f) (cs V gl (arr.modify r (·.set j v)) cells fuel o calls lots f):=by
 refine Bo.one rfl rfl (fun S pc=>?_);rw[a40,K6,K5,K6,K5,K6,K5,if_pos (show(Ae r).k=4 from rfl)];unfold MS.place;have e:sizeOf' (F4 (cs V gl arr cells fuel o calls lots f) S pc) (Ae r)=some L.length:=by
  exact z4ea
 rw[e];dsimp only;rw[if_neg (by simp[ofInt]),if_neg (by show ¬((j:Int)<0\/(L.length:Int)<=(j:Int));omega)];rfl
theorem Uc{x y:PV}:Bo P bets 1 [⟨25,0,1,Ab⟩] (cs (V++[x]++[y]) gl arr cells fuel o calls lots f) (cs (V++[ofBool (x.same y)]) gl arr cells fuel o calls lots f):=by
 refine Bo.one rfl rfl (fun S pc=>?_);rw[a25,K6,K5,K6,K5];rfl
theorem Aal(a b:Int)(S:List Af)(pc:Nat):(F4 (cs (V++[ofInt a]++[ofInt b]) gl arr cells fuel o calls lots f) S pc).both 2=true:=by
 unfold MS.both;rw[K6];have e:(F4 (cs (V++[ofInt a]++[ofInt b]) gl arr cells fuel o calls lots f) S pc).at' (((F4 (cs (V++[ofInt a]++[ofInt b]) gl arr cells fuel o calls lots f) S pc).vals.length:Nat)-2)=ofInt a:=by
  unfold MS.at';have hl:(F4 (cs (V++[ofInt a]++[ofInt b]) gl arr cells fuel o calls lots f) S pc).vals.length=V.length+2:=by simp[F4,cs]
  rw[if_neg (by rw[hl];omega),hl,show(((V.length+2:Nat):Int)-2).toNat=V.length by omega];simp[F4,cs]
 rw[e];rfl
theorem A3b(a b:Int):Bo P bets 1 [⟨15,0,1,Ab⟩] (cs (V++[ofInt a]++[ofInt b]) gl arr cells fuel o calls lots f) (cs (V++[ofInt (wr (a-b))]) gl arr cells fuel o calls lots f):=by
 refine Bo.one rfl rfl (fun S pc=>?_);rw[a15,if_pos (Aal a b S pc),K6,K5,K6,K5];rfl
theorem Aiz(a:Int):Bo P bets 1 [⟨23,0,1,Ab⟩] (cs (V++[ofInt a]) gl arr cells fuel o calls lots f) (cs (V++[ofInt (wr (-a))]) gl arr cells fuel o calls lots f):=by
 refine Bo.one rfl rfl (fun S pc=>?_);rw[a23,K6,K5,if_pos (show(ofInt a).k=2 from rfl)];rfl
theorem rDec(a:Int)(ha:Cf a):Bo P bets (Jx a).length (Jx a) (cs V gl arr cells fuel o calls lots f) (cs (V++[ofInt a]) gl arr cells fuel o calls lots f):=by
 unfold Jx;by_cases hn:a<0
 ·rw[if_pos hn];have e1:wr (-(-(a+1)))=a+1:=by rw[Sr] <;> unfold Cf at*<;> omega
  have e2:wr (wr (-(-(a+1)))-1)=a:=by rw[e1,Sr] <;> unfold Cf at*<;> omega
  have h:=(((M1 (P:=P) (bets:=bets) (V:=V) (gl:=gl) (arr:=arr) (cells:=cells) (fuel:=fuel) (o:=o) (calls:=calls) (lots:=lots) (f:=f) (ofInt (-(a+1)))).seq (Aiz _)).seq (M1 (ofInt 1))).seq (A3b _ _);rw[e2]at h;exact h
 ·rw[if_neg hn];exact M1 _
end
section
set_option maxRecDepth 100000
open Go.Deep (BT)
variable {P:Dl} {bets:List Dc}
def Ee:List Ey:=[⟨0,none,0,0⟩]
def B2:Fr:=⟨[],0,0⟩
def N5(L:List PV)(c:Nat):MS:=cs [] [Ae 0,Ab,Ab,Ab] [L] c 2000 [] [] Ee B2
theorem Afd:Bo P bets 3 Xa (cs [] [Ab,Ab,Ab,Ab] [] 0 2000 [] [] Ee B2) (N5 [ofInt 0] 1):=by
 have h1:Bo P bets 1 [⟨0,0,0,ofInt 0⟩] (cs [] [Ab,Ab,Ab,Ab] [] 0 2000 [] [] Ee B2) (cs [ofInt 0] [Ab,Ab,Ab,Ab] [] 0 2000 [] [] Ee B2):=M1 _;have h2:Bo P bets 1 [⟨36,1,1,Ab⟩] (cs [ofInt 0] [Ab,Ab,Ab,Ab] [] 0 2000 [] [] Ee B2) (cs [Ae 0] [Ab,Ab,Ab,Ab] [[ofInt 0]] 1 2000 [] [] Ee B2):=Ue (V:=[]) z51a;have h3:Bo P bets 1 [⟨4,0,0,Ab⟩] (cs [Ae 0] [Ab,Ab,Ab,Ab] [[ofInt 0]] 1 2000 [] [] Ee B2) (N5 [ofInt 0] 1):=Uf (V:=[]) (g:=0) z52a;exact(h1.seq h2).seq h3
theorem Ai1(r:Int)(hr:Cf r)(L:List PV)(c:Nat)(hc:c+1<=500):Bo P bets (2+(Jx r).length+1) (Pk r) (N5 L c) (N5 (L++[ofInt r]) (c+1)):=by
 have h1:Bo P bets 1 [⟨2,0,0,Ab⟩] (N5 L c) (cs [Ae 0] [Ae 0,Ab,Ab,Ab] [L] c 2000 [] [] Ee B2):=L1 (g:=0) rfl;have h2:Bo P bets (Jx r).length (Jx r) (cs [Ae 0] [Ae 0,Ab,Ab,Ab] [L] c 2000 [] [] Ee B2) (cs [Ae 0,ofInt r] [Ae 0,Ab,Ab,Ab] [L] c 2000 [] [] Ee B2):=rDec r hr;have h3:Bo P bets 1 [⟨38,0,1,Ab⟩] (cs [Ae 0,ofInt r] [Ae 0,Ab,Ab,Ab] [L] c 2000 [] [] Ee B2) (cs [ofInt r] [Ae 0,Ab,Ab,Ab] [L++[ofInt r]] (c+1) 2000 [] [] Ee B2):=A39 (V:=[]) (r:=0) hc;have h4:Bo P bets 1 [⟨5,0,0,Ab⟩] (cs [ofInt r] [Ae 0,Ab,Ab,Ab] [L++[ofInt r]] (c+1) 2000 [] [] Ee B2) (N5 (L++[ofInt r]) (c+1)):=A36 (V:=[]);exact h1.seq (h2.seq (h3.seq h4))
theorem Ai3:∀(rs:List Int) (L:List PV) (c:Nat),(∀r∈rs,Cf r)->c+rs.length<=500->∃k,k<=7*rs.length/\Bo P bets k (rs.flatMap Pk) (N5 L c) (N5 (L++rs.map ofInt) (c+rs.length)):=by
 intro rs;induction rs with
 | nil=>intro L c _ _;exact⟨0,by simp,by simp;exact Bo.nil _⟩
 | cons r rs ih=>
  intro L c h hc;rw[List.length_cons]at hc ⊢;obtain⟨k,hk,hr⟩:=ih (L++[ofInt r]) (c+1) (fun x hx=>h x (by simp[hx])) z51a;have h1:=Ai1 (P:=P) (bets:=bets) r (h r z56a) L c z51a;have:=b6 r;refine⟨k+(2+(Jx r).length+1),by omega,?_⟩;have h2:=h1.seq hr;rw[List.append_assoc,show c+1+rs.length=c+(rs.length+1) by omega]at h2;exact h2
def Bf:List PV:=[Ae 0,Ae 0,Ae 1,Ae 2]
theorem Ao0(k:Int)(L:List PV)(c:Nat)(hc:c+2<=500):Bo P bets 10 (Yf k) (N5 L c) (cs [Ae 0,ofInt k] Bf [L,[Ae 0],[ofInt 0]] (c+2) 2000 [] [] Ee B2):=by
 have h1:Bo P bets 1 [⟨2,0,0,Ab⟩] (N5 L c) (cs [Ae 0] [Ae 0,Ab,Ab,Ab] [L] c 2000 [] [] Ee B2):=L1 (g:=0) rfl;have h2:Bo P bets 1 [⟨4,1,0,Ab⟩] (cs [Ae 0] [Ae 0,Ab,Ab,Ab] [L] c 2000 [] [] Ee B2) (cs [] [Ae 0,Ae 0,Ab,Ab] [L] c 2000 [] [] Ee B2):=Uf (V:=[]) (g:=1) (by show 1<4;omega);have h3:Bo P bets 1 [⟨2,0,0,Ab⟩] (cs [] [Ae 0,Ae 0,Ab,Ab] [L] c 2000 [] [] Ee B2) (cs [Ae 0] [Ae 0,Ae 0,Ab,Ab] [L] c 2000 [] [] Ee B2):=L1 (g:=0) rfl;have h4:Bo P bets 1 [⟨36,1,1,Ab⟩] (cs [Ae 0] [Ae 0,Ae 0,Ab,Ab] [L] c 2000 [] [] Ee B2) (cs [Ae 1] [Ae 0,Ae 0,Ab,Ab] [L,[Ae 0]] (c+1) 2000 [] [] Ee B2):=Ue (V:=[]) z51a;have h5:Bo P bets 1 [⟨4,2,0,Ab⟩] (cs [Ae 1] [Ae 0,Ae 0,Ab,Ab] [L,[Ae 0]] (c+1) 2000 [] [] Ee B2) (cs [] [Ae 0,Ae 0,Ae 1,Ab] [L,[Ae 0]] (c+1) 2000 [] [] Ee B2):=Uf (V:=[]) (g:=2) (by show 2<4;omega);have h6:Bo P bets 1 [⟨0,0,0,ofInt 0⟩] (cs [] [Ae 0,Ae 0,Ae 1,Ab] [L,[Ae 0]] (c+1) 2000 [] [] Ee B2) (cs [ofInt 0] [Ae 0,Ae 0,Ae 1,Ab] [L,[Ae 0]] (c+1) 2000 [] [] Ee B2):=M1 _;have h7:Bo P bets 1 [⟨36,1,1,Ab⟩] (cs [ofInt 0] [Ae 0,Ae 0,Ae 1,Ab] [L,[Ae 0]] (c+1) 2000 [] [] Ee B2) (cs [Ae 2] [Ae 0,Ae 0,Ae 1,Ab] [L,[Ae 0],[ofInt 0]] (c+2) 2000 [] [] Ee B2):=Ue (V:=[]) z51a;have h8:Bo P bets 1 [⟨4,3,0,Ab⟩] (cs [Ae 2] [Ae 0,Ae 0,Ae 1,Ab] [L,[Ae 0],[ofInt 0]] (c+2) 2000 [] [] Ee B2) (cs [] Bf [L,[Ae 0],[ofInt 0]] (c+2) 2000 [] [] Ee B2):=Uf (V:=[]) (g:=3) (by show 3<4;omega);have h9:Bo P bets 1 [⟨2,1,0,Ab⟩] (cs [] Bf [L,[Ae 0],[ofInt 0]] (c+2) 2000 [] [] Ee B2) (cs [Ae 0] Bf [L,[Ae 0],[ofInt 0]] (c+2) 2000 [] [] Ee B2):=L1 (g:=1) rfl;have h10:Bo P bets 1 [⟨0,0,0,ofInt k⟩] (cs [Ae 0] Bf [L,[Ae 0],[ofInt 0]] (c+2) 2000 [] [] Ee B2) (cs [Ae 0,ofInt k] Bf [L,[Ae 0],[ofInt 0]] (c+2) 2000 [] [] Ee B2):=M1 _;exact((((((((h1.seq h2).seq h3).seq h4).seq h5).seq h6).seq h7).seq h8).seq h9).seq h10
variable {V gl:List PV} {arr:List (List PV)} {cells fuel:Nat} {o:List (List UInt8)} {calls:List Fr} {lots:List Ey} {f:Fr}
theorem Qn{a:Nat}{x:PV}(hb:f.base=0)(h:V[a]?=some x):Bo P bets 1 [⟨1,(a:Nat),0,Ab⟩] (cs V gl arr cells fuel o calls lots f) (cs (V++[x]) gl arr cells fuel o calls lots f):=by
 refine Bo.one rfl rfl (fun S pc=>?_);show MS.push (MS.at' (F4 (cs V gl arr cells fuel o calls lots f) S pc) (f.base+((a:Nat):Int))) (F4 (cs V gl arr cells fuel o calls lots f) S pc)=_;unfold MS.at';rw[hb,if_neg z51a,show((0:Int)+((a:Nat):Int)).toNat=a by omega];show MS.push ((V[a]?).getD Ab) _=_;rw[h];rfl
def bS(k:Int):Dc:=⟨0,0,[5,6,1],[0,k]⟩
def Qa(k:Int):List Af:=[⟨1,0,0,Ab⟩,⟨0,0,0,ofInt k⟩,⟨1,2,0,Ab⟩,⟨40,0,1,Ab⟩,⟨1,0,0,Ab⟩,⟨1,2,0,Ab⟩,⟨38,0,1,Ab⟩,⟨5,0,0,Ab⟩,⟨1,0,0,Ab⟩,⟨1,0,0,Ab⟩,⟨25,0,1,Ab⟩,⟨44,0,0,Ab⟩,⟨43,0,0,Ab⟩]
def A0o(k:Int):Form:=⟨3,Qa k,[Dj 4,Js (ofInt k),Dj 2]⟩
def H9(k:Int):List Ey:=[⟨1,some (A0o k),1,0⟩]
theorem A9f(k:Int):MS.body P [bS k] 0 Rn (cs V gl arr cells fuel o calls Ee f)=if Jm (cs V gl arr cells fuel o calls Ee f) ((V.length:Nat)-(3:Nat)) [Dj 4,Js (ofInt k),Dj 2] then(MS.L5 0 ⟨1,some (A0o k),1,0⟩ (cs V gl arr cells fuel o calls Ee f)).begin 3 (Qa k) 3 else(MS.L5 0 ⟨1,none,0,1⟩ (cs V gl arr cells fuel o calls Ee f)).begin 3 Ra 3:=by kernel_rfl
theorem Ah9(S:List Af)(n:Nat):Yu S 0 (S.take n):=by
 intro j i h;rw[Nat.zero_add];rw[List.getElem?_take]at h;split at h
 ·exact h
 ·cases h
theorem A9n(hP:P.fns=[Rn])(k:Nat)(v:Int)(L:List PV)(hk:k<L.length)(c:Nat)(hc:c+1<=500):Bo P [bS k] 13 [⟨42,0,1,Ab⟩] (cs [Ae 0,ofInt k,ofInt v] Bf [L,[Ae 0],[ofInt 0]] c 2000 [] [] Ee B2) (cs [ofBool true] Bf [L.set k (ofInt v)++[ofInt v],[Ae 0],[ofInt 0]] (c+1) 1999 [] [] (H9 k) B2):=by
 intro S pc hp;have h0:=Kq.one (P:=P) (bets:=[bS k]) (m:=F4 (cs [Ae 0,ofInt k,ofInt v] Bf [L,[Ae 0],[ofInt 0]] c 2000 [] [] Ee B2) S pc) rfl (hp 0 _ rfl) (U5 rfl);have e0:N2 P [bS k] ⟨42,0,1,Ab⟩ (F4 (cs [Ae 0,ofInt k,ofInt v] Bf [L,[Ae 0],[ofInt 0]] c 2000 [] [] Ee B2) S pc)=F4 (cs [Ae 0,ofInt k,ofInt v] Bf [L,[Ae 0],[ofInt 0]] c 1999 [] [⟨S,pc+1,0⟩] (H9 k) B2) (Qa k) 0:=by
  unfold N2;rw[Yx (P:=P) (bets:=[bS k]) _ _ rfl (by show(2000:Nat)≠0;omega) (by show(0:Nat)≠40;omega) (f:=Rn) (by rw[hP];rfl)];refine(A9f (P:=P) (V:=[Ae 0,ofInt k,ofInt v]) (gl:=Bf) (arr:=[L,[Ae 0],[ofInt 0]]) (cells:=c) (fuel:=1999) (o:=[]) (calls:=[⟨S,pc+1,0⟩]) (f:=⟨S,pc+1,0⟩) k).trans ?_;rw[if_pos]
  ·rfl
  ·have e:(ofInt (k:Int)).same (ofInt k)=true:=by rw[Ajq];simp
   show((!true||(4:Nat)==4)&&((ofInt (k:Int)).same (ofInt k)&&((!true||(2:Nat)==2)&&true)))=true;rw[e];rfl
 rw[e0]at h0;have g1:Bo P [bS k] 1 [⟨1,0,0,Ab⟩] (cs [Ae 0,ofInt k,ofInt v] Bf [L,[Ae 0],[ofInt 0]] c 1999 [] [⟨S,pc+1,0⟩] (H9 k) B2) (cs [Ae 0,ofInt k,ofInt v,Ae 0] Bf [L,[Ae 0],[ofInt 0]] c 1999 [] [⟨S,pc+1,0⟩] (H9 k) B2):=Qn (a:=0) rfl rfl;have g2:Bo P [bS k] 1 [⟨0,0,0,ofInt k⟩] (cs [Ae 0,ofInt k,ofInt v,Ae 0] Bf [L,[Ae 0],[ofInt 0]] c 1999 [] [⟨S,pc+1,0⟩] (H9 k) B2) (cs [Ae 0,ofInt k,ofInt v,Ae 0,ofInt k] Bf [L,[Ae 0],[ofInt 0]] c 1999 [] [⟨S,pc+1,0⟩] (H9 k) B2):=M1 _;have g3:Bo P [bS k] 1 [⟨1,2,0,Ab⟩] (cs [Ae 0,ofInt k,ofInt v,Ae 0,ofInt k] Bf [L,[Ae 0],[ofInt 0]] c 1999 [] [⟨S,pc+1,0⟩] (H9 k) B2) (cs [Ae 0,ofInt k,ofInt v,Ae 0,ofInt k,ofInt v] Bf [L,[Ae 0],[ofInt 0]] c 1999 [] [⟨S,pc+1,0⟩] (H9 k) B2):=Qn (a:=2) rfl rfl;have g4:Bo P [bS k] 1 [⟨40,0,1,Ab⟩] (cs [Ae 0,ofInt k,ofInt v,Ae 0,ofInt k,ofInt v] Bf [L,[Ae 0],[ofInt 0]] c 1999 [] [⟨S,pc+1,0⟩] (H9 k) B2) (cs [Ae 0,ofInt k,ofInt v] Bf [L.set k (ofInt v),[Ae 0],[ofInt 0]] c 1999 [] [⟨S,pc+1,0⟩] (H9 k) B2):=Aj0 (V:=[Ae 0,ofInt k,ofInt v]) (r:=0) (L:=L) rfl hk;have g5:Bo P [bS k] 1 [⟨1,0,0,Ab⟩] (cs [Ae 0,ofInt k,ofInt v] Bf [L.set k (ofInt v),[Ae 0],[ofInt 0]] c 1999 [] [⟨S,pc+1,0⟩] (H9 k) B2) (cs [Ae 0,ofInt k,ofInt v,Ae 0] Bf [L.set k (ofInt v),[Ae 0],[ofInt 0]] c 1999 [] [⟨S,pc+1,0⟩] (H9 k) B2):=Qn (a:=0) rfl rfl;have g6:Bo P [bS k] 1 [⟨1,2,0,Ab⟩] (cs [Ae 0,ofInt k,ofInt v,Ae 0] Bf [L.set k (ofInt v),[Ae 0],[ofInt 0]] c 1999 [] [⟨S,pc+1,0⟩] (H9 k) B2) (cs [Ae 0,ofInt k,ofInt v,Ae 0,ofInt v] Bf [L.set k (ofInt v),[Ae 0],[ofInt 0]] c 1999 [] [⟨S,pc+1,0⟩] (H9 k) B2):=Qn (a:=2) rfl rfl;have g7:Bo P [bS k] 1 [⟨38,0,1,Ab⟩] (cs [Ae 0,ofInt k,ofInt v,Ae 0,ofInt v] Bf [L.set k (ofInt v),[Ae 0],[ofInt 0]] c 1999 [] [⟨S,pc+1,0⟩] (H9 k) B2) (cs [Ae 0,ofInt k,ofInt v,ofInt v] Bf [L.set k (ofInt v)++[ofInt v],[Ae 0],[ofInt 0]] (c+1) 1999 [] [⟨S,pc+1,0⟩] (H9 k) B2):=A39 (V:=[Ae 0,ofInt k,ofInt v]) (r:=0) hc;have g8:Bo P [bS k] 1 [⟨5,0,0,Ab⟩] (cs [Ae 0,ofInt k,ofInt v,ofInt v] Bf [L.set k (ofInt v)++[ofInt v],[Ae 0],[ofInt 0]] (c+1) 1999 [] [⟨S,pc+1,0⟩] (H9 k) B2) (cs [Ae 0,ofInt k,ofInt v] Bf [L.set k (ofInt v)++[ofInt v],[Ae 0],[ofInt 0]] (c+1) 1999 [] [⟨S,pc+1,0⟩] (H9 k) B2):=A36 (V:=[Ae 0,ofInt k,ofInt v]);have g9:Bo P [bS k] 1 [⟨1,0,0,Ab⟩] (cs [Ae 0,ofInt k,ofInt v] Bf [L.set k (ofInt v)++[ofInt v],[Ae 0],[ofInt 0]] (c+1) 1999 [] [⟨S,pc+1,0⟩] (H9 k) B2) (cs [Ae 0,ofInt k,ofInt v,Ae 0] Bf [L.set k (ofInt v)++[ofInt v],[Ae 0],[ofInt 0]] (c+1) 1999 [] [⟨S,pc+1,0⟩] (H9 k) B2):=Qn (a:=0) rfl rfl;have g10:Bo P [bS k] 1 [⟨1,0,0,Ab⟩] (cs [Ae 0,ofInt k,ofInt v,Ae 0] Bf [L.set k (ofInt v)++[ofInt v],[Ae 0],[ofInt 0]] (c+1) 1999 [] [⟨S,pc+1,0⟩] (H9 k) B2) (cs [Ae 0,ofInt k,ofInt v,Ae 0,Ae 0] Bf [L.set k (ofInt v)++[ofInt v],[Ae 0],[ofInt 0]] (c+1) 1999 [] [⟨S,pc+1,0⟩] (H9 k) B2):=Qn (a:=0) rfl rfl;have g11:Bo P [bS k] 1 [⟨25,0,1,Ab⟩] (cs [Ae 0,ofInt k,ofInt v,Ae 0,Ae 0] Bf [L.set k (ofInt v)++[ofInt v],[Ae 0],[ofInt 0]] (c+1) 1999 [] [⟨S,pc+1,0⟩] (H9 k) B2) (cs [Ae 0,ofInt k,ofInt v,ofBool true] Bf [L.set k (ofInt v)++[ofInt v],[Ae 0],[ofInt 0]] (c+1) 1999 [] [⟨S,pc+1,0⟩] (H9 k) B2):=Uc (V:=[Ae 0,ofInt k,ofInt v]);have ga:=(((((((((g1.seq g2).seq g3).seq g4).seq g5).seq g6).seq g7).seq g8).seq g9).seq g10).seq g11;have gb:=ga (Qa k) 0 (Ah9 (Qa k) 11);have gc:=Kq.one (P:=P) (bets:=[bS k]) (m:=F4 (cs [Ae 0,ofInt k,ofInt v,ofBool true] Bf [L.set k (ofInt v)++[ofInt v],[Ae 0],[ofInt 0]] (c+1) 1999 [] [⟨S,pc+1,0⟩] (H9 k) B2) (Qa k) 11) (i:=⟨44,0,0,Ab⟩) rfl rfl (U5 rfl);exact(h0.trans gb).trans gc
theorem Uo{n:Int}(hn:Cf n)(ho:o.length<100):Bo P bets 1 [⟨41,0,1,Ab⟩] (cs (V++[ofInt n]) gl arr cells fuel o calls lots f) (cs V gl arr cells fuel (o++[Lib.itoa n]) calls lots f):=A3a (Ye _ _) (by show(2:Nat)≠4;omega) (i20 hn) ho
theorem Un{b:Bool}(ho:o.length<100):Bo P bets 1 [⟨41,0,1,Ab⟩] (cs (V++[ofBool b]) gl arr cells fuel o calls lots f) (cs V gl arr cells fuel (o++[Av b]) calls lots f):=A3a (Aop _ _) (by show(1:Nat)≠4;omega) (Zg b) ho
theorem A38{r n:Nat}{L:List PV}(h:arr[r]?=some L)(hn:L.length=n):Bo P bets 1 [⟨37,0,1,Ab⟩] (cs (V++[Ae r]) gl arr cells fuel o calls lots f) (cs (V++[ofInt (n:Nat)]) gl arr cells fuel o calls lots f):=by rw[←hn];exact A37 h
def Pt(n:Nat)(v:Int):List (List UInt8):=[Av true,Lib.itoa ((n+1:Nat):Int),Lib.itoa v,Lib.itoa v,Av true,Av true,Av false,Lib.itoa 1]
theorem Ak1(M:List PV)(c:Nat)(lo:List Ey):Bo P bets 1 [⟨41,0,1,Ab⟩] (cs [ofBool true] Bf [M,[Ae 0],[ofInt 0]] c 1999 [] [] lo B2) (cs [] Bf [M,[Ae 0],[ofInt 0]] c 1999 [Av true] [] lo B2):=by
 have h1:Bo P bets 1 [⟨41,0,1,Ab⟩] (cs [ofBool true] Bf [M,[Ae 0],[ofInt 0]] c 1999 [] [] lo B2) (cs [] Bf [M,[Ae 0],[ofInt 0]] c 1999 [Av true] [] lo B2):=Un (V:=[]) z56a;exact h1
theorem Ak2(n:Nat)(Bk:Cf ((n+1:Nat):Int))(M:List PV)(hM:M.length=n+1)(c:Nat)(lo:List Ey):Bo P bets 3 [⟨2,0,0,Ab⟩,⟨37,0,1,Ab⟩,⟨41,0,1,Ab⟩] (cs [] Bf [M,[Ae 0],[ofInt 0]] c 1999 [Av true] [] lo B2) (cs [] Bf [M,[Ae 0],[ofInt 0]] c 1999 [Av true,Lib.itoa ((n+1:Nat):Int)] [] lo B2):=by
 have h2:Bo P bets 1 [⟨2,0,0,Ab⟩] (cs [] Bf [M,[Ae 0],[ofInt 0]] c 1999 [Av true] [] lo B2) (cs [Ae 0] Bf [M,[Ae 0],[ofInt 0]] c 1999 [Av true] [] lo B2):=L1 (g:=0) rfl;have h3:Bo P bets 1 [⟨37,0,1,Ab⟩] (cs [Ae 0] Bf [M,[Ae 0],[ofInt 0]] c 1999 [Av true] [] lo B2) (cs [ofInt ((n+1:Nat):Int)] Bf [M,[Ae 0],[ofInt 0]] c 1999 [Av true] [] lo B2):=A38 (V:=[]) (r:=0) rfl hM;have h4:Bo P bets 1 [⟨41,0,1,Ab⟩] (cs [ofInt ((n+1:Nat):Int)] Bf [M,[Ae 0],[ofInt 0]] c 1999 [Av true] [] lo B2) (cs [] Bf [M,[Ae 0],[ofInt 0]] c 1999 [Av true,Lib.itoa ((n+1:Nat):Int)] [] lo B2):=Uo (V:=[]) Bk z56a;exact(h2.seq h3).seq h4
theorem Ak3(n:Nat)(k:Nat)(v:Int)(hv:Cf v)(M:List PV)(hk:M[k]?=some (ofInt v))(c:Nat)(lo:List Ey):Bo P bets 4 [⟨2,0,0,Ab⟩,⟨0,0,0,ofInt (k:Nat)⟩,⟨39,0,1,Ab⟩,⟨41,0,1,Ab⟩] (cs [] Bf [M,[Ae 0],[ofInt 0]] c 1999 [Av true,Lib.itoa ((n+1:Nat):Int)] [] lo B2) (cs [] Bf [M,[Ae 0],[ofInt 0]] c 1999 [Av true,Lib.itoa ((n+1:Nat):Int),Lib.itoa v] [] lo B2):=by
 have h5:Bo P bets 1 [⟨2,0,0,Ab⟩] (cs [] Bf [M,[Ae 0],[ofInt 0]] c 1999 [Av true,Lib.itoa ((n+1:Nat):Int)] [] lo B2) (cs [Ae 0] Bf [M,[Ae 0],[ofInt 0]] c 1999 [Av true,Lib.itoa ((n+1:Nat):Int)] [] lo B2):=L1 (g:=0) rfl;have h6:Bo P bets 1 [⟨0,0,0,ofInt (k:Nat)⟩] (cs [Ae 0] Bf [M,[Ae 0],[ofInt 0]] c 1999 [Av true,Lib.itoa ((n+1:Nat):Int)] [] lo B2) (cs [Ae 0,ofInt (k:Nat)] Bf [M,[Ae 0],[ofInt 0]] c 1999 [Av true,Lib.itoa ((n+1:Nat):Int)] [] lo B2):=M1 _;have h7:Bo P bets 1 [⟨39,0,1,Ab⟩] (cs [Ae 0,ofInt (k:Nat)] Bf [M,[Ae 0],[ofInt 0]] c 1999 [Av true,Lib.itoa ((n+1:Nat):Int)] [] lo B2) (cs [ofInt v] Bf [M,[Ae 0],[ofInt 0]] c 1999 [Av true,Lib.itoa ((n+1:Nat):Int)] [] lo B2):=Ud (V:=[]) (r:=0) (L:=M) rfl hk;have h8:Bo P bets 1 [⟨41,0,1,Ab⟩] (cs [ofInt v] Bf [M,[Ae 0],[ofInt 0]] c 1999 [Av true,Lib.itoa ((n+1:Nat):Int)] [] lo B2) (cs [] Bf [M,[Ae 0],[ofInt 0]] c 1999 [Av true,Lib.itoa ((n+1:Nat):Int),Lib.itoa v] [] lo B2):=Uo (V:=[]) hv z56a;exact((h5.seq h6).seq h7).seq h8
theorem Ak4(n:Nat)(v:Int)(Bk:Cf ((n+1:Nat):Int))(hv:Cf v)(M:List PV)(hM:M.length=n+1)(hl:M[n]?=some (ofInt v))(c:Nat)(lo:List Ey):Bo P bets 9 [⟨2,2,0,Ab⟩,⟨0,0,0,ofInt 0⟩,⟨39,0,1,Ab⟩,⟨2,1,0,Ab⟩,⟨37,0,1,Ab⟩,⟨0,0,0,ofInt 1⟩,⟨15,0,1,Ab⟩,⟨39,0,1,Ab⟩,⟨41,0,1,Ab⟩] (cs [] Bf [M,[Ae 0],[ofInt 0]] c 1999 [Av true,Lib.itoa ((n+1:Nat):Int),Lib.itoa v] [] lo B2) (cs [] Bf [M,[Ae 0],[ofInt 0]] c 1999 [Av true,Lib.itoa ((n+1:Nat):Int),Lib.itoa v,Lib.itoa v] [] lo B2):=by
 have hw:wr (((n+1:Nat):Int)-1)=(n:Nat):=by rw[Sr] <;> unfold Cf at*<;> omega
 have h9:Bo P bets 1 [⟨2,2,0,Ab⟩] (cs [] Bf [M,[Ae 0],[ofInt 0]] c 1999 [Av true,Lib.itoa ((n+1:Nat):Int),Lib.itoa v] [] lo B2) (cs [Ae 1] Bf [M,[Ae 0],[ofInt 0]] c 1999 [Av true,Lib.itoa ((n+1:Nat):Int),Lib.itoa v] [] lo B2):=L1 (g:=2) rfl;have h10:Bo P bets 1 [⟨0,0,0,ofInt 0⟩] (cs [Ae 1] Bf [M,[Ae 0],[ofInt 0]] c 1999 [Av true,Lib.itoa ((n+1:Nat):Int),Lib.itoa v] [] lo B2) (cs [Ae 1,ofInt 0] Bf [M,[Ae 0],[ofInt 0]] c 1999 [Av true,Lib.itoa ((n+1:Nat):Int),Lib.itoa v] [] lo B2):=M1 _;have h11:Bo P bets 1 [⟨39,0,1,Ab⟩] (cs [Ae 1,ofInt 0] Bf [M,[Ae 0],[ofInt 0]] c 1999 [Av true,Lib.itoa ((n+1:Nat):Int),Lib.itoa v] [] lo B2) (cs [Ae 0] Bf [M,[Ae 0],[ofInt 0]] c 1999 [Av true,Lib.itoa ((n+1:Nat):Int),Lib.itoa v] [] lo B2):=Ud (V:=[]) (r:=1) (j:=0) (L:=[Ae 0]) rfl rfl;have h12:Bo P bets 1 [⟨2,1,0,Ab⟩] (cs [Ae 0] Bf [M,[Ae 0],[ofInt 0]] c 1999 [Av true,Lib.itoa ((n+1:Nat):Int),Lib.itoa v] [] lo B2) (cs [Ae 0,Ae 0] Bf [M,[Ae 0],[ofInt 0]] c 1999 [Av true,Lib.itoa ((n+1:Nat):Int),Lib.itoa v] [] lo B2):=L1 (g:=1) rfl;have h13:Bo P bets 1 [⟨37,0,1,Ab⟩] (cs [Ae 0,Ae 0] Bf [M,[Ae 0],[ofInt 0]] c 1999 [Av true,Lib.itoa ((n+1:Nat):Int),Lib.itoa v] [] lo B2) (cs [Ae 0,ofInt ((n+1:Nat):Int)] Bf [M,[Ae 0],[ofInt 0]] c 1999 [Av true,Lib.itoa ((n+1:Nat):Int),Lib.itoa v] [] lo B2):=A38 (V:=[Ae 0]) (r:=0) rfl hM;have h14:Bo P bets 1 [⟨0,0,0,ofInt 1⟩] (cs [Ae 0,ofInt ((n+1:Nat):Int)] Bf [M,[Ae 0],[ofInt 0]] c 1999 [Av true,Lib.itoa ((n+1:Nat):Int),Lib.itoa v] [] lo B2) (cs [Ae 0,ofInt ((n+1:Nat):Int),ofInt 1] Bf [M,[Ae 0],[ofInt 0]] c 1999 [Av true,Lib.itoa ((n+1:Nat):Int),Lib.itoa v] [] lo B2):=M1 _;have h15:Bo P bets 1 [⟨15,0,1,Ab⟩] (cs [Ae 0,ofInt ((n+1:Nat):Int),ofInt 1] Bf [M,[Ae 0],[ofInt 0]] c 1999 [Av true,Lib.itoa ((n+1:Nat):Int),Lib.itoa v] [] lo B2) (cs [Ae 0,ofInt (n:Nat)] Bf [M,[Ae 0],[ofInt 0]] c 1999 [Av true,Lib.itoa ((n+1:Nat):Int),Lib.itoa v] [] lo B2):=by have h:=A3b (P:=P) (bets:=bets) (V:=[Ae 0]) (gl:=Bf) (arr:=[M,[Ae 0],[ofInt 0]]) (cells:=c) (fuel:=1999) (o:=[Av true,Lib.itoa ((n+1:Nat):Int),Lib.itoa v]) (calls:=[]) (lots:=lo) (f:=B2) ((n+1:Nat):Int) 1;rw[hw]at h;exact h
 have h16:Bo P bets 1 [⟨39,0,1,Ab⟩] (cs [Ae 0,ofInt (n:Nat)] Bf [M,[Ae 0],[ofInt 0]] c 1999 [Av true,Lib.itoa ((n+1:Nat):Int),Lib.itoa v] [] lo B2) (cs [ofInt v] Bf [M,[Ae 0],[ofInt 0]] c 1999 [Av true,Lib.itoa ((n+1:Nat):Int),Lib.itoa v] [] lo B2):=Ud (V:=[]) (r:=0) (L:=M) rfl hl;have h17:Bo P bets 1 [⟨41,0,1,Ab⟩] (cs [ofInt v] Bf [M,[Ae 0],[ofInt 0]] c 1999 [Av true,Lib.itoa ((n+1:Nat):Int),Lib.itoa v] [] lo B2) (cs [] Bf [M,[Ae 0],[ofInt 0]] c 1999 [Av true,Lib.itoa ((n+1:Nat):Int),Lib.itoa v,Lib.itoa v] [] lo B2):=Uo (V:=[]) hv z56a;exact(((((((h9.seq h10).seq h11).seq h12).seq h13).seq h14).seq h15).seq h16).seq h17
theorem Ak5(n:Nat)(v:Int)(M:List PV)(c:Nat)(lo:List Ey):Bo P bets 4 [⟨2,0,0,Ab⟩,⟨2,1,0,Ab⟩,⟨25,0,1,Ab⟩,⟨41,0,1,Ab⟩] (cs [] Bf [M,[Ae 0],[ofInt 0]] c 1999 [Av true,Lib.itoa ((n+1:Nat):Int),Lib.itoa v,Lib.itoa v] [] lo B2) (cs [] Bf [M,[Ae 0],[ofInt 0]] c 1999 [Av true,Lib.itoa ((n+1:Nat):Int),Lib.itoa v,Lib.itoa v,Av true] [] lo B2):=by
 have h18:Bo P bets 1 [⟨2,0,0,Ab⟩] (cs [] Bf [M,[Ae 0],[ofInt 0]] c 1999 [Av true,Lib.itoa ((n+1:Nat):Int),Lib.itoa v,Lib.itoa v] [] lo B2) (cs [Ae 0] Bf [M,[Ae 0],[ofInt 0]] c 1999 [Av true,Lib.itoa ((n+1:Nat):Int),Lib.itoa v,Lib.itoa v] [] lo B2):=L1 (g:=0) rfl;have h19:Bo P bets 1 [⟨2,1,0,Ab⟩] (cs [Ae 0] Bf [M,[Ae 0],[ofInt 0]] c 1999 [Av true,Lib.itoa ((n+1:Nat):Int),Lib.itoa v,Lib.itoa v] [] lo B2) (cs [Ae 0,Ae 0] Bf [M,[Ae 0],[ofInt 0]] c 1999 [Av true,Lib.itoa ((n+1:Nat):Int),Lib.itoa v,Lib.itoa v] [] lo B2):=L1 (g:=1) rfl;have h20:Bo P bets 1 [⟨25,0,1,Ab⟩] (cs [Ae 0,Ae 0] Bf [M,[Ae 0],[ofInt 0]] c 1999 [Av true,Lib.itoa ((n+1:Nat):Int),Lib.itoa v,Lib.itoa v] [] lo B2) (cs [ofBool true] Bf [M,[Ae 0],[ofInt 0]] c 1999 [Av true,Lib.itoa ((n+1:Nat):Int),Lib.itoa v,Lib.itoa v] [] lo B2):=Uc (V:=[]);have h21:Bo P bets 1 [⟨41,0,1,Ab⟩] (cs [ofBool true] Bf [M,[Ae 0],[ofInt 0]] c 1999 [Av true,Lib.itoa ((n+1:Nat):Int),Lib.itoa v,Lib.itoa v] [] lo B2) (cs [] Bf [M,[Ae 0],[ofInt 0]] c 1999 [Av true,Lib.itoa ((n+1:Nat):Int),Lib.itoa v,Lib.itoa v,Av true] [] lo B2):=Un (V:=[]) z56a;exact((h18.seq h19).seq h20).seq h21
theorem Ak6(n:Nat)(v:Int)(M:List PV)(c:Nat)(lo:List Ey):Bo P bets 6 [⟨2,2,0,Ab⟩,⟨0,0,0,ofInt 0⟩,⟨39,0,1,Ab⟩,⟨2,0,0,Ab⟩,⟨25,0,1,Ab⟩,⟨41,0,1,Ab⟩] (cs [] Bf [M,[Ae 0],[ofInt 0]] c 1999 [Av true,Lib.itoa ((n+1:Nat):Int),Lib.itoa v,Lib.itoa v,Av true] [] lo B2) (cs [] Bf [M,[Ae 0],[ofInt 0]] c 1999 [Av true,Lib.itoa ((n+1:Nat):Int),Lib.itoa v,Lib.itoa v,Av true,Av true] [] lo B2):=by
 have h22:Bo P bets 1 [⟨2,2,0,Ab⟩] (cs [] Bf [M,[Ae 0],[ofInt 0]] c 1999 [Av true,Lib.itoa ((n+1:Nat):Int),Lib.itoa v,Lib.itoa v,Av true] [] lo B2) (cs [Ae 1] Bf [M,[Ae 0],[ofInt 0]] c 1999 [Av true,Lib.itoa ((n+1:Nat):Int),Lib.itoa v,Lib.itoa v,Av true] [] lo B2):=L1 (g:=2) rfl;have h23:Bo P bets 1 [⟨0,0,0,ofInt 0⟩] (cs [Ae 1] Bf [M,[Ae 0],[ofInt 0]] c 1999 [Av true,Lib.itoa ((n+1:Nat):Int),Lib.itoa v,Lib.itoa v,Av true] [] lo B2) (cs [Ae 1,ofInt 0] Bf [M,[Ae 0],[ofInt 0]] c 1999 [Av true,Lib.itoa ((n+1:Nat):Int),Lib.itoa v,Lib.itoa v,Av true] [] lo B2):=M1 _;have h24:Bo P bets 1 [⟨39,0,1,Ab⟩] (cs [Ae 1,ofInt 0] Bf [M,[Ae 0],[ofInt 0]] c 1999 [Av true,Lib.itoa ((n+1:Nat):Int),Lib.itoa v,Lib.itoa v,Av true] [] lo B2) (cs [Ae 0] Bf [M,[Ae 0],[ofInt 0]] c 1999 [Av true,Lib.itoa ((n+1:Nat):Int),Lib.itoa v,Lib.itoa v,Av true] [] lo B2):=Ud (V:=[]) (r:=1) (j:=0) (L:=[Ae 0]) rfl rfl;have h25:Bo P bets 1 [⟨2,0,0,Ab⟩] (cs [Ae 0] Bf [M,[Ae 0],[ofInt 0]] c 1999 [Av true,Lib.itoa ((n+1:Nat):Int),Lib.itoa v,Lib.itoa v,Av true] [] lo B2) (cs [Ae 0,Ae 0] Bf [M,[Ae 0],[ofInt 0]] c 1999 [Av true,Lib.itoa ((n+1:Nat):Int),Lib.itoa v,Lib.itoa v,Av true] [] lo B2):=L1 (g:=0) rfl;have h26:Bo P bets 1 [⟨25,0,1,Ab⟩] (cs [Ae 0,Ae 0] Bf [M,[Ae 0],[ofInt 0]] c 1999 [Av true,Lib.itoa ((n+1:Nat):Int),Lib.itoa v,Lib.itoa v,Av true] [] lo B2) (cs [ofBool true] Bf [M,[Ae 0],[ofInt 0]] c 1999 [Av true,Lib.itoa ((n+1:Nat):Int),Lib.itoa v,Lib.itoa v,Av true] [] lo B2):=Uc (V:=[]);have h27:Bo P bets 1 [⟨41,0,1,Ab⟩] (cs [ofBool true] Bf [M,[Ae 0],[ofInt 0]] c 1999 [Av true,Lib.itoa ((n+1:Nat):Int),Lib.itoa v,Lib.itoa v,Av true] [] lo B2) (cs [] Bf [M,[Ae 0],[ofInt 0]] c 1999 [Av true,Lib.itoa ((n+1:Nat):Int),Lib.itoa v,Lib.itoa v,Av true,Av true] [] lo B2):=Un (V:=[]) z56a;exact((((h22.seq h23).seq h24).seq h25).seq h26).seq h27
theorem Ak7(n:Nat)(v:Int)(M:List PV)(c:Nat)(hc:c+1<=500)(lo:List Ey):Bo P bets 5 [⟨2,3,0,Ab⟩,⟨0,0,0,ofInt 0⟩,⟨36,1,1,Ab⟩,⟨25,0,1,Ab⟩,⟨41,0,1,Ab⟩] (cs [] Bf [M,[Ae 0],[ofInt 0]] c 1999 [Av true,Lib.itoa ((n+1:Nat):Int),Lib.itoa v,Lib.itoa v,Av true,Av true] [] lo B2) (cs [] Bf [M,[Ae 0],[ofInt 0],[ofInt 0]] (c+1) 1999 [Av true,Lib.itoa ((n+1:Nat):Int),Lib.itoa v,Lib.itoa v,Av true,Av true,Av false] [] lo B2):=by
 have h28:Bo P bets 1 [⟨2,3,0,Ab⟩] (cs [] Bf [M,[Ae 0],[ofInt 0]] c 1999 [Av true,Lib.itoa ((n+1:Nat):Int),Lib.itoa v,Lib.itoa v,Av true,Av true] [] lo B2) (cs [Ae 2] Bf [M,[Ae 0],[ofInt 0]] c 1999 [Av true,Lib.itoa ((n+1:Nat):Int),Lib.itoa v,Lib.itoa v,Av true,Av true] [] lo B2):=L1 (g:=3) rfl;have h29:Bo P bets 1 [⟨0,0,0,ofInt 0⟩] (cs [Ae 2] Bf [M,[Ae 0],[ofInt 0]] c 1999 [Av true,Lib.itoa ((n+1:Nat):Int),Lib.itoa v,Lib.itoa v,Av true,Av true] [] lo B2) (cs [Ae 2,ofInt 0] Bf [M,[Ae 0],[ofInt 0]] c 1999 [Av true,Lib.itoa ((n+1:Nat):Int),Lib.itoa v,Lib.itoa v,Av true,Av true] [] lo B2):=M1 _;have h30:Bo P bets 1 [⟨36,1,1,Ab⟩] (cs [Ae 2,ofInt 0] Bf [M,[Ae 0],[ofInt 0]] c 1999 [Av true,Lib.itoa ((n+1:Nat):Int),Lib.itoa v,Lib.itoa v,Av true,Av true] [] lo B2) (cs [Ae 2,Ae 3] Bf [M,[Ae 0],[ofInt 0],[ofInt 0]] (c+1) 1999 [Av true,Lib.itoa ((n+1:Nat):Int),Lib.itoa v,Lib.itoa v,Av true,Av true] [] lo B2):=Ue (V:=[Ae 2]) hc;have h31:Bo P bets 1 [⟨25,0,1,Ab⟩] (cs [Ae 2,Ae 3] Bf [M,[Ae 0],[ofInt 0],[ofInt 0]] (c+1) 1999 [Av true,Lib.itoa ((n+1:Nat):Int),Lib.itoa v,Lib.itoa v,Av true,Av true] [] lo B2) (cs [ofBool false] Bf [M,[Ae 0],[ofInt 0],[ofInt 0]] (c+1) 1999 [Av true,Lib.itoa ((n+1:Nat):Int),Lib.itoa v,Lib.itoa v,Av true,Av true] [] lo B2):=Uc (V:=[]);have h32:Bo P bets 1 [⟨41,0,1,Ab⟩] (cs [ofBool false] Bf [M,[Ae 0],[ofInt 0],[ofInt 0]] (c+1) 1999 [Av true,Lib.itoa ((n+1:Nat):Int),Lib.itoa v,Lib.itoa v,Av true,Av true] [] lo B2) (cs [] Bf [M,[Ae 0],[ofInt 0],[ofInt 0]] (c+1) 1999 [Av true,Lib.itoa ((n+1:Nat):Int),Lib.itoa v,Lib.itoa v,Av true,Av true,Av false] [] lo B2):=Un (V:=[]) z56a;exact(((h28.seq h29).seq h30).seq h31).seq h32
theorem Ak8(n:Nat)(v:Int)(M:List PV)(c:Nat)(lo:List Ey):Bo P bets 3 [⟨2,3,0,Ab⟩,⟨37,0,1,Ab⟩,⟨41,0,1,Ab⟩] (cs [] Bf [M,[Ae 0],[ofInt 0],[ofInt 0]] (c+1) 1999 [Av true,Lib.itoa ((n+1:Nat):Int),Lib.itoa v,Lib.itoa v,Av true,Av true,Av false] [] lo B2) (cs [] Bf [M,[Ae 0],[ofInt 0],[ofInt 0]] (c+1) 1999 [Av true,Lib.itoa ((n+1:Nat):Int),Lib.itoa v,Lib.itoa v,Av true,Av true,Av false,Lib.itoa 1] [] lo B2):=by
 have h33:Bo P bets 1 [⟨2,3,0,Ab⟩] (cs [] Bf [M,[Ae 0],[ofInt 0],[ofInt 0]] (c+1) 1999 [Av true,Lib.itoa ((n+1:Nat):Int),Lib.itoa v,Lib.itoa v,Av true,Av true,Av false] [] lo B2) (cs [Ae 2] Bf [M,[Ae 0],[ofInt 0],[ofInt 0]] (c+1) 1999 [Av true,Lib.itoa ((n+1:Nat):Int),Lib.itoa v,Lib.itoa v,Av true,Av true,Av false] [] lo B2):=L1 (g:=3) rfl;have h34:Bo P bets 1 [⟨37,0,1,Ab⟩] (cs [Ae 2] Bf [M,[Ae 0],[ofInt 0],[ofInt 0]] (c+1) 1999 [Av true,Lib.itoa ((n+1:Nat):Int),Lib.itoa v,Lib.itoa v,Av true,Av true,Av false] [] lo B2) (cs [ofInt 1] Bf [M,[Ae 0],[ofInt 0],[ofInt 0]] (c+1) 1999 [Av true,Lib.itoa ((n+1:Nat):Int),Lib.itoa v,Lib.itoa v,Av true,Av true,Av false] [] lo B2):=A37 (V:=[]) (r:=2) (L:=[ofInt 0]) rfl;have h35:Bo P bets 1 [⟨41,0,1,Ab⟩] (cs [ofInt 1] Bf [M,[Ae 0],[ofInt 0],[ofInt 0]] (c+1) 1999 [Av true,Lib.itoa ((n+1:Nat):Int),Lib.itoa v,Lib.itoa v,Av true,Av true,Av false] [] lo B2) (cs [] Bf [M,[Ae 0],[ofInt 0],[ofInt 0]] (c+1) 1999 [Av true,Lib.itoa ((n+1:Nat):Int),Lib.itoa v,Lib.itoa v,Av true,Av true,Av false,Lib.itoa 1] [] lo B2):=Uo (V:=[]) ⟨by decide,by decide⟩ z56a;exact(h33.seq h34).seq h35
theorem Ao1(n k:Nat)(v:Int)(Bk:Cf ((n+1:Nat):Int))(hv:Cf v)(M:List PV)(hM:M.length=n+1)(hk:M[k]?=some (ofInt v))(hl:M[n]?=some (ofInt v))(c:Nat)(hc:c+1<=500)(lo:List Ey):Bo P bets 35 (Yg (k:Nat)).tail (cs [ofBool true] Bf [M,[Ae 0],[ofInt 0]] c 1999 [] [] lo B2) (cs [] Bf [M,[Ae 0],[ofInt 0],[ofInt 0]] (c+1) 1999 [Av true,Lib.itoa ((n+1:Nat):Int),Lib.itoa v,Lib.itoa v,Av true,Av true,Av false,Lib.itoa 1] [] lo B2):=((((((((Ak1 M c lo).seq (Ak2 n Bk M hM c lo)).seq (Ak3 n k v hv M hk c lo)).seq (Ak4 n v Bk hv M hM hl c lo)).seq (Ak5 n v M c lo)).seq (Ak6 n v M c lo)).seq (Ak7 n v M c hc lo)).seq (Ak8 n v M c lo))
end
section
open Go.Deep (BT)
theorem Ajo{P:Dl}{bets:List Dc}{K:Nat}{m:MS}(hc:m.code=0){s:MS}(hs:s=mstart P)(h:Kq P bets K s (F4 m P.main P.main.length)):J1 P bets (1+K) (mstart P)=some (F4 m P.main P.main.length)/\nice P bets (1+K) (mstart P):=by
 have hno:(F4 m P.main P.main.length).now.steps[(F4 m P.main P.main.length).now.pc]?=none:=List.getElem?_eq_none (Nat.le_refl _);subst hs;refine⟨?_,h.2 1 ?_⟩
 ·rw[h.1,J1,if_neg (by show ¬m.code≠0;rw[hc];simp),hno]
 ·intro _ i hi;rw[hno]at hi;cases hi
theorem Alo(rs:List Int)(k:Nat)(v:Int)(hr:∀r∈rs,Cf r)(hl:rs.length<=12)(hk:k<rs.length+1)(hv:Cf v):∃n m',n<=300/\J1 (J3 rs k v) [bS k] n (mstart (J3 rs k v))=some m'/\nice (J3 rs k v) [bS k] n (mstart (J3 rs k v))/\m'.code=0/\m'.out=Pt (rs.length+1) v:=by
 obtain⟨k1,hk1,h2⟩:=Ai3 (P:=J3 rs k v) (bets:=[bS k]) rs [ofInt 0] 1 hr z51a;obtain⟨L,hL⟩:∃L,L=[ofInt 0]++rs.map ofInt:=⟨_,rfl⟩;rw[←hL]at h2;have hLl:L.length=rs.length+1:=by rw[hL];simp
 have h3:=Ao0 (P:=J3 rs k v) (bets:=[bS k]) (k:Nat) L (1+rs.length) z51a;have h4:Bo (J3 rs k v) [bS k] (Jx v).length (Jx v) (cs [Ae 0,ofInt (k:Nat)] Bf [L,[Ae 0],[ofInt 0]] (1+rs.length+2) 2000 [] [] Ee B2) (cs [Ae 0,ofInt (k:Nat),ofInt v] Bf [L,[Ae 0],[ofInt 0]] (1+rs.length+2) 2000 [] [] Ee B2):=rDec v hv;have h5:=A9n (P:=J3 rs k v) rfl k v L z51a (1+rs.length+2) z51a;have hz:(L.set k (ofInt v)).length=rs.length+1:=by simp[hLl]
 have hM:(L.set k (ofInt v)++[ofInt v]).length=rs.length+1+1:=by rw[List.length_append,hz];rfl
 have h6:=Ao1 (P:=J3 rs k v) (bets:=[bS k]) (rs.length+1) k v ⟨by omega,by omega⟩ hv (L.set k (ofInt v)++[ofInt v]) hM (by rw[List.getElem?_append_left z51a,List.getElem?_set_self z51a]) (by rw[List.getElem?_append_right z51a,hz,Nat.sub_self];rfl) (1+rs.length+2+1) z51a (H9 (k:Nat));have hd:=b6 v;have hall:=Afd.seq (h2.seq (h3.seq (h4.seq (h5.seq h6))));have hgo:=hall (J3 rs k v).main 0 (fun j i hj=>by rw[Nat.zero_add];exact hj);rw[Nat.zero_add]at hgo;obtain⟨e1,e2⟩:=Ajo (P:=J3 rs k v) (bets:=[bS k]) rfl (s:=F4 (cs [] [Ab,Ab,Ab,Ab] [] 0 2000 [] [] Ee B2) (J3 rs k v).main 0) rfl hgo;exact⟨_,_,by omega,e1,e2,rfl,rfl⟩
theorem Acp(rs:List Int)(k:Nat)(v:Int)(hr:∀r∈rs,Cf r)(hk:Cf (k:Nat))(hv:Cf v):O1 3 (J3 rs k v):=by
 refine⟨by show(0:Nat)<=3;omega,?_,?_⟩
 ·intro i hi;show Jq 1 i;simp only[J3,List.mem_append,List.mem_flatMap]at hi;rcases hi with hi|⟨r,hq,hi⟩|hi
  ·exact Tu (by rfl) i hi
  ·simp only[Pk,List.mem_cons,List.mem_append]at hi;rcases hi with rfl|hi|rfl|rfl|hi
   ·exact Og (by rfl)
   ·exact A0h r (hr r hq) i hi
   ·exact Og (by rfl)
   ·exact Og (by rfl)
   ·cases hi
  ·simp only[V0,List.mem_append]at hi;rcases hi with hi|hi|hi
   ·simp only[Yf,List.mem_cons,List.not_mem_nil,or_false]at hi;rcases hi with rfl|rfl|rfl|rfl|rfl|rfl|rfl|rfl|rfl|rfl;all_goals first|exact Og (by rfl)|exact Rm _ hk
   ·exact A0h v hv i hi
   ·simp only[Yg,List.mem_cons,List.not_mem_nil,or_false]at hi;rcases hi with rfl|rfl|rfl|rfl|rfl|rfl|rfl|rfl|rfl|rfl|rfl|rfl|rfl|rfl|rfl|rfl|rfl|rfl|rfl|rfl|rfl|rfl|rfl|rfl|rfl|rfl|rfl|rfl|rfl|rfl|rfl|rfl|rfl|rfl|rfl|rfl;all_goals first|exact Og (by rfl)|exact Rm _ hk
 ·intro f hf;simp only[J3,List.mem_singleton]at hf;rw[hf];exact⟨Nat.le_refl 3,Nat.le_refl 3,Tu (by rfl)⟩
theorem Tf(f g:BT A6):bsize (C4 f g)=bsize f+bsize g:=by
 induction f with
 | nil=>rw[C4,show bsize (.nil:BT A6)=0 from rfl,Nat.zero_add]
 | node x y l c r _ ih=>rw[C4,bsize,bsize,ih];omega
theorem z3za {P:Prop} (h:P:=by
  exact of_decide_eq_true (by kernel_rfl)):P:=h
theorem A9j(r:Int):bsize (Nx r)<=20:=by
 unfold Nx Re;by_cases h:r<0
 ·rw[if_pos h];exact z3za
 ·rw[if_neg h];exact z3za
theorem A9k:∀rs:List Int,bsize (Lg rs)<=20*rs.length:=by
 intro rs;induction rs with
 | nil=>exact Nat.zero_le _
 | cons r rs ih=>have:=A9j r;rw[Lg,Tf,List.length_cons];omega
theorem A9l(k v:Int):bsize (Mi k v)<=500:=by
 unfold Mi J2;by_cases h:v<0
 ·rw[if_pos h];exact z3za
 ·rw[if_neg h];exact z3za
theorem A9i(rs:List Int)(k v:Int)(hl:rs.length<=20):bsize (Mj rs k v)<=4002:=by
 have h1:=A9k rs;have h2:=A9l k v;have h3:bsize Qd+bsize Qf<=500:=of_decide_eq_true (by kernel_rfl);unfold Mj;rw[Tf,Tf,Tf];omega
theorem Ah3(rs:List Int)(k v:Int)(hl:rs.length<=12)(hr:∀r∈rs,Cf r)(hk0:0<=k)(hk:Cf k)(hv:Cf v):Px (Mk rs k v):=fun ts' h'=>by
 have:=(A19 rs k v hr hk hv _ (Nat.lt_succ_self _)).symm.trans h';cases this;exact⟨_,A20 rs k v z51a hk0,fun _=>A9i rs k v z51a⟩
end
end Go.Proofs.YtjdlndhfaaolaaaGreatDoor
