import Derived.Test.YtjdlndhfaaolaaaGreatDoorR05
set_option maxHeartbeats 20000000
namespace Go.Proofs.YtjdlndhfaaolaaaGreatDoor
section
set_option maxRecDepth 100000
open Go.RowKit
theorem Z9(c:UInt8):(decide (48<=(c.toNat:Int))&&decide ((c.toNat:Int)<=57))=Cd c:=by
 unfold Cd;congr 1 <;> (apply decide_eq_decide.2;omega)
theorem Za(c:UInt8):((decide (97<=(c.toNat:Int))&&decide ((c.toNat:Int)<=122))||(decide (65<=(c.toNat:Int))&&decide ((c.toNat:Int)<=90)))=isLet c:=by
 unfold isLet;congr 1 <;> congr 1 <;> (apply decide_eq_decide.2;omega)
theorem Pf(c:UInt8)(w:World):Calls Tryz.prog 101 #[.int .u8 c.toNat] w fun e w'=>e=.returned (.bool (Cd c))/\w'=w:=by
 have:=A4k (c.toNat:Int) w;rw[Z9]at this;exact this
theorem Pm(c:UInt8)(w:World):Calls Tryz.prog 102 #[.int .u8 c.toNat] w fun e w'=>e=.returned (.bool (isLet c))/\w'=w:=by
 have:=A6r (c.toNat:Int) w;rw[Za]at this;exact this
def Rj(q:Option (Tk×Nat))(K:Int)(S:List UInt8)(N:Int)(n:Nat):Prop:=match q with
 | none=>n=0
 | some x=>n=x.2/\K=Bz x.1.k/\(x.1.k≠2->S=Eu x.1)/\N=x.1.n
theorem A01(l:List UInt8)(i:Nat)(hi:i<l.length)(hd:Cd l[i]=true) :
  Dp (l.drop i)=match numOf ((l.drop i).takeWhile Cd) with
   | some n=>some (⟨2,0,[],n⟩,((l.drop i).takeWhile Cd).length)
   | none=>none:=by
 rw[List.drop_eq_getElem_cons hi,Dp,if_pos hd];cases numOf ((l[i]::l.drop (i+1)).takeWhile Cd) <;> rfl
theorem Acx(l:List UInt8)(i:Nat)(w:World)(hl:l.length<=100000)(hi:i<l.length)(hd:Cd l[i]=true) :
  Calls Tryz.prog 59 #[.string ⟨l.toArray⟩,.int .i64 i] w fun e w'=>∃K S N n,e=.returned (.tuple #[.agg #[.int .u8 K,.string ⟨S.toArray⟩,.int .i64 N,.int .i64 0],.int .i64 (n:Nat)])/\Rj (Dp (l.drop i)) K S N n/\Below w.heap.size w w':=by
 have hE:∀h,((⟨l.toArray⟩:ByteArray)[i]'h)=l[i]:=fun h=>L3 l i h;have HX:Hid (∀a b,(⟨l.toArray⟩:ByteArray).extract a b=⟨((l.drop a).take (b-a)).toArray⟩):=N5 l;go_enter Tryz.func59,Tryz.ntmps59;go_wp2_with fail
 refine(Pf _ _).mono ?_;rintro e w' ⟨rfl,rfl⟩;go_wp2_with fail
 refine(Pm _ _).mono ?_;rintro e w' ⟨rfl,rfl⟩;go_wp2;go_loop [7,8] (fun t d=>∃(k:Nat) (b:Bool),t=.int .i64 k/\d=.bool b/\i<=k/\k<=l.length/\((l.drop i).takeWhile Cd=(l.drop i).take (k-i)++(l.drop k).takeWhile Cd)/\(b=true->∃h:k<l.length,Cd l[k]=true)/\(b=false->∀h:k<l.length,Cd l[k]=false)) (fun t _=>l.length-(intOf t).toNat)
 case atStart=>exact⟨i,true,rfl,rfl,Nat.le_refl _,by omega,Ua _ _ _,(fun _=>⟨hi,hd⟩),(fun h=>by cases h)⟩
 case round=>
  obtain⟨k,b,rfl,rfl,Ks,Bk,htw,A3,A9⟩:=hrel;cases b
  ·have HT:=A0 (Rc _ l i k (A9 rfl) htw);clear htw A3 A9;have HV:=A0 (A01 l i hi hd);have HL:Hid (((l.drop i).take (k-i)).length=k-i):=by
    show _=_;simp;omega
   rw[HT.o]at HV;have HA:Hid (∀c∈(l.drop i).take (k-i),Cd c=true):=by rw[←HT.o];exact A06 Cd _
   have hx:=N5 l i k;clear HT;generalize (l.drop i).take (k-i)=ds at *;go_wp2_with fail
   refine(A7n ds _ (by rw[HL.o];omega) HA.o).mono ?_;rintro e w' ⟨rfl,rfl⟩;cases hn:numOf ds with
   | none=>
    rw[hn]at HV;simp only[Option.getD_none,Option.isSome_none];go_wp2;exact bodyPost_ret (v:=.tuple #[.agg #[.int .u8 0,.string ⟨[].toArray⟩,.int .i64 0,.int .i64 0],.int .i64 (0:Nat)]) (by simp[results,Tryz.results59,go_sem]) rfl
     ⟨0,[],0,0,rfl,by rw[HV.o];rfl,by repeat (first|exact Below.refl _ _|refine Below.alloc ?_ (by simp) _|refine Below.setCell ?_ (by simp) _|refine Below.drew ?_)⟩
   | some n=>
    rw[hn]at HV;simp only[Option.getD_some,Option.isSome_some];go_wp2;exact bodyPost_ret (v:=.tuple #[.agg #[.int .u8 105,.string ⟨ds.toArray⟩,.int .i64 n,.int .i64 0],.int .i64 (k-i:Nat)]) (by simp[results,Tryz.results59,go_sem];omega) rfl
     ⟨105,ds,n,k-i,rfl,by rw[HV.o];exact⟨HL.o.symm,rfl,fun h=>absurd rfl h,rfl⟩,by repeat (first|exact Below.refl _ _|refine Below.alloc ?_ (by simp) _|refine Below.setCell ?_ (by simp) _|refine Below.drew ?_)⟩
  ·obtain⟨hlt,hdk⟩:=A3 rfl;have HT:=A0 (Ub _ l i k Ks hlt hdk htw);clear htw A3 A9 hdk;by_cases hlt2:k+1<l.length
   ·have hE2:∀h,((⟨l.toArray⟩:ByteArray)[k+1]'h)=l[k+1]:=fun h=>L3 l (k+1) h;go_wp2_with fail
    refine(Pf _ _).mono ?_;rintro e w' ⟨rfl,rfl⟩;go_wp2;go_round
    case rel=>exact⟨k+1,_,by go_num,rfl,by omega,by omega,HT.o,fun h=>⟨hlt2,h⟩,fun h _=>h⟩
    case measure=>simp[intOf];omega
   ·go_wp2;go_round
    case rel=>exact⟨k+1,_,by go_num,rfl,by omega,by omega,HT.o,(fun h=>by cases h),(fun h hh=>absurd hh hlt2)⟩
    case measure=>simp[intOf];omega
theorem A02(l:List UInt8)(i:Nat)(hi:i<l.length)(hd:Cd l[i]=false)(ha:isLet l[i]=true) :
  Dp (l.drop i)=if Iz ((l.drop i).takeWhile Ct) !=0 then some (⟨Iz ((l.drop i).takeWhile Ct),0,[],0⟩,((l.drop i).takeWhile Ct).length)
   else if((l.drop i).takeWhile Ct).length<=16 then some (⟨1,0,(l.drop i).takeWhile Ct,0⟩,((l.drop i).takeWhile Ct).length) else none:=by
 rw[List.drop_eq_getElem_cons hi,Dp,if_neg (by simp[hd]),if_pos ha]
theorem A6q(c:UInt8)(h:isLet c=true):Ct c=true:=by simp[Ct,h]
theorem Aa1(k:Nat)(h:4<=k)(h':k<=17):119=Bz k:=by
 unfold Bz;rw[if_neg (by omega),if_neg (by omega),if_neg (by omega),if_neg (by omega),if_pos h']
theorem Aa0(k:Nat)(h:18<=k):115=Bz k:=by
 unfold Bz;rw[if_neg (by omega),if_neg (by omega),if_neg (by omega),if_neg (by omega),if_neg (by omega)]
theorem n4{n:Nat}{s:List UInt8}{m:Int}(k:Nat)(h:4<=k):Eu ⟨k,n,s,m⟩=spell k:=by
 unfold Eu;rw[if_neg (by show ¬(k=1\/k=3);omega)]
theorem Acy(l:List UInt8)(i:Nat)(w:World)(hl:l.length<=100000)(hi:i<l.length)(hd:Cd l[i]=false)(ha:isLet l[i]=true) :
  Calls Tryz.prog 59 #[.string ⟨l.toArray⟩,.int .i64 i] w fun e w'=>∃K S N n,e=.returned (.tuple #[.agg #[.int .u8 K,.string ⟨S.toArray⟩,.int .i64 N,.int .i64 0],.int .i64 (n:Nat)])/\Rj (Dp (l.drop i)) K S N n/\Below w.heap.size w w':=by
 have hE:∀h,((⟨l.toArray⟩:ByteArray)[i]'h)=l[i]:=fun h=>L3 l i h;go_enter Tryz.func59,Tryz.ntmps59;go_wp2_with fail
 refine(Pf _ _).mono ?_;rintro e w' ⟨rfl,rfl⟩;go_wp2_with fail
 refine(Pm _ _).mono ?_;rintro e w' ⟨rfl,rfl⟩;go_wp2;go_loop [7,9] (fun t d=>∃(k:Nat) (b:Bool),t=.int .i64 k/\d=.bool b/\i<=k/\k<=l.length/\((l.drop i).takeWhile Ct=(l.drop i).take (k-i)++(l.drop k).takeWhile Ct)/\(b=true->∃h:k<l.length,Ct l[k]=true)/\(b=false->∀h:k<l.length,Ct l[k]=false)) (fun t _=>l.length-(intOf t).toNat)
 case atStart=>exact⟨i,true,rfl,rfl,Nat.le_refl _,by omega,Ua _ _ _,(fun _=>⟨hi,A6q _ ha⟩),(fun h=>by cases h)⟩
 case round=>
  obtain⟨k,b,rfl,rfl,Ks,Bk,htw,A3,A9⟩:=hrel;cases b
  ·have HT:=A0 (Rc _ l i k (A9 rfl) htw);clear htw A3 A9;have HV:=A0 (A02 l i hi hd ha);have HL:Hid (((l.drop i).take (k-i)).length=k-i):=by
    show _=_;simp;omega
   rw[HT.o]at HV;have HA:Hid (∀c∈(l.drop i).take (k-i),c≠32):=by rw[←HT.o];exact fun c hc=>A6c c (A06 Ct _ c hc)
   have hx:=N5 l i k;clear HT;generalize (l.drop i).take (k-i)=ds at *;go_wp2_with fail
   refine(La ds Ue _ (by rw[HL.o];omega) (by decide)).mono ?_;rintro e w' ⟨rfl,rfl⟩;rw[A1p ds HA.o];cases hw:Iz ds !=0
   ·rw[hw]at HV;by_cases h16:k-i<=16
    ·have h16':(k:Int)-i<=16:=by omega
     have HV2:Hid (Dp (l.drop i)=some (⟨1,0,ds,0⟩,k-i)):=by
      show _=_;rw[HV.o,if_neg (by simp),if_pos (by rw[HL.o];exact h16),HL.o]
     clear HV;go_wp2;exact bodyPost_ret (v:=.tuple #[.agg #[.int .u8 110,.string ⟨ds.toArray⟩,.int .i64 0,.int .i64 0],.int .i64 (k-i:Nat)]) (by simp[results,Tryz.results59,go_sem];omega) rfl
      ⟨110,ds,0,k-i,rfl,by rw[HV2.o];exact⟨rfl,rfl,(fun _=>rfl),rfl⟩,by repeat (first|exact Below.refl _ _|refine Below.alloc ?_ (by simp) _|refine Below.setCell ?_ (by simp) _|refine Below.drew ?_)⟩
    ·have h16':16<(k:Int)-i:=by omega
     have HV2:Hid (Dp (l.drop i)=none):=by
      show _=_;rw[HV.o,if_neg (by simp),if_neg (by rw[HL.o];exact h16)]
     clear HV;go_wp2;exact bodyPost_ret (v:=.tuple #[.agg #[.int .u8 110,.string ⟨ds.toArray⟩,.int .i64 0,.int .i64 0],.int .i64 (0:Nat)]) (by simp[results,Tryz.results59,go_sem]) rfl
      ⟨110,ds,0,0,rfl,by rw[HV2.o];rfl,by repeat (first|exact Below.refl _ _|refine Below.alloc ?_ (by simp) _|refine Below.setCell ?_ (by simp) _|refine Below.drew ?_)⟩
   ·rw[hw]at HV;have hwn:Iz ds≠0:=by simpa using hw
    have HW:=A0 (Adx ds hwn);have h8:=Adw ds hwn;have h16':(k:Int)-i<=16:=by rw[HL.o]at h8;omega
    have HV2:Hid (Dp (l.drop i)=some (⟨Iz ds,0,[],0⟩,k-i)):=by
     show _=_;rw[HV.o,if_pos rfl,HL.o]
    clear HV h8 hwn;go_wp2;exact bodyPost_ret (v:=.tuple #[.agg #[.int .u8 119,.string ⟨ds.toArray⟩,.int .i64 0,.int .i64 0],.int .i64 (k-i:Nat)]) (by simp[results,Tryz.results59,go_sem];omega) rfl
     ⟨119,ds,0,k-i,rfl,by rw[HV2.o];exact⟨rfl,Aa1 _ HW.o.2.1 HW.o.2.2,(fun _=>by rw[n4 _ HW.o.2.1];exact HW.o.1.symm),rfl⟩,by repeat (first|exact Below.refl _ _|refine Below.alloc ?_ (by simp) _|refine Below.setCell ?_ (by simp) _|refine Below.drew ?_)⟩
  ·obtain⟨hlt,hdk⟩:=A3 rfl;have HT:=A0 (Ub _ l i k Ks hlt hdk htw);clear htw A3 A9 hdk;by_cases hlt2:k+1<l.length
   ·have hE2:∀h,((⟨l.toArray⟩:ByteArray)[k+1]'h)=l[k+1]:=fun h=>L3 l (k+1) h;cases h1:isLet l[k+1]
    ·cases h2:Cd l[k+1]
     ·cases h3:((l[k+1].toNat:Int)==95);all_goals
       have HN:Hid (Ct l[k+1]=((l[k+1].toNat:Int)==95)):=by
        show _=_;rw[Ct,h1,h2,Bool.false_or,Bool.false_or];by_cases e:l[k+1]=95
        ·rw[Km (n:=95) rfl e,e];rfl
        ·rw[Ht (n:=95) rfl e];simpa using e
       go_wp2_with fail
       refine(Pm _ _).mono ?_;rintro e w' ⟨rfl,rfl⟩;go_wp2_with fail
       refine(Pf _ _).mono ?_;rintro e w' ⟨rfl,rfl⟩;go_wp2;go_round
       case rel=>exact⟨k+1,_,by go_num,rfl,by omega,by omega,HT.o,(fun h=>⟨hlt2,HN.o.trans (h3.trans h)⟩),(fun h _=>HN.o.trans (h3.trans h))⟩
       case measure=>simp[intOf];omega
     ·have HN:Hid (Ct l[k+1]=true):=by
       show _=_;rw[Ct,h1,h2];rfl
      go_wp2_with fail
      refine(Pm _ _).mono ?_;rintro e w' ⟨rfl,rfl⟩;go_wp2_with fail
      refine(Pf _ _).mono ?_;rintro e w' ⟨rfl,rfl⟩;go_wp2;go_round
      case rel=>exact⟨k+1,true,by go_num,rfl,by omega,by omega,HT.o,(fun _=>⟨hlt2,HN.o⟩),(fun h=>by cases h)⟩
      case measure=>simp[intOf];omega
    ·have HN:Hid (Ct l[k+1]=true):=by
      show _=_;rw[Ct,h1];rfl
     go_wp2_with fail
     refine(Pm _ _).mono ?_;rintro e w' ⟨rfl,rfl⟩;go_wp2;go_round
     case rel=>exact⟨k+1,true,by go_num,rfl,by omega,by omega,HT.o,(fun _=>⟨hlt2,HN.o⟩),(fun h=>by cases h)⟩
     case measure=>simp[intOf];omega
   ·go_wp2;go_round
    case rel=>exact⟨k+1,_,by go_num,rfl,by omega,by omega,HT.o,(fun h=>by cases h),(fun h hh=>absurd hh hlt2)⟩
    case measure=>simp[intOf];omega
theorem A03(l:List UInt8)(i:Nat)(hi:i<l.length)(hc:l[i]=34) :
  Dp (l.drop i)=match quot false (l.drop (i+1)) with
   | some x=>some (⟨3,0,x.1,0⟩,x.2+1)
   | none=>none:=by
 rw[List.drop_eq_getElem_cons hi,Dp,if_neg (by rw[hc];decide),if_neg (by rw[hc];decide),if_pos (by rw[hc];rfl)];cases quot false (l.drop (i+1)) <;> rfl
theorem A04(l:List UInt8)(i:Nat)(hi:i<l.length)(hd:Cd l[i]=false)(ha:isLet l[i]=false)(hc:l[i]≠34) :
  Dp (l.drop i)=if(Ep (l.drop i)).2==0 then none else some (⟨(Ep (l.drop i)).1,0,[],0⟩,(Ep (l.drop i)).2):=by
 rw[List.drop_eq_getElem_cons hi,Dp,if_neg (by simp[hd]),if_neg (by simp[ha]),if_neg (by simpa using hc)]
theorem Acz(l:List UInt8)(i:Nat)(w:World)(hl:l.length<=100000)(hi:i<l.length)(hc:l[i]=34) :
  Calls Tryz.prog 59 #[.string ⟨l.toArray⟩,.int .i64 i] w fun e w'=>∃K S N n,e=.returned (.tuple #[.agg #[.int .u8 K,.string ⟨S.toArray⟩,.int .i64 N,.int .i64 0],.int .i64 (n:Nat)])/\Rj (Dp (l.drop i)) K S N n/\Below w.heap.size w w':=by
 have hE:∀h,((⟨l.toArray⟩:ByteArray)[i]'h)=l[i]:=fun h=>L3 l i h;have hd:Cd l[i]=false:=by rw[hc];rfl
 have ha:isLet l[i]=false:=by rw[hc];rfl
 have t34:=Km (n:=34) rfl hc;have HV:=A0 (A03 l i hi hc);clear hc;go_enter Tryz.func59,Tryz.ntmps59;go_wp2_with fail
 refine(Pf _ _).mono ?_;rintro e w' ⟨rfl,rfl⟩;go_wp2_with fail
 refine(Pm _ _).mono ?_;rintro e w' ⟨rfl,rfl⟩;go_wp2_with fail
 refine(A9c l i _ hl hi).mono ?_;rintro e w' ⟨rfl,hb⟩;obtain⟨hcl,hfz⟩:=A28 hb;have hz:w.heap.size+1<w'.heap.size:=by have:=hb.size;simp at this;omega
 have c0:w'.cell? ⟨w.heap.size,0,none⟩=some (.int .u8 0):=(hcl _ _ (by simp;omega)).trans (by simp[go_sem]);have c1:w'.cell? ⟨w.heap.size,1,none⟩=some (.string ⟨#[]⟩):=(hcl _ _ (by simp;omega)).trans (by simp[go_sem]);have c2:w'.cell? ⟨w.heap.size,2,none⟩=some (.int .i64 0):=(hcl _ _ (by simp;omega)).trans (by simp[go_sem]);have c3:w'.cell? ⟨w.heap.size,3,none⟩=some (.int .i64 0):=(hcl _ _ (by simp;omega)).trans (by simp[go_sem]);go_wp2;cases hq:quot false (l.drop (i+1)) with
 | none=>
  rw[hq]at HV;exact bodyPost_ret (v:=.tuple #[.agg #[.int .u8 116,.string ⟨(Sa (quot false (l.drop (i+1)))).toArray⟩,.int .i64 0,.int .i64 0],.int .i64 (S8 (quot false (l.drop (i+1))):Nat)]) (by simp[results,Tryz.results59,go_sem,c0,c1,c2,c3,hq]) rfl
     ⟨116,_,0,_,rfl,by rw[HV.o,hq];rfl,by repeat (first|exact Below.refl _ _|exact(((Below.refl _ _).alloc (Nat.le_refl _) _).alloc (by simp) _).trans (hb.mono (by simp;omega))|refine Below.alloc ?_ (by simp) _|refine Below.setCell ?_ (by simp) _|refine Below.drew ?_)⟩
 | some x=>
  rw[hq]at HV;exact bodyPost_ret (v:=.tuple #[.agg #[.int .u8 116,.string ⟨(Sa (quot false (l.drop (i+1)))).toArray⟩,.int .i64 0,.int .i64 0],.int .i64 (S8 (quot false (l.drop (i+1))):Nat)]) (by simp[results,Tryz.results59,go_sem,c0,c1,c2,c3,hq]) rfl
     ⟨116,_,0,_,rfl,by rw[HV.o,hq];exact⟨rfl,rfl,(fun _=>rfl),rfl⟩,by repeat (first|exact Below.refl _ _|exact(((Below.refl _ _).alloc (Nat.le_refl _) _).alloc (by simp) _).trans (hb.mono (by simp;omega))|refine Below.alloc ?_ (by simp) _|refine Below.setCell ?_ (by simp) _|refine Below.drew ?_)⟩
theorem Ad0(l:List UInt8)(i:Nat)(w:World)(hl:l.length<=100000)(hi:i<l.length)(hd:Cd l[i]=false)(ha:isLet l[i]=false)(hc:l[i]≠34)(hs:l[i]≠32) :
  Calls Tryz.prog 59 #[.string ⟨l.toArray⟩,.int .i64 i] w fun e w'=>∃K S N n,e=.returned (.tuple #[.agg #[.int .u8 K,.string ⟨S.toArray⟩,.int .i64 N,.int .i64 0],.int .i64 (n:Nat)])/\Rj (Dp (l.drop i)) K S N n/\Below w.heap.size w w':=by
 have hE:∀h,((⟨l.toArray⟩:ByteArray)[i]'h)=l[i]:=fun h=>L3 l i h;have t34:=Ht (n:=34) rfl hc;have HV:=A0 (A04 l i hi hd ha hc);have HS:=A0 hs;have HW:=A0 (W9 (l.drop i));have HL:Hid ((Ep (l.drop i)).2<=l.length-i):=by
  by_cases h0:(Ep (l.drop i)).2=0
  ·show _<=_;omega
  ·have:=(W9 (l.drop i) h0).2.2.2;rw[List.length_drop]at this;exact this
 clear hc hs;have hx:=N5 l i;go_enter Tryz.func59,Tryz.ntmps59;go_wp2_with fail
 refine(Pf _ _).mono ?_;rintro e w' ⟨rfl,rfl⟩;go_wp2_with fail
 refine(Pm _ _).mono ?_;rintro e w' ⟨rfl,rfl⟩;go_wp2_with fail
 refine(Abg l i _ hl hi HS.o).mono ?_;rintro e w' ⟨rfl,rfl⟩;have hle:i+(Ep (l.drop i)).2<=l.length:=by have:=HL.o;omega
 generalize hgn:(Ep (l.drop i)).2=n at *;generalize hgk:(Ep (l.drop i)).1=kk at *;have HGN:=A0 hgn;have HGK:=A0 hgk;clear hgn hgk;by_cases h0:n=0
 ·have HV2:Hid (Dp (l.drop i)=none):=by
   show _=_;rw[HV.o,h0];rfl
  subst h0;go_wp2;exact bodyPost_ret (v:=.tuple #[.agg #[.int .u8 115,.string ⟨[].toArray⟩,.int .i64 0,.int .i64 0],.int .i64 (0:Nat)]) (by simp[results,Tryz.results59,go_sem];rfl) rfl
   ⟨115,_,0,0,rfl,by rw[HV2.o];rfl,by repeat (first|exact Below.refl _ _|refine Below.alloc ?_ (by simp) _|refine Below.setCell ?_ (by simp) _|refine Below.drew ?_)⟩
 ·have HV2:Hid (Dp (l.drop i)=some (⟨kk,0,[],0⟩,n)):=by
   show _=_;rw[HV.o,if_neg (by simpa using h0)]
  have HW2:=A0 (HW.o h0);clear h0;go_wp2;exact bodyPost_ret (v:=.tuple #[.agg #[.int .u8 115,.string ⟨((l.drop i).take (i+n-i)).toArray⟩,.int .i64 0,.int .i64 0],.int .i64 (n:Nat)]) (by simp[results,Tryz.results59,go_sem]) rfl
   ⟨115,_,0,n,rfl,by rw[HV2.o];exact⟨rfl,Aa0 _ HW2.o.2.1,(fun _=>by rw[n4 _ (by have:=HW2.o.2.1;omega),HW2.o.1,Nat.add_sub_cancel_left]),rfl⟩,by repeat (first|exact Below.refl _ _|refine Below.alloc ?_ (by simp) _|refine Below.setCell ?_ (by simp) _|refine Below.drew ?_)⟩
end
end Go.Proofs.YtjdlndhfaaolaaaGreatDoor
