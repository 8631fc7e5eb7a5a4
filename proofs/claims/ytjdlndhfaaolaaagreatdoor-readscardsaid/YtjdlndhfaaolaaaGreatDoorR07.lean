import Derived.Test.YtjdlndhfaaolaaaGreatDoorR06
set_option maxHeartbeats 20000000
namespace Go.Proofs.YtjdlndhfaaolaaaGreatDoor
section
set_option maxRecDepth 100000
open Go.RowKit
theorem Rr:(Tryz.prog.info? 174).map (fun i=>(i.zero,i.size,i.bytes))=some (some (.agg #[.int .u8 0,.string ⟨#[]⟩,.int .i64 0,.int .i64 0]),4,40):=by kernel_rfl
theorem Wj(l:List UInt8)(i:Nat)(w:World)(hl:l.length<=100000)(hi:i<l.length)(hs:l[i]≠32) :
  Calls Tryz.prog 59 #[.string ⟨l.toArray⟩,.int .i64 i] w fun e w'=>∃K S N n,e=.returned (.tuple #[.agg #[.int .u8 K,.string ⟨S.toArray⟩,.int .i64 N,.int .i64 0],.int .i64 (n:Nat)])/\Rj (Dp (l.drop i)) K S N n/\Below w.heap.size w w':=by
 cases hd:Cd l[i]
 ·cases ha:isLet l[i]
  ·by_cases hc:l[i]=34
   ·exact Acz l i w hl hi hc
   ·exact Ad0 l i w hl hi hd ha hc hs
  ·exact Acy l i w hl hi hd ha
 ·exact Acx l i w hl hi hd
def A1g(r:Nat ⊕ List Tk)(v:Value)(n:Nat)(base:Nat)(w':World):Prop:=match r with
 | .inl ln=>n=ln
 | .inr ts=>n=0/\∃xs:List (Tk×List UInt8),xs.map (·.1)=ts/\U6 xs/\w'.ownsRow base 174 4 v xs.length (Jc xs)
theorem Sg{x:Tk×List UInt8}:∀u∈H9 x,u.oneCell'=true:=by
 intro u hu;simp only[H9,List.mem_cons,List.not_mem_nil,or_false]at hu;rcases hu with rfl|rfl|rfl|rfl <;> rfl
theorem U8(l:List UInt8)(w:World)(hl:l.length<=100000) :
  Calls Tryz.prog 43 #[.string ⟨l.toArray⟩] w fun e w'=>∃v n,e=.returned (.tuple #[v,.int .i64 (n:Nat)])/\A1g (lex (l.length+1) l 1 false) v n w.heap.size w'/\Below w.heap.size w w':=by
 go_enter Tryz.func43,Tryz.ntmps43;go_wp2;go_loopw [4,5,6,7] (fun v t s i wr=>∃(k ln f:Nat) (sd:Bool) (xs:List (Tk×List UInt8)),k<=l.length/\i=.int .i64 k/\t=.int .i64 ln/\s=.bool sd/\ln<=k+1/\l.length-k<f/\xs.length<=k/\
   wr.ownsRow w.heap.size 174 4 v xs.length (Jc xs)/\U6 xs/\Below w.heap.size w wr/\lex (l.length+1) l 1 false=Ru xs (lex f (l.drop k) ln sd)) (fun _ _ _ i _=>l.length-(intOf i).toNat)
 case atStart=>
  exact⟨0,1,l.length+1,false,[],Nat.zero_le _,rfl,rfl,rfl,by omega,by omega,by simp,World.ownsRow_nil _ _ _ _,(fun x hx=>by cases hx),Below.refl _ _,by rw[A6s];rfl⟩
 case round=>
  obtain⟨k,ln,f,sd,xs,hk,rfl,rfl,rfl,hln,hf,hxs,hown,hok,hbel,hlex⟩:=hrel;obtain⟨f,rfl⟩:∃f',f=f'+1:=⟨f-1,by omega⟩;have HX:=A0 hlex;have HO:=A0 hok;clear hlex hok;by_cases hlt:k<l.length
  ·have hE:∀h,((⟨l.toArray⟩:ByteArray)[k]'h)=l[k]:=fun h=>L3 l k h;by_cases h10:l[k]=10
   ·have t10:=Km (n:=10) rfl h10;have HN:=A0 (A6x l k f ln sd hlt h10);clear h10;go_wp2;go_roundw
    case rel=>exact⟨k+1,ln+1,f,false,xs,by omega,by go_num,by go_num,rfl,by omega,by omega,by omega,hown,HO.o,hbel,by rw[HX.o,HN.o]⟩
    case measure=>simp[intOf];omega
   ·have t10:=Ht (n:=10) rfl h10;by_cases hpr:l[k]=9\/Ez l[k]=true
    ·by_cases h9:l[k]=9
     ·have t9:=Qn (n:=9) rfl h9;have s9:=Km (n:=9) rfl h9;have t47:=Ht (c:=l[k]) (d:=47) (n:=47) rfl (by rw[h9];decide);have hr:=n5 l k hlt (by rw[h9];decide);cases sd
      ·have HS:Hid ((false||Ix l k||l[k]==9||l[k]==32)=true):=by
        show _=_;simp[h9]
       have HN:=A0 (Ow l k f ln false hlt h10 hpr HS.o);have HR:=A0 hr;clear h10 hpr h9 hr;go_wp2;go_roundw
       case rel=>exact⟨k+1,ln,f,_,xs,by omega,by go_num,rfl,rfl,by omega,by omega,by omega,hown,HO.o,hbel,by rw[HX.o,HN.o,HR.o];rfl⟩
       case measure=>simp[intOf];omega
      ·have HS:Hid ((true||Ix l k||l[k]==9||l[k]==32)=true):=by
        show _=_;simp
       have HN:=A0 (Ow l k f ln true hlt h10 hpr HS.o);have HR:=A0 hr;clear h10 hpr h9 hr;go_wp2;go_roundw
       case rel=>exact⟨k+1,ln,f,_,xs,by omega,by go_num,rfl,rfl,by omega,by omega,by omega,hown,HO.o,hbel,by rw[HX.o,HN.o,HR.o];rfl⟩
       case measure=>simp[intOf];omega
     ·have t9:=Nk (n:=9) rfl h9;have s9:=Ht (n:=9) rfl h9;have hp:Ez l[k]=true:=by rcases hpr with e|e;exact absurd e h9;exact e
      have Dw:=hp;simp only[Ez,Bool.and_eq_true,decide_eq_true_eq]at Dw;have p0:32<=(l[k].toNat:Int):=by omega
      have p1:(l[k].toNat:Int)<=126:=by omega
      clear Dw hpr;by_cases h47:l[k]=47
      ·have t47:=Km (n:=47) rfl h47;have h32:l[k]≠32:=by rw[h47];decide
       have s32:=Ht (n:=32) rfl h32;by_cases hlt2:k+1<l.length
       ·have hE2:∀h,((⟨l.toArray⟩:ByteArray)[k+1]'h)=l[k+1]:=fun h=>L3 l (k+1) h;by_cases n47:l[k+1]=47
        ·have u47:=Km (n:=47) rfl n47;have HR:=A0 (Aa4 l k hlt2 h47 n47);cases sd
         ·have HS:Hid ((false||Ix l k||l[k]==9||l[k]==32)=true):=by
           show _=_;rw[HR.o];rfl
          have HN:=A0 (Ow l k f ln false hlt h10 (.inr hp) HS.o);clear h10 hp h9 h47 h32 n47;go_wp2;go_roundw
          case rel=>exact⟨k+1,ln,f,_,xs,by omega,by go_num,rfl,rfl,by omega,by omega,by omega,hown,HO.o,hbel,by rw[HX.o,HN.o,HR.o];rfl⟩
          case measure=>simp[intOf];omega
         ·have HS:Hid ((true||Ix l k||l[k]==9||l[k]==32)=true):=by
           show _=_;simp
          have HN:=A0 (Ow l k f ln true hlt h10 (.inr hp) HS.o);clear h10 hp h9 h47 h32 n47;go_wp2;go_roundw
          case rel=>exact⟨k+1,ln,f,_,xs,by omega,by go_num,rfl,rfl,by omega,by omega,by omega,hown,HO.o,hbel,by rw[HX.o,HN.o,HR.o];rfl⟩
          case measure=>simp[intOf];omega
        ·have u47:=Ht (n:=47) rfl n47;have HR:=A0 (Aa2 l k hlt2 n47);cases sd
         ·have HS:Hid ((false||Ix l k||l[k]==9||l[k]==32)=false):=by
           show _=_;rw[HR.o];simp[h9,h32]
          have H10:=A0 h10;have HP:=A0 hp;have H32:=A0 h32;clear h10 hp h32 h9 h47 n47;go_wp2_with fail
          refine(Wj l k _ hl hlt H32.o).mono ?_;rintro e w' ⟨K,S,N,n,rfl,hout,hb⟩;cases htk:Dp (l.drop k) with
          | none=>
           rw[htk]at hout;have hn:n=0:=hout;have HN:=A0 (Vd l k f ln false hlt H10.o HP.o HS.o htk);subst hn;clear htk hout;go_wp2;go_ret2
           exact⟨_,ln,rfl,by rw[HX.o,HN.o];exact rfl,(hbel.trans (hb.mono hbel.size)).alloc (by have:=hbel.size;have:=hb.size;omega) _⟩
          | some x=>
           obtain⟨t,m⟩:=x;rw[htk]at hout;obtain⟨hn,hK,hS,hN⟩:=hout;simp only at hn hK hS hN;have HL:=U7 _ _ _ htk;rw[List.length_drop]at HL;have HN:=A0 (Ve l k f ln false hlt H10.o HP.o HS.o t m htk xs S);subst hn hK hN;have HSS:=A0 hS;have hm0:((n:Int)==0)=false:=by rw[beq_eq_false_iff_ne];omega
           clear htk hS;have Iv:=(Vj hown hb).alloc (.cells #[.int .u8 (Bz t.k),.string ⟨S.toArray⟩,.int .i64 t.n,.int .i64 ln] 174);go_wp2_with (at_builtin;refine F1 (w'.alloc (.cells #[.int .u8 (Bz t.k),.string ⟨S.toArray⟩,.int .i64 t.n,.int .i64 ln] 174)) (H9 ({ t with line:=ln },S)).toArray 174 rfl (.tmp 73) (.tmp 75) 75 rfl w.heap.size 4 40 (.agg #[.int .u8 0,.string ⟨#[]⟩,.int .i64 0,.int .i64 0]) Tryz.underlying75 Rr rfl (by omega) _ _ _ rfl (by simp;rfl) Iv rfl Sg (by omega) (by omega) (by have:=hbel.size;have:=hb.size;simp;omega) ?_;intro g cap w1 E1 hgrow hat hg)
           go_roundw
           case rel=>
            refine⟨k+n,ln,f,false,xs++[({ t with line:=ln },S)],by omega,by go_num,rfl,rfl,by omega,by omega,by simp;omega,by simpa [Jc]using E1,?_,?_,by rw[HX.o,HN.o]⟩
            ·intro x hx;rcases List.mem_append.1 hx with h|h
             ·exact HO.o x h
             ·simp only[List.mem_singleton]at h;subst h;exact HSS.o
            ·exact(((hbel.trans (hb.mono hbel.size)).alloc (by have:=hbel.size;have:=hb.size;omega) _)).grown hgrow (by have:=hbel.size;have:=hb.size;simp;omega) (P1 Iv)
           case measure=>simp[intOf];omega
         ·have HS:Hid ((true||Ix l k||l[k]==9||l[k]==32)=true):=by
           show _=_;simp
          have HN:=A0 (Ow l k f ln true hlt h10 (.inr hp) HS.o);clear h10 hp h9 h47 h32 n47;go_wp2;go_roundw
          case rel=>exact⟨k+1,ln,f,_,xs,by omega,by go_num,rfl,rfl,by omega,by omega,by omega,hown,HO.o,hbel,by rw[HX.o,HN.o,HR.o];rfl⟩
          case measure=>simp[intOf];omega
       ·have HR:=A0 (Aa3 l k (by omega));cases sd
        ·have HS:Hid ((false||Ix l k||l[k]==9||l[k]==32)=false):=by
          show _=_;rw[HR.o];simp[h9,h32]
         have H10:=A0 h10;have HP:=A0 hp;have H32:=A0 h32;clear h10 hp h32 h9 h47;go_wp2_with fail
         refine(Wj l k _ hl hlt H32.o).mono ?_;rintro e w' ⟨K,S,N,n,rfl,hout,hb⟩;cases htk:Dp (l.drop k) with
         | none=>
          rw[htk]at hout;have hn:n=0:=hout;have HN:=A0 (Vd l k f ln false hlt H10.o HP.o HS.o htk);subst hn;clear htk hout;go_wp2;go_ret2
          exact⟨_,ln,rfl,by rw[HX.o,HN.o];exact rfl,(hbel.trans (hb.mono hbel.size)).alloc (by have:=hbel.size;have:=hb.size;omega) _⟩
         | some x=>
          obtain⟨t,m⟩:=x;rw[htk]at hout;obtain⟨hn,hK,hS,hN⟩:=hout;simp only at hn hK hS hN;have HL:=U7 _ _ _ htk;rw[List.length_drop]at HL;have HN:=A0 (Ve l k f ln false hlt H10.o HP.o HS.o t m htk xs S);subst hn hK hN;have HSS:=A0 hS;have hm0:((n:Int)==0)=false:=by rw[beq_eq_false_iff_ne];omega
          clear htk hS;have Iv:=(Vj hown hb).alloc (.cells #[.int .u8 (Bz t.k),.string ⟨S.toArray⟩,.int .i64 t.n,.int .i64 ln] 174);go_wp2_with (at_builtin;refine F1 (w'.alloc (.cells #[.int .u8 (Bz t.k),.string ⟨S.toArray⟩,.int .i64 t.n,.int .i64 ln] 174)) (H9 ({ t with line:=ln },S)).toArray 174 rfl (.tmp 73) (.tmp 75) 75 rfl w.heap.size 4 40 (.agg #[.int .u8 0,.string ⟨#[]⟩,.int .i64 0,.int .i64 0]) Tryz.underlying75 Rr rfl (by omega) _ _ _ rfl (by simp;rfl) Iv rfl Sg (by omega) (by omega) (by have:=hbel.size;have:=hb.size;simp;omega) ?_;intro g cap w1 E1 hgrow hat hg)
          go_roundw
          case rel=>
           refine⟨k+n,ln,f,false,xs++[({ t with line:=ln },S)],by omega,by go_num,rfl,rfl,by omega,by omega,by simp;omega,by simpa [Jc]using E1,?_,?_,by rw[HX.o,HN.o]⟩
           ·intro x hx;rcases List.mem_append.1 hx with h|h
            ·exact HO.o x h
            ·simp only[List.mem_singleton]at h;subst h;exact HSS.o
           ·exact(((hbel.trans (hb.mono hbel.size)).alloc (by have:=hbel.size;have:=hb.size;omega) _)).grown hgrow (by have:=hbel.size;have:=hb.size;simp;omega) (P1 Iv)
          case measure=>simp[intOf];omega
        ·have HS:Hid ((true||Ix l k||l[k]==9||l[k]==32)=true):=by
          show _=_;simp
         have HN:=A0 (Ow l k f ln true hlt h10 (.inr hp) HS.o);clear h10 hp h9 h47 h32;go_wp2;go_roundw
         case rel=>exact⟨k+1,ln,f,_,xs,by omega,by go_num,rfl,rfl,by omega,by omega,by omega,hown,HO.o,hbel,by rw[HX.o,HN.o,HR.o];rfl⟩
         case measure=>simp[intOf];omega
      ·have t47:=Ht (n:=47) rfl h47;have HR:=A0 (n5 l k hlt h47);cases sd
       ·by_cases h32:l[k]=32
        ·have s32:=Km (n:=32) rfl h32;have HS:Hid ((false||Ix l k||l[k]==9||l[k]==32)=true):=by
          show _=_;simp[h32]
         have HN:=A0 (Ow l k f ln false hlt h10 (.inr hp) HS.o);clear h10 hp h9 h47 h32;go_wp2;go_roundw
         case rel=>exact⟨k+1,ln,f,_,xs,by omega,by go_num,rfl,rfl,by omega,by omega,by omega,hown,HO.o,hbel,by rw[HX.o,HN.o,HR.o];rfl⟩
         case measure=>simp[intOf];omega
        ·have s32:=Ht (n:=32) rfl h32;have HS:Hid ((false||Ix l k||l[k]==9||l[k]==32)=false):=by
          show _=_;rw[HR.o];simp[h9,h32]
         have H10:=A0 h10;have HP:=A0 hp;have H32:=A0 h32;clear h10 hp h32 h9 h47;go_wp2_with fail
         refine(Wj l k _ hl hlt H32.o).mono ?_;rintro e w' ⟨K,S,N,n,rfl,hout,hb⟩;cases htk:Dp (l.drop k) with
         | none=>
          rw[htk]at hout;have hn:n=0:=hout;have HN:=A0 (Vd l k f ln false hlt H10.o HP.o HS.o htk);subst hn;clear htk hout;go_wp2;go_ret2
          exact⟨_,ln,rfl,by rw[HX.o,HN.o];exact rfl,(hbel.trans (hb.mono hbel.size)).alloc (by have:=hbel.size;have:=hb.size;omega) _⟩
         | some x=>
          obtain⟨t,m⟩:=x;rw[htk]at hout;obtain⟨hn,hK,hS,hN⟩:=hout;simp only at hn hK hS hN;have HL:=U7 _ _ _ htk;rw[List.length_drop]at HL;have HN:=A0 (Ve l k f ln false hlt H10.o HP.o HS.o t m htk xs S);subst hn hK hN;have HSS:=A0 hS;have hm0:((n:Int)==0)=false:=by rw[beq_eq_false_iff_ne];omega
          clear htk hS;have Iv:=(Vj hown hb).alloc (.cells #[.int .u8 (Bz t.k),.string ⟨S.toArray⟩,.int .i64 t.n,.int .i64 ln] 174);go_wp2_with (at_builtin;refine F1 (w'.alloc (.cells #[.int .u8 (Bz t.k),.string ⟨S.toArray⟩,.int .i64 t.n,.int .i64 ln] 174)) (H9 ({ t with line:=ln },S)).toArray 174 rfl (.tmp 73) (.tmp 75) 75 rfl w.heap.size 4 40 (.agg #[.int .u8 0,.string ⟨#[]⟩,.int .i64 0,.int .i64 0]) Tryz.underlying75 Rr rfl (by omega) _ _ _ rfl (by simp;rfl) Iv rfl Sg (by omega) (by omega) (by have:=hbel.size;have:=hb.size;simp;omega) ?_;intro g cap w1 E1 hgrow hat hg)
          go_roundw
          case rel=>
           refine⟨k+n,ln,f,false,xs++[({ t with line:=ln },S)],by omega,by go_num,rfl,rfl,by omega,by omega,by simp;omega,by simpa [Jc]using E1,?_,?_,by rw[HX.o,HN.o]⟩
           ·intro x hx;rcases List.mem_append.1 hx with h|h
            ·exact HO.o x h
            ·simp only[List.mem_singleton]at h;subst h;exact HSS.o
           ·exact(((hbel.trans (hb.mono hbel.size)).alloc (by have:=hbel.size;have:=hb.size;omega) _)).grown hgrow (by have:=hbel.size;have:=hb.size;simp;omega) (P1 Iv)
          case measure=>simp[intOf];omega
       ·have HS:Hid ((true||Ix l k||l[k]==9||l[k]==32)=true):=by
         show _=_;simp
        have HN:=A0 (Ow l k f ln true hlt h10 (.inr hp) HS.o);clear h10 hp h9 h47;go_wp2;go_roundw
        case rel=>exact⟨k+1,ln,f,_,xs,by omega,by go_num,rfl,rfl,by omega,by omega,by omega,hown,HO.o,hbel,by rw[HX.o,HN.o,HR.o];rfl⟩
        case measure=>simp[intOf];omega
    ·have h9:l[k]≠9:=fun e=>hpr (.inl e);have hp:Ez l[k]=false:=by cases h:Ez l[k] <;> simp_all
     have HN:=A0 (A6t l k f ln sd hlt h10 h9 hp);have t9:=Nk (n:=9) rfl h9;simp only[Ez,Bool.and_eq_false_iff,decide_eq_false_iff_not]at hp;by_cases h32:(l[k].toNat:Int)<32
     ·clear hp hpr h9 h10;go_wp2;go_ret2
      exact⟨_,ln,rfl,by rw[HX.o,HN.o];exact rfl,hbel⟩
     ·have h126:126<(l[k].toNat:Int):=by omega
      clear hp hpr h9 h10;go_wp2;go_ret2
      exact⟨_,ln,rfl,by rw[HX.o,HN.o];exact rfl,hbel⟩
  ·have HN:=A0 (A6u l k f ln sd (by omega));go_wp2_with (at_builtin;refine F1 wr (H9 (⟨0,ln,[],0⟩,[])).toArray 174 rfl (.tmp 80) (.tmp 83) 75 rfl w.heap.size 4 40 (.agg #[.int .u8 0,.string ⟨#[]⟩,.int .i64 0,.int .i64 0]) Tryz.underlying75 Rr rfl (by omega) _ _ _ rfl rfl hown rfl Sg (by omega) (by omega) hbel.size ?_;intro g cap w1 E1 hgrow hat hg)
   go_ret2
   refine⟨_,0,rfl,?_,hbel.grown hgrow hbel.size (P1 hown)⟩;rw[HX.o,HN.o];refine⟨rfl,xs++[(⟨0,ln,[],0⟩,[])],by simp,?_,?_⟩
   ·intro x hx;rcases List.mem_append.1 hx with h|h
    ·exact HO.o x h
    ·simp only[List.mem_singleton]at h;subst h;intro _;rfl
   ·simpa [Jc]using E1
end
end Go.Proofs.YtjdlndhfaaolaaaGreatDoor
