import Derived.Test.YtjdlndhfaaolaaaGreatDoorY06
set_option maxHeartbeats 20000000
set_option linter.defProp false
namespace Go.Proofs.YtjdlndhfaaolaaaGreatDoor
section
open Go.RowKit
def Qj:(Tryz.prog.info? 5).map (fun i=>(i.zero,i.size,i.bytes))=some (some (.int .u8 0),1,1):=by kernel_rfl
def A57{w:World}{base:Nat}{v:Value}{bs:List UInt8}(h:w.ownsRow base 5 1 v bs.length (bs.map J5)) :
  (convert 85 9 v).run Tryz.prog w=.ok (.s bs) w:=by
 rcases h.2 with⟨rfl,h0⟩|⟨g,cap,cur,rfl,hb,hg,hc1,hc2,hsz,ht⟩
 ·have:bs=[]:=X3.1 h0;subst this;rw[run_convert_bytes_string w 85 9 5 none 0 0 Tryz.underlying85 Tryz.underlying5 Tryz.underlying9];rfl
 ·refine run_convert_bytes_back w 85 9 5 ⟨g,0,none⟩ cap bs Tryz.underlying85 Tryz.underlying5 Tryz.underlying9 ?_;intro j hj;rw[Addr.add_lit,K2 w g (0+j) cur 5 (0,0) hg];have e:cur.toList[j]?=(bs.map J5)[j]?:=by
   rw[←ht,Te,Mn]
  rw[Tf,←S9,e];simp[hj,J5]
end
section
def Aa0(p:UInt8->Bool)(l:List UInt8)(i:Nat):(l.drop i).takeWhile p=(l.drop i).take (i-i)++(l.drop i).takeWhile p:=by simp
def Aa1(p:UInt8->Bool)(l:List UInt8)(i k:Nat)(hk:i<=k)(hlt:k<l.length)(hp:p l[k]=true)(h:(l.drop i).takeWhile p=(l.drop i).take (k-i)++(l.drop k).takeWhile p) :
  (l.drop i).takeWhile p=(l.drop i).take (k+1-i)++(l.drop (k+1)).takeWhile p:=by
 rw[h,Gk hlt,Tg,hp];rw[show k+1-i=(k-i)+1 by omega,X4 z4qa];simp[show i+(k-i)=k by omega]
def Z2(p:UInt8->Bool)(l:List UInt8)(i k:Nat)(hp:∀h:k<l.length,p l[k]=false)(h:(l.drop i).takeWhile p=(l.drop i).take (k-i)++(l.drop k).takeWhile p) :
  (l.drop i).takeWhile p=(l.drop i).take (k-i):=by
 rw[h];by_cases hlt:k<l.length
 ·rw[Gk hlt,Tg,hp hlt];simp
 ·have:l.drop k=[]:=Z8 z4ma;rw[this];simp
def spell(k:Nat):List UInt8:=
 if k=4 then [102,110] else if k=5 then [108,101,116] else if k=6 then [105,102] else if k=7 then [101,108,115,101]
 else if k=8 then [119,104,105,108,101] else if k=9 then [114,101,116,117,114,110] else if k=10 then [98,114,101,97,107]
 else if k=11 then [99,111,110,116,105,110,117,101] else if k=12 then [112,114,105,110,116] else if k=13 then [116,114,117,101]
 else if k=14 then [102,97,108,115,101] else if k=15 then [110,117,108,108] else if k=16 then [108,101,110] else if k=17 then [112,117,115,104]
 else if k=18 then [40] else if k=19 then [41] else if k=20 then [123] else if k=21 then [125] else if k=22 then [91] else if k=23 then [93]
 else if k=24 then [44] else if k=25 then [59] else if k=26 then [61] else if k=27 then [61,61] else if k=28 then [33] else if k=29 then [33,61]
 else if k=30 then [60] else if k=31 then [60,61] else if k=32 then [62] else if k=33 then [62,61] else if k=34 then [43] else if k=35 then [45]
 else if k=36 then [42] else if k=37 then [47] else if k=38 then [37] else if k=39 then [38,38] else if k=40 then [124,124] else []
def ifs{x:Bool}{n m:Nat}{P:Nat->Prop}(h1:x=true->P n)(h2:x=false->P m):P (if x=true then n else m):=by
 cases x
 ·simpa using h2 rfl
 ·simpa using h1 rfl
def Asd(c d:UInt8)(h:Mk c d≠0):spell (Mk c d)=[c,d]/\18<=Mk c d/\Mk c d<=40:=by
 revert h;unfold Mk;iterate 6 (refine ifs (P:=fun k=>k≠0->spell k=[c,d]/\18<=k/\k<=40) (fun e _=>?_) (fun _=>?_);· rw[F3]at e;rw[eq_of_beq e.1,eq_of_beq e.2];decide)
 intro h;exact absurd rfl h
def A96(c:UInt8)(h:K1 c≠0):spell (K1 c)=[c]/\18<=K1 c/\K1 c<=40:=by
 revert h;unfold K1;iterate 17 (refine ifs (P:=fun k=>k≠0->spell k=[c]/\18<=k/\k<=40) (fun e _=>?_) (fun _=>?_);· rw[eq_of_beq e];decide)
 intro h;exact absurd rfl h
def Ase(l:List UInt8)(h:(I9 l).2≠0):spell (I9 l).1=l.take (I9 l).2/\18<=(I9 l).1/\(I9 l).1<=40/\(I9 l).2<=l.length:=by
 match l,h with
 | [],h=>exact absurd rfl h
 | [c],h=>
  rw[I9]at h ⊢;cases e:K1 c==0
  ·have:=A96 c (by simpa using e);simp[this]
  ·simp[e]at h
 | c::d::r,h=>
  rw[I9]at h ⊢;cases e2:Mk c d !=0
  ·cases e:K1 c==0
   ·have:=A96 c (by simpa using e);simp[this]
   ·simp[e,e2]at h
  ·have:=Asd c d (by simpa using e2);simp[this]
def A2s(p:UInt8->Bool)(c:UInt8)(r:List UInt8)(h:p c=true):0<((c::r).takeWhile p).length/\((c::r).takeWhile p).length<=(c::r).length:=by
 constructor
 ·rw[Tg,h];simp
 ·exact(Z9 p).length_le
def z48a {P:Prop} (h:P:=by
  split at h
  ·rename_i y hy;cases h;have:=ih false y hy;simp;exact this
  ·cases h):P:=h
def Apx:∀(r:List UInt8) (b:Bool) (x:List UInt8×Nat),quot b r=some x->x.2<=r.length:=by
 intro r;induction r with
 | nil=>intro b x h;cases b <;> cases h
 | cons c r ih=>
  intro b x h;cases b
  ·rw[quot]at h;split at h
   ·split at h
    ·cases h;simp
    ·split at h
     ·split at h
      ·rename_i y hy;cases h;have:=ih true y hy;simp;exact this
      ·cases h
     ·exact z48a
   ·cases h
  ·rw[quot]at h;split at h
   ·exact z48a
   ·cases h
def Avi(l:List UInt8)(t:Tk)(n:Nat)(h:Fq l=some (t,n)):0<n/\n<=l.length:=by
 cases l with
 | nil=>cases h
 | cons c r=>
  rw[Fq]at h;split at h
  ·rename_i hd;split at h
   ·simp only[Cg,Px]at h;rw[←h.2];exact A2s E5 c r hd
   ·cases h
  ·split at h
   ·rename_i ha;have ha':Es c=true:=by simp[Es,ha]
    split at h
    ·simp only[Cg,Px]at h;rw[←h.2];exact A2s Es c r ha'
    ·split at h
     ·simp only[Cg,Px]at h;rw[←h.2];exact A2s Es c r ha'
     ·cases h
   ·split at h
    ·split at h
     ·rename_i x hx;simp only[Cg,Px]at h;rw[←h.2];have:=Apx r false x hx;simp;exact this
     ·cases h
    ·split at h
     ·cases h
     ·rename_i hz;have hz':(I9 (c::r)).2≠0:=by simpa using hz
      simp only[Cg,Px]at h;rw[←h.2];exact⟨by omega,(Ase _ hz').2.2.2⟩
def Bg:Bool->List UInt8->Nat×Nat×Bool
 | _,[]=>(0,0,true)
 | true,c::r=>
  if c==10 then((Bg false r).1+1,(Bg false r).2.1+1,(Bg false r).2.2)
  else if c !=9&&!(Ja c) then(0,0,false)
  else((Bg true r).1+1,(Bg true r).2.1,(Bg true r).2.2)
 | false,c::r=>
  if c==10 then((Bg false r).1+1,(Bg false r).2.1+1,(Bg false r).2.2)
  else if c==32||c==9 then((Bg false r).1+1,(Bg false r).2.1,(Bg false r).2.2)
  else if c==47&&r.head?==some 47 then((Bg true r).1+1,(Bg true r).2.1,(Bg true r).2.2)
  else(0,0,true)
def Ew:List UInt8->Nat×Bool
 | []=>(0,true)
 | c::r=>if c==10 then(0,true) else if c !=9&&!(Ja c) then(0,false) else((Ew r).1+1,(Ew r).2)
def Aqb:∀l:List UInt8,(Ew l).1<=l.length:=by
 intro l;induction l with
 | nil=>simp[Ew]
 | cons c r ih=>
  rw[Ew];split
  ·simp
  split
  ·simp
  ·simp;exact ih
def A2b:∀(l:List UInt8) (b:Bool),(Bg b l).1<=l.length/\(Bg b l).2.1<=(Bg b l).1:=by
 intro l;induction l with
 | nil=>intro b;cases b <;> simp[Bg]
 | cons c r ih=>
  intro b;have h1:=ih true;have h0:=ih false;cases b
  ·rw[Bg];split
   ·simp;omega
   split
   ·simp;omega
   split
   ·simp;omega
   ·simp
  ·rw[Bg];split
   ·simp;omega
   split
   ·simp
   ·simp;omega
def Asn:∀l:List UInt8,Bg true l=if(Ew l).2 then((Ew l).1+(Bg false (l.drop (Ew l).1)).1,(Bg false (l.drop (Ew l).1)).2.1,(Bg false (l.drop (Ew l).1)).2.2) else((Ew l).1,0,false):=by
 intro l;induction l with
 | nil=>simp[Bg,Ew]
 | cons c r ih=>
  rw[Bg,Ew];by_cases h1:(c==10)=true
  ·simp only[h1,P6,Hl];rw[Bg,A7 h1];simp
  ·simp only[h1,Py,Oq];by_cases h2:(c !=9&&!(Ja c))=true
   ·simp[h2]
   ·simp only[h2,Py,Oq];rw[ih];by_cases h3:(Ew r).2=true
    ·simp only[h3,P6,Ia];refine Prod.ext ?_ rfl;simp only;omega
    ·simp only[h3,Py,Oq]
def Asl{c:UInt8}{r:List UInt8}(h:c=10):Bg false (c::r)=((Bg false r).1+1,(Bg false r).2.1+1,(Bg false r).2.2):=by
 subst h;rw[Bg,A7 (by decide)]
def Aso{c:UInt8}{r:List UInt8}(h:c=32\/c=9):Bg false (c::r)=((Bg false r).1+1,(Bg false r).2.1,(Bg false r).2.2):=by
 rcases h with h|h <;> subst h <;> rw[Bg,A1 (by decide),A7 (by decide)]
def Asm{c:UInt8}{r:List UInt8}(h:c=47)(hr:r.head?=some 47):Bg false (c::r)=Bg true (c::r):=by
 subst h;have h1:Bg false (47::r)=((Bg true r).1+1,(Bg true r).2.1,(Bg true r).2.2):=by
  rw[Bg,A1 (by decide),A1 (by decide),A7 (by rw[hr];decide)]
 have h2:Bg true (47::r)=((Bg true r).1+1,(Bg true r).2.1,(Bg true r).2.2):=by
  rw[Bg,A1 (by decide),A1 (by decide)]
 rw[h1,h2]
def A9a{c:UInt8}{r:List UInt8}(h1:c≠10)(h2:c≠32)(h3:c≠9)(h4:¬(c=47/\r.head?=some 47)):Bg false (c::r)=(0,0,true):=by
 rw[Bg,A1 (by simpa using h1),A1 (by simp[h2,h3]),A1];intro e;simp only[F3,Fh]at e;exact h4 e
end
section
open Go.RowKit
def Aky(c:UInt8):(decide (32<=(c.toNat:Int))&&decide ((c.toNat:Int)<=126))=Ja c:=by
 unfold Ja;congr 1 <;> (apply A31.2;omega)
def U0(c:UInt8)(w:World):Calls Tryz.prog 126 #[.int .u8 c.toNat] w fun e w'=>e=.returned (.bool (E5 c))/\w'=w:=by
 rw[←Akw];have hn:0<=(c.toNat:Int):=by omega
 generalize (c.toNat:Int)=n at *;by_cases h1:48<=n <;> by_cases h2:n<=57;all_goals
  go_in;go_wp2;go_ret;exact⟨by simp[h1,h2],rfl⟩
def Agv(c:UInt8)(w:World):Calls Tryz.prog 180 #[.int .u8 c.toNat] w fun e w'=>e=.returned (.bool (Ja c))/\w'=w:=by
 rw[←Aky];have hn:0<=(c.toNat:Int):=by omega
 generalize (c.toNat:Int)=n at *;by_cases h1:32<=n <;> by_cases h2:n<=126;all_goals
  go_in;go_wp2;go_ret;exact⟨by simp[h1,h2],rfl⟩
def Vl(c:UInt8)(w:World):Calls Tryz.prog 124 #[.int .u8 c.toNat] w fun e w'=>e=.returned (.bool (isLet c))/\w'=w:=by
 rw[←Akx];have hn:0<=(c.toNat:Int):=by omega
 generalize (c.toNat:Int)=n at *;by_cases h1:97<=n <;> by_cases h2:n<=122 <;> by_cases h3:65<=n <;> by_cases h4:n<=90;all_goals
  try (exfalso;omega)
 all_goals
  go_in;go_wp2;go_ret;exact⟨by simp[h1,h2,h3,h4],rfl⟩
def A54(c:UInt8)(w:World):Calls Tryz.prog 177 #[.int .u8 c.toNat] w fun e w'=>e=.returned (.bool (Es c))/\w'=w:=by
 have hN:Es c=(isLet c||E5 c||(c==95)):=rfl;have h95:(c==95)=((c.toNat:Int)==95):=by
  by_cases h:c=95
  ·subst h;rfl
  ·rw[Am.2 h];symm
   rw[Am];intro e;exact h (UInt8.toNat_inj.1 (by show c.toNat=95;omega))
 have HN:=A0 (hN.trans (by rw[h95]));cases h1:isLet c <;> cases h2:E5 c;all_goals
  have HN2:=HN.o;rw[h1,h2]at HN2;have HN:=A0 HN2;go_in;go_wp2_with fail
  refine(Vl _ _).mono ?_;rintro e w' ⟨rfl,rfl⟩;rw[h1];go_wp2_with (go_at_call 126;refine(U0 _ _).mono ?_;rintro e w' ⟨rfl,rfl⟩;rw[h2])
  go_ret;exact⟨by rw[HN.o];simp,rfl⟩
