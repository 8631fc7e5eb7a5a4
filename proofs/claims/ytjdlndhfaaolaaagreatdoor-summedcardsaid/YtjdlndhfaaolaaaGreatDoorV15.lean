import Derived.Test.YtjdlndhfaaolaaaGreatDoorV14
set_option maxHeartbeats 20000000
namespace Go.Proofs.YtjdlndhfaaolaaaGreatDoor
section
open Go.Deep (BT)
variable {N B k:Nat} {m:MS} {P:D7} {bets:List Cx}
theorem Aeo(hP:Oa B P)(hbt:∀x∈bets,Mq x):∀(n k:Nat) (m m':MS),Inv P.fns.length B k m->Iy P bets n m=some m'->∃k',Inv P.fns.length B k' m':=by
 intro n;induction n with
 | zero=>intro k m m' h e;rw[Iy]at e;cases e
 | succ n ih=>
  intro k m m' h e;rw[Iy]at e;split at e
  ·cases e;exact⟨k,h⟩
  ·split at e
   ·cases e;exact⟨k,h⟩
   ·rename_i i hi;exact ih _ _ _ (h.step rfl hP hbt i (List.mem_of_getElem? hi)) e
theorem A3l(hP:Oa B P)(hbt:∀x∈bets,Mq x){n:Nat}{m':MS}(h:Iy P bets n (mstart P)=some m'):m'.lots.length=P.fns.length:=by
 obtain⟨k',hk⟩:=Aeo hP hbt n B _ _ (Xg hP) h;exact hk.lotn
end
section
open Go.Deep (BT)
theorem Afu(s:List UInt8)(f:Nat):lex (f+2) (41::59::32::s) 1 false=K9 [⟨19,1,[],0⟩,⟨25,1,[],0⟩] (lex f (32::s) 1 false):=by kernel_rfl
def Oq:Tk:=⟨0,1,[],0⟩
def R2(ts:List Tk):BT A6:=match Ah 500 10 0 .nil ⟨ts,0⟩ with
 | some r=>r.1
 | none=>.nil
def T5:BT A6->List (BT A6)
 | .nil=>[]
 | .node x y l c r=>.node x y l c .nil::T5 r
theorem Ph(f g h:BT A6):Bu (Bu f g) h=Bu f (Bu g h):=by
 induction f with
 | nil=>rfl
 | node x y l c r _ ih=>rw[Bu,Bu,Bu,ih]
theorem A46(t:BT A6):∀acc,(T5 t).foldl Bu acc=Bu acc t:=by
 induction t with
 | nil=>intro acc;rw[T5,List.foldl_nil];induction acc with
  | nil=>rfl
  | node x y l c r _ ih=>rw[Bu,←ih]
 | node x y l c r _ ih=>intro acc;rw[T5,List.foldl_cons,ih,Ph];rfl
def Rz(r:Int):BT A6:=if r<0 then nd (B7 8 1) (nd (B7 135 1) (Bu (nd (B7 14 1) (nd ⟨1,1,[],-(r+1),[]⟩ .nil)) (nd ⟨1,1,[],1,[]⟩ .nil))) else nd ⟨1,1,[],r,[]⟩ .nil
def Q3(st l:List Ac):List Ac:=l.foldl (fun s i=>s++[i]) st
theorem V1(l:List Ac):∀st,Q3 st l=st++l:=by
 unfold Q3;induction l with
 | nil=>intro st;simp
 | cons i r ih=>intro st;rw[List.foldl_cons,ih];simp
theorem A38{n:Nat}{acc c:BT A6}{ts rest:List Tk}(h0:(ts.headD Ij).k≠0)(h4:(ts.headD Ij).k≠4)(h:Ah n 9 0 .nil ⟨ts,0⟩=some (c,⟨rest,0⟩)):Ah (n+1) 10 0 acc ⟨ts,0⟩=Ah n 10 0 (Bu acc c) ⟨rest,0⟩:=by
 rw[Ah,if_neg z4wa,if_neg z4wa,if_neg z4wa,if_neg z4wa,if_neg z4wa,if_neg z4wa,if_neg z4wa,if_neg z4wa,if_neg z4wa,if_neg z4wa,if_pos rfl,if_neg (by exact h0),if_neg (by exact h4),h];rfl
theorem Ahr{n:Nat}{acc c:BT A6}{ts rest:List Tk}(h4:(ts.headD Ij).k=4)(h:Ah n 11 0 .nil ⟨ts,0⟩=some (c,⟨rest,0⟩)):Ah (n+1) 10 0 acc ⟨ts,0⟩=Ah n 10 0 (Bu acc c) ⟨rest,0⟩:=by
 have h0:(ts.headD Ij).k≠0:=by rw[h4];decide
 rw[Ah,if_neg z4wa,if_neg z4wa,if_neg z4wa,if_neg z4wa,if_neg z4wa,if_neg z4wa,if_neg z4wa,if_neg z4wa,if_neg z4wa,if_neg z4wa,if_pos rfl,if_neg (by exact h0),if_pos (by exact h4),h];rfl
end
section
open Go.Deep (BT)
variable {P:D7} {bets:List Cx}
def Jt(P:D7)(bets:List Cx)(k:Nat)(m m':MS):Prop:=(∀n,Iy P bets (n+k) m=Iy P bets n m')/\∀n,nice P bets n m'->nice P bets (n+k) m
theorem Jt.refl(m:MS):Jt P bets 0 m m:=⟨fun _=>rfl,fun _ h=>h⟩
theorem Jt.trans{k j:Nat}{x y z:MS}(h1:Jt P bets k x y)(h2:Jt P bets j y z):Jt P bets (j+k) x z:=by
 refine⟨fun n=>?_,fun n h=>?_⟩
 ·rw[←Nat.add_assoc,h1.1,h2.1]
 ·rw[←Nat.add_assoc];exact h1.2 _ (h2.2 n h)
theorem Jt.one{m:MS}{i:Ac}(hc:m.code=0)(hi:m.now.steps[m.now.pc]?=some i)(hn:Uk i m):Jt P bets 1 m (M8 P bets i m):=by
 refine⟨fun n=>?_,fun n h=>?_⟩
 ·rw[Iy,if_neg (by rw[hc];simp),hi]
 ·intro _ j hj;rw[hi]at hj;injection hj with hj;rw[←hj];exact⟨hn,h⟩
def Du(m:MS)(S:List Ac)(pc:Nat):MS:={ m with now:=⟨S,pc,m.now.base⟩ }
def Og(S:List Ac)(pc:Nat)(c:List Ac):Prop:=∀j i,c[j]?=some i->S[pc+j]?=some i
def C4(P:D7)(bets:List Cx)(k:Nat)(c:List Ac)(m m':MS):Prop:=∀S pc,Og S pc c->Jt P bets k (Du m S pc) (Du m' S (pc+c.length))
theorem z62a {P:Prop} (h:P:=by rw[List.getElem?_append_left (List.getElem?_eq_some_iff.1 hq).1];exact hq):P:=h
theorem z6ca {P:Prop} (h:P:=by rw[List.getElem?_append_right z4va,Nat.add_sub_cancel_left];exact hq):P:=h
theorem C4.seq{k j:Nat}{c d:List Ac}{x y z:MS}(h1:C4 P bets k c x y)(h2:C4 P bets j d y z):C4 P bets (j+k) (c++d) x z:=by
 intro S pc h;have a1:=h1 S pc (fun q i hq=>h q i z62a);have a2:=h2 S (pc+c.length) (fun q i hq=>by rw[Nat.add_assoc];exact h _ i z6ca);rw[List.length_append,←Nat.add_assoc];exact a1.trans a2
theorem C4.nil(m:MS):C4 P bets 0 [] m m:=fun _ _ _=>Jt.refl _
theorem C4.one{i:Ac}{m m':MS}(hc:m.code=0)(hn:N7 i m=true)(h:∀S pc,Ay P bets i (Du m S pc)=Du m' S pc):C4 P bets 1 [i] m m':=by
 intro S pc hp;have:=Jt.one (P:=P) (bets:=bets) (m:=Du m S pc) hc (hp 0 i rfl) (Py hn);have e:M8 P bets i (Du m S pc)=Du m' S (pc+1):=h S (pc+1);rw[e]at this;exact this
def cs(V gl:List PV)(arr:List (List PV))(cells fuel:Nat)(o:List (List UInt8))(calls:List Fr)(lots:List Dv)(f:Fr):MS:=⟨V,gl,calls,f,fuel,cells,o,0,0,arr,lots⟩
variable {V gl:List PV} {arr:List (List PV)} {cells fuel:Nat} {o:List (List UInt8)} {calls:List Fr} {lots:List Dv} {f:Fr}
theorem a36(m:MS):Ay P bets ⟨36,1,1,Ag⟩ m=MS.room 1 ⟨36,1,1,Ag⟩ m (fun m'=>MS.push (Cf m'.arr.length) { (MS.cut ((m'.vals.length:Int)-1) m') with arr:=m'.arr++[(List.range (1:Int).toNat).map (fun(j:Nat)=>m'.at' ((m'.vals.length:Int)-1+j))] }):=rfl
theorem a37(m:MS):Ay P bets ⟨37,0,1,Ag⟩ m=(match sizeOf' m m.top with|some n=>m.pop.push (ofInt (n:Nat))|none=>m.pop.fail 5 ⟨37,0,1,Ag⟩):=rfl
theorem a38(m:MS):Ay P bets ⟨38,0,1,Ag⟩ m=(if m.pop.top.k=4 then MS.room 1 ⟨38,0,1,Ag⟩ m.pop.pop (fun m2=>MS.push m.top { m2 with arr:=m2.arr.modify (m.pop.top.r.getD 0) (·++[m.top]) }) else m.pop.pop.fail 5 ⟨38,0,1,Ag⟩):=rfl
theorem a39(m:MS):Ay P bets ⟨39,0,1,Ag⟩ m=MS.place m.pop.top m.top ⟨39,0,1,Ag⟩ m.pop.pop (fun m2=>m2.push (if m.pop.top.k=3 then ofStr ((m.pop.top.t.drop m.top.n.toNat).take 1) else(((m2.arr[m.pop.top.r.getD 0]?).getD [])[m.top.n.toNat]?).getD Ag)):=rfl
theorem a15(m:MS):Ay P bets ⟨15,0,1,Ag⟩ m=(if m.both 2 then m.pop.pop.push (ofInt (wr (m.pop.top.n-m.top.n))) else m.fail 5 ⟨15,0,1,Ag⟩):=rfl
theorem a23(m:MS):Ay P bets ⟨23,0,1,Ag⟩ m=(if m.top.k=2 then m.pop.push (ofInt (wr (-m.top.n))) else m.fail 5 ⟨23,0,1,Ag⟩):=rfl
theorem Jo(v:PV)(S:List Ac)(pc:Nat):(Du (cs (V++[v]) gl arr cells fuel o calls lots f) S pc).top=v:=by simp[MS.top,Du,cs]
theorem Ju(v:PV)(S:List Ac)(pc:Nat):(Du (cs (V++[v]) gl arr cells fuel o calls lots f) S pc).pop=Du (cs V gl arr cells fuel o calls lots f) S pc:=by simp[MS.pop,Du,cs]
theorem Q1(v:PV):C4 P bets 1 [⟨0,0,0,v⟩] (cs V gl arr cells fuel o calls lots f) (cs (V++[v]) gl arr cells fuel o calls lots f):=C4.one rfl rfl (fun _ _=>rfl)
theorem P8{g:Nat}{v:PV}(h:gl[g]?=some v):C4 P bets 1 [⟨2,(g:Nat),0,Ag⟩] (cs V gl arr cells fuel o calls lots f) (cs (V++[v]) gl arr cells fuel o calls lots f):=by
 have hl:=(List.getElem?_eq_some_iff.1 h).1;refine C4.one rfl (by simp[N7,cs,hl]) (fun S pc=>?_);show MS.push ((gl[((g:Nat):Int).toNat]?).getD Ag) (Du (cs V gl arr cells fuel o calls lots f) S pc)=_;rw[Int.toNat_natCast,h];rfl
theorem Sw{g:Nat}{v:PV}(h:g<gl.length):C4 P bets 1 [⟨4,(g:Nat),0,Ag⟩] (cs (V++[v]) gl arr cells fuel o calls lots f) (cs V (gl.set g v) arr cells fuel o calls lots f):=by
 refine C4.one rfl (by simp[N7,cs,h]) (fun S pc=>?_);show { MS.pop (Du (cs (V++[v]) gl arr cells fuel o calls lots f) S pc) with gl:=gl.set ((g:Nat):Int).toNat (Du (cs (V++[v]) gl arr cells fuel o calls lots f) S pc).top }=_;rw[Int.toNat_natCast,Jo,Ju];rfl
theorem Aj4{v:PV}:C4 P bets 1 [⟨5,0,0,Ag⟩] (cs (V++[v]) gl arr cells fuel o calls lots f) (cs V gl arr cells fuel o calls lots f):=C4.one rfl rfl (fun S pc=>Ju v S pc)
theorem Arr{v:PV}(h:cells+1<=500):C4 P bets 1 [⟨36,1,1,Ag⟩] (cs (V++[v]) gl arr cells fuel o calls lots f) (cs (V++[Cf arr.length]) gl (arr++[[v]]) (cells+1) fuel o calls lots f):=by
 refine C4.one rfl (by simp[N7,cs]) (fun S pc=>?_);rw[a36];unfold MS.room;rw[if_neg (by show ¬(500:Int)-(cells:Nat)<1;omega)];have hv:¬((V.length:Int)<0):=by omega
 simp[MS.push,MS.cut,MS.at',Du,cs,List.range,List.range.loop,hv]
theorem Ajb{v:PV}{r:Nat}(h:cells+1<=500):C4 P bets 1 [⟨38,0,1,Ag⟩] (cs (V++[Cf r]++[v]) gl arr cells fuel o calls lots f) (cs (V++[v]) gl (arr.modify r (·++[v])) (cells+1) fuel o calls lots f):=by
 refine C4.one rfl rfl (fun S pc=>?_);rw[a38,Jo,Ju,Jo,Ju,if_pos (show(Cf r).k=4 from rfl)];unfold MS.room;rw[if_neg (by show ¬(500:Int)-(cells:Nat)<1;omega)];rfl
theorem Ajd{v:PV}{l:List UInt8}(ht:G1 arr 4 [] v=l)(hk:v.k≠4)(hl:l.length<=500)(ho:o.length<100):C4 P bets 1 [⟨41,0,1,Ag⟩] (cs (V++[v]) gl arr cells fuel o calls lots f) (cs V gl arr cells fuel (o++[l]) calls lots f):=by
 refine C4.one rfl (by simp[N7,cs,MS.top,hk]) (fun S pc=>?_);show MS.Mj _ _=_;unfold MS.Mj;rw[Jo,Ju,show(Du (cs (V++[v]) gl arr cells fuel o calls lots f) S pc).arr=arr from rfl,show(Du (cs (V++[v]) gl arr cells fuel o calls lots f) S pc).out=o from rfl,ht,if_neg z4va];rfl
theorem Aj6{r:Nat}{L:List PV}(h:arr[r]?=some L):C4 P bets 1 [⟨37,0,1,Ag⟩] (cs (V++[Cf r]) gl arr cells fuel o calls lots f) (cs (V++[ofInt (L.length:Nat)]) gl arr cells fuel o calls lots f):=by
 refine C4.one rfl rfl (fun S pc=>?_);rw[a37,Jo,Ju];have e:sizeOf' (Du (cs (V++[Cf r]) gl arr cells fuel o calls lots f) S pc) (Cf r)=some L.length:=by
  show some ((arr[r]?).getD []).length=_;rw[h];rfl
 rw[e];rfl
theorem Aj5{r j:Nat}{L:List PV}{x:PV}(h:arr[r]?=some L)(hj:L[j]?=some x):C4 P bets 1 [⟨39,0,1,Ag⟩] (cs (V++[Cf r]++[ofInt (j:Nat)]) gl arr cells fuel o calls lots f) (cs (V++[x]) gl arr cells fuel o calls lots f):=by
 have hl:=(List.getElem?_eq_some_iff.1 hj).1;refine C4.one rfl (by simp[N7,cs,MS.top,MS.pop,Cf]) (fun S pc=>?_);rw[a39,Jo,Ju,Jo,Ju];unfold MS.place;have e:sizeOf' (Du (cs V gl arr cells fuel o calls lots f) S pc) (Cf r)=some L.length:=by
  show some ((arr[r]?).getD []).length=_;rw[h];rfl
 rw[e];dsimp only;rw[if_neg (by simp[ofInt]),if_neg (by show ¬((j:Int)<0\/(L.length:Int)<=(j:Int));omega),if_neg (by simp[Cf])];show MS.push (((((arr)[r]?).getD [])[((j:Nat):Int).toNat]?).getD Ag) _=_;rw[h,Int.toNat_natCast,Option.getD_some,hj];rfl
theorem Wd(a b:Int)(S:List Ac)(pc:Nat):(Du (cs (V++[ofInt a]++[ofInt b]) gl arr cells fuel o calls lots f) S pc).both 2=true:=by
 unfold MS.both;rw[Jo];have e:(Du (cs (V++[ofInt a]++[ofInt b]) gl arr cells fuel o calls lots f) S pc).at' (((Du (cs (V++[ofInt a]++[ofInt b]) gl arr cells fuel o calls lots f) S pc).vals.length:Nat)-2)=ofInt a:=by
  unfold MS.at';have hl:(Du (cs (V++[ofInt a]++[ofInt b]) gl arr cells fuel o calls lots f) S pc).vals.length=V.length+2:=by simp[Du,cs]
  rw[if_neg (by rw[hl];omega),hl,show(((V.length+2:Nat):Int)-2).toNat=V.length by omega];simp[Du,cs]
 rw[e];rfl
theorem Aje(a b:Int):C4 P bets 1 [⟨15,0,1,Ag⟩] (cs (V++[ofInt a]++[ofInt b]) gl arr cells fuel o calls lots f) (cs (V++[ofInt (wr (a-b))]) gl arr cells fuel o calls lots f):=by
 refine C4.one rfl rfl (fun S pc=>?_);rw[a15,if_pos (Wd a b S pc),Jo,Ju,Jo,Ju];rfl
theorem Aj9(a:Int):C4 P bets 1 [⟨23,0,1,Ag⟩] (cs (V++[ofInt a]) gl arr cells fuel o calls lots f) (cs (V++[ofInt (wr (-a))]) gl arr cells fuel o calls lots f):=by
 refine C4.one rfl rfl (fun S pc=>?_);rw[a23,Jo,Ju,if_pos (show(ofInt a).k=2 from rfl)];rfl
theorem rDec(a:Int)(ha:D4 a):C4 P bets (Lj a).length (Lj a) (cs V gl arr cells fuel o calls lots f) (cs (V++[ofInt a]) gl arr cells fuel o calls lots f):=by
 unfold Lj;by_cases hn:a<0
 ·rw[if_pos hn];have e1:wr (-(-(a+1)))=a+1:=by rw[Th] <;> unfold D4 at*<;> omega
  have e2:wr (wr (-(-(a+1)))-1)=a:=by rw[e1,Th] <;> unfold D4 at*<;> omega
  have h:=(((Q1 (P:=P) (bets:=bets) (V:=V) (gl:=gl) (arr:=arr) (cells:=cells) (fuel:=fuel) (o:=o) (calls:=calls) (lots:=lots) (f:=f) (ofInt (-(a+1)))).seq (Aj9 _)).seq (Q1 (ofInt 1))).seq (Aje _ _);rw[e2]at h;exact h
 ·rw[if_neg hn];exact Q1 _
end
section
open Go.Deep (BT)
variable {P:D7} {bets:List Cx}
def Jg:List Dv:=[⟨0,none,0,0⟩]
def Co:Fr:=⟨[],0,0⟩
variable {V gl:List PV} {arr:List (List PV)} {cells fuel:Nat} {o:List (List UInt8)} {calls:List Fr} {lots:List Dv} {f:Fr}
theorem rLd{a:Nat}{x:PV}(hb:f.base=0)(h:V[a]?=some x):C4 P bets 1 [⟨1,(a:Nat),0,Ag⟩] (cs V gl arr cells fuel o calls lots f) (cs (V++[x]) gl arr cells fuel o calls lots f):=by
 refine C4.one rfl rfl (fun S pc=>?_);show MS.push (MS.at' (Du (cs V gl arr cells fuel o calls lots f) S pc) (f.base+((a:Nat):Int))) (Du (cs V gl arr cells fuel o calls lots f) S pc)=_;unfold MS.at';rw[hb,if_neg z4va,show((0:Int)+((a:Nat):Int)).toNat=a by omega];show MS.push ((V[a]?).getD Ag) _=_;rw[h];rfl
theorem A37(S:List Ac)(n:Nat):Og S 0 (S.take n):=by
 intro j i h;rw[Nat.zero_add];rw[List.getElem?_take]at h;split at h
 ·exact h
 ·cases h
theorem Ak8{n:Int}(hn:D4 n)(ho:o.length<100):C4 P bets 1 [⟨41,0,1,Ag⟩] (cs (V++[ofInt n]) gl arr cells fuel o calls lots f) (cs V gl arr cells fuel (o++[Lib.itoa n]) calls lots f):=Ajd (Ym _ _) (by show(2:Nat)≠4;omega) (i20 hn) ho
theorem Aj7{r n:Nat}{L:List PV}(h:arr[r]?=some L)(hn:L.length=n):C4 P bets 1 [⟨37,0,1,Ag⟩] (cs (V++[Cf r]) gl arr cells fuel o calls lots f) (cs (V++[ofInt (n:Nat)]) gl arr cells fuel o calls lots f):=by rw[←hn];exact Aj6 h
end
section
open Go.Deep (BT)
theorem Ak3{P:D7}{bets:List Cx}{K:Nat}{m:MS}(hc:m.code=0){s:MS}(hs:s=mstart P)(h:Jt P bets K s (Du m P.main P.main.length)):Iy P bets (1+K) (mstart P)=some (Du m P.main P.main.length)/\nice P bets (1+K) (mstart P):=by
 have hno:(Du m P.main P.main.length).now.steps[(Du m P.main P.main.length).now.pc]?=none:=List.getElem?_eq_none (Nat.le_refl _);subst hs;refine⟨?_,h.2 1 ?_⟩
 ·rw[h.1,Iy,if_neg (by show ¬m.code≠0;rw[hc];simp),hno]
 ·intro _ i hi;rw[hno]at hi;cases hi
theorem Tw(f g:BT A6):bsize (Bu f g)=bsize f+bsize g:=by
 induction f with
 | nil=>rw[Bu,show bsize (.nil:BT A6)=0 from rfl,Nat.zero_add]
 | node x y l c r _ ih=>rw[Bu,bsize,bsize,ih];omega
end
section
set_option maxRecDepth 100000
open Go.Deep (BT)
def Lt:List UInt8:=[102,110,32,97,100,100,40,115,44,32,120,41,32,123,32,114,101,116,117,114,110,32,115,32,43,32,120,59,32,125,32,108,101,116,32,108,32,61,32,91,93,59]
def V8:List UInt8:=[32,112,117,115,104,40,108,44,32]
def Q6:List UInt8:=[32,108,101,116,32,105,32,61,32,48,59,32,108,101,116,32,115,32,61,32,48,59,32,119,104,105,108,101,32,105,32,60,32,108,101,110,40,108,41,32,123,32,115,32,61,32,97,100,100,40,115,44,32,108,91,105,93,41,59,32,105,32,61,32,105,32,43,32,49,59,32,125,32,112,114,105,110,116,32,115,59]
def Tc:List Tk:=[⟨4,1,[],0⟩,⟨1,1,[97,100,100],0⟩,⟨18,1,[],0⟩,⟨1,1,[115],0⟩,⟨24,1,[],0⟩,⟨1,1,[120],0⟩,⟨19,1,[],0⟩,⟨20,1,[],0⟩,⟨9,1,[],0⟩,⟨1,1,[115],0⟩,⟨34,1,[],0⟩,⟨1,1,[120],0⟩,⟨25,1,[],0⟩,⟨21,1,[],0⟩]
def Td:List Tk:=[⟨5,1,[],0⟩,⟨1,1,[108],0⟩,⟨26,1,[],0⟩,⟨22,1,[],0⟩,⟨23,1,[],0⟩,⟨25,1,[],0⟩]
def V9:List Tk:=[⟨17,1,[],0⟩,⟨18,1,[],0⟩,⟨1,1,[108],0⟩,⟨24,1,[],0⟩]
def Yp:List Tk:=[⟨5,1,[],0⟩,⟨1,1,[105],0⟩,⟨26,1,[],0⟩,⟨2,1,[],0⟩,⟨25,1,[],0⟩,⟨5,1,[],0⟩,⟨1,1,[115],0⟩,⟨26,1,[],0⟩,⟨2,1,[],0⟩,⟨25,1,[],0⟩,⟨8,1,[],0⟩,⟨1,1,[105],0⟩,⟨30,1,[],0⟩,⟨16,1,[],0⟩,⟨18,1,[],0⟩,⟨1,1,[108],0⟩,⟨19,1,[],0⟩,⟨20,1,[],0⟩,⟨1,1,[115],0⟩,⟨26,1,[],0⟩,⟨1,1,[97,100,100],0⟩,⟨18,1,[],0⟩,⟨1,1,[115],0⟩,⟨24,1,[],0⟩,⟨1,1,[108],0⟩,⟨22,1,[],0⟩,⟨1,1,[105],0⟩,⟨23,1,[],0⟩,⟨19,1,[],0⟩,⟨25,1,[],0⟩,⟨1,1,[105],0⟩,⟨26,1,[],0⟩,⟨1,1,[105],0⟩,⟨34,1,[],0⟩,⟨2,1,[],1⟩,⟨25,1,[],0⟩,⟨21,1,[],0⟩,⟨12,1,[],0⟩,⟨1,1,[115],0⟩,⟨25,1,[],0⟩,⟨0,1,[],0⟩]
def Jq(r:Int):List UInt8:=V8++(Fx r++[41,59])
def Nj(r:Int):List Tk:=V9++(Sq r++[⟨19,1,[],0⟩,⟨25,1,[],0⟩])
def Ni(rs:List Int):List UInt8:=Lt++(rs.flatMap Jq++Q6)
def Rh(rs:List Int):List Tk:=Tc++(Td++(rs.flatMap Nj++Yp))
theorem Afv(s:List UInt8)(f:Nat):lex (f+32) (Lt++32::s) 1 false=K9 (Tc++Td) (lex f (32::s) 1 false):=by kernel_rfl
theorem Afz(d:UInt8)(s:List UInt8)(f:Nat):lex (f+6) (V8++d::s) 1 false=K9 V9 (lex f (d::s) 1 false):=by kernel_rfl
theorem Afw(f:Nat):lex (f+66) Q6 1 false=.inr Yp:=by kernel_rfl
theorem Afx(r:Int)(hr:D4 r)(s:List UInt8):∃k,∀f,lex (f+k) (Jq r++32::s) 1 false=K9 (Nj r) (lex f (32::s) 1 false):=by
 obtain⟨d,t,hd⟩:=Abi r;obtain⟨k1,e1⟩:=Ag0 r hr.1 hr.2 41 (59::32::s) z4wa;refine⟨2+k1+6,fun f=>?_⟩;have q:=Afz d (t++41::59::32::s) (f+2+k1);rw[←List.cons_append,←hd,e1,Afu]at q;unfold Jq Nj;rw[List.append_assoc,List.append_assoc,List.cons_append,List.cons_append,List.nil_append,show f+(2+k1+6)=f+2+k1+6 by omega,q,Tb,Tb]
theorem Afy(s:List UInt8):∀(rs:List Int),(∀r∈rs,D4 r)->∃t k,rs.flatMap Jq++32::s=32::t/\∀f,lex (f+k) (32::t) 1 false=K9 (rs.flatMap Nj) (lex f (32::s) 1 false):=by
 intro rs;induction rs with
 | nil=>intro _;exact⟨s,0,rfl,fun f=>rfl⟩
 | cons r rs ih=>
  intro h;obtain⟨t,k,e,hk⟩:=ih (fun x hx=>h x (by simp[hx]));obtain⟨k2,h2⟩:=Afx r (h r z50a) t;rw[List.flatMap_cons,List.append_assoc,e];refine⟨_,k+k2,show Jq r++32::t=32::(Jq r++32::t).tail from rfl,fun f=>?_⟩;show lex (f+(k+k2)) (Jq r++32::t) 1 false=_;rw[←Nat.add_assoc,h2,hk,List.flatMap_cons,Tb]
theorem A1j(rs:List Int)(hr:∀r∈rs,D4 r)(f:Nat)(hf:(Ni rs).length<f):lex f (Ni rs) 1 false=.inr (Rh rs):=by
 have e1':Q6=32::Q6.tail:=rfl;obtain⟨t,k8,e8,h8⟩:=Afy Q6.tail rs hr;rw[←e1']at e8 h8;have q9:=fun f=>Afv t f;rw[←e8]at q9 h8;rw[Xm f (f+66+k8+32) _ _ _ hf z4va];unfold Ni;rw[q9,h8,Afw];simp only[Aov,Rh,List.append_assoc]
def uKa:List Tk:=[⟨5,1,[],0⟩,⟨1,1,[105],0⟩,⟨26,1,[],0⟩,⟨2,1,[],0⟩,⟨25,1,[],0⟩]
def uKb:List Tk:=[⟨5,1,[],0⟩,⟨1,1,[115],0⟩,⟨26,1,[],0⟩,⟨2,1,[],0⟩,⟨25,1,[],0⟩]
def uKw:List Tk:=[⟨8,1,[],0⟩,⟨1,1,[105],0⟩,⟨30,1,[],0⟩,⟨16,1,[],0⟩,⟨18,1,[],0⟩,⟨1,1,[108],0⟩,⟨19,1,[],0⟩,⟨20,1,[],0⟩,⟨1,1,[115],0⟩,⟨26,1,[],0⟩,⟨1,1,[97,100,100],0⟩,⟨18,1,[],0⟩,⟨1,1,[115],0⟩,⟨24,1,[],0⟩,⟨1,1,[108],0⟩,⟨22,1,[],0⟩,⟨1,1,[105],0⟩,⟨23,1,[],0⟩,⟨19,1,[],0⟩,⟨25,1,[],0⟩,⟨1,1,[105],0⟩,⟨26,1,[],0⟩,⟨1,1,[105],0⟩,⟨34,1,[],0⟩,⟨2,1,[],1⟩,⟨25,1,[],0⟩,⟨21,1,[],0⟩]
def uKr:List Tk:=[⟨12,1,[],0⟩,⟨1,1,[115],0⟩,⟨25,1,[],0⟩]
def Rk:BT A6:=R2 (Tc++[Oq])
def Rl:BT A6:=R2 (Td++[Oq])
def Ri:BT A6:=R2 (uKa++[Oq])
def Rj:BT A6:=R2 (uKb++[Oq])
def Nk:BT A6:=R2 (uKw++[Oq])
def Pc:BT A6:=R2 (uKr++[Oq])
def O8(r:Int):BT A6:=nd (B7 30 1) (nd (B7 11 1) (Bu (nd ⟨6,1,[108],0,[]⟩ .nil) (Rz r)))
def Lu:List Int->BT A6
 | []=>.nil
 | r::rs=>Bu (O8 r) (Lu rs)
def Mn(rs:List Int):BT A6:=Bu Rk (Bu Rl (Bu (Lu rs) (Bu Ri (Bu Rj (Bu Nk Pc)))))
def Nv:List Ac:=[⟨1,0,0,Ag⟩,⟨1,1,0,Ag⟩,⟨12,0,1,Ag⟩,⟨44,0,0,Ag⟩,⟨43,0,0,Ag⟩]
def Kl:Fn:=⟨[97,100,100],2,2,Nv⟩
def Mb(r:Int):List Ac:=⟨2,0,0,Ag⟩::(Lj r++[⟨38,0,1,Ag⟩,⟨5,0,0,Ag⟩])
def Q7:List Ac:=[⟨36,0,1,Ag⟩,⟨4,0,0,Ag⟩]
def K1:List Ac:=[⟨2,1,0,Ag⟩,⟨2,0,0,Ag⟩,⟨37,0,1,Ag⟩,⟨29,0,1,Ag⟩]
def Ky:List Ac:=[⟨2,2,0,Ag⟩,⟨2,0,0,Ag⟩,⟨2,1,0,Ag⟩,⟨39,0,1,Ag⟩,⟨42,0,1,Ag⟩,⟨4,2,0,Ag⟩,⟨2,1,0,Ag⟩,⟨0,0,0,ofInt 1⟩,⟨12,0,1,Ag⟩,⟨4,1,0,Ag⟩]
def Mo(p:Nat):List Ac:=K1++(⟨7,((p+16:Nat):Int),1,Ag⟩::(Ky++[⟨6,(p:Nat),0,Ag⟩]))
def Mu:List Ac:=[⟨0,0,0,ofInt 0⟩,⟨4,1,0,Ag⟩,⟨0,0,0,ofInt 0⟩,⟨4,2,0,Ag⟩]
def Sx:List Ac:=[⟨2,2,0,Ag⟩,⟨41,0,1,Ag⟩]
def Rg(p:Nat):List Ac:=Mu++(Mo (p+4)++Sx)
def J3(rs:List Int):List Ac:=Q7++rs.flatMap Mb
def Gm(rs:List Int):D7:=⟨3,0,J3 rs++Rg (J3 rs).length,[Kl]⟩
theorem Apn(n:Nat)(r:Int)(rest:List Tk):Ah (n+59) 9 0 .nil ⟨V9++([⟨2,1,[],r⟩]++[⟨19,1,[],0⟩,⟨25,1,[],0⟩])++rest,0⟩=some (nd (B7 30 1) (nd (B7 11 1) (Bu (nd ⟨6,1,[108],0,[]⟩ .nil) (nd ⟨1,1,[],r,[]⟩ .nil))),⟨rest,0⟩):=by kernel_rfl
theorem Apo(n:Nat)(r:Int)(rest:List Tk):Ah (n+59) 9 0 .nil ⟨V9++([⟨18,1,[],0⟩,⟨35,1,[],0⟩,⟨2,1,[],r⟩,⟨35,1,[],0⟩,⟨2,1,[],1⟩,⟨19,1,[],0⟩]++[⟨19,1,[],0⟩,⟨25,1,[],0⟩])++rest,0⟩=some (nd (B7 30 1) (nd (B7 11 1) (Bu (nd ⟨6,1,[108],0,[]⟩ .nil) (nd (B7 8 1) (nd (B7 135 1) (Bu (nd (B7 14 1) (nd ⟨1,1,[],r,[]⟩ .nil)) (nd ⟨1,1,[],1,[]⟩ .nil)))))),⟨rest,0⟩):=by kernel_rfl
theorem Apj(n:Nat)(r:Int)(acc:BT A6)(rest:List Tk):Ah (n+60) 10 0 acc ⟨Nj r++rest,0⟩=Ah (n+59) 10 0 (Bu acc (O8 r)) ⟨rest,0⟩:=by
 refine A38 (by show(17:Nat)≠0;omega) (by show(17:Nat)≠4;omega) ?_;unfold Nj O8 Sq Rz;by_cases h:r<0
 ·rw[if_pos h,if_pos h];exact Apo n _ rest
 ·rw[if_neg h,if_neg h];exact Apn n _ rest
theorem Apk(rest:List Tk):∀(rs:List Int) (n:Nat) (acc:BT A6),Ah (n+60+rs.length) 10 0 acc ⟨rs.flatMap Nj++rest,0⟩=Ah (n+60) 10 0 (Bu acc (Lu rs)) ⟨rest,0⟩:=by
 intro rs;induction rs with
 | nil=>
  intro n acc;have:Bu acc (Lu [])=acc:=(A46 .nil acc).symm;rw[this];rfl
 | cons r rs ih=>
  intro n acc;rw[List.flatMap_cons,List.append_assoc,List.length_cons,show n+60+(rs.length+1)=(n+rs.length+1)+60 by omega,Apj,show n+rs.length+1+59=n+60+rs.length by omega,ih,Ph];rfl
theorem Apg(n:Nat)(rest:List Tk):Ah (n+60) 11 0 .nil ⟨Tc++rest,0⟩=some (Rk,⟨rest,0⟩):=by kernel_rfl
theorem Api(n:Nat)(rest:List Tk):Ah (n+60) 9 0 .nil ⟨Td++rest,0⟩=some (Rl,⟨rest,0⟩):=by kernel_rfl
theorem Apl(n:Nat)(acc:BT A6):Ah (n+100) 10 0 acc ⟨Yp,0⟩=some ((T5 (Bu Ri (Bu Rj (Bu Nk Pc)))).foldl Bu acc,⟨[Oq],0⟩):=by kernel_rfl
theorem A2a(rs:List Int)(hl:rs.length<=20):Ah 100000 10 0 .nil ⟨Rh rs,0⟩=some (Mn rs,⟨[Oq],0⟩):=by
 unfold Rh;rw[show 100000=(99939+60)+1 from rfl,Ahr rfl (Apg 99939 _),show 99939+60=(99938+60)+1 from rfl,A38 (by show(5:Nat)≠0;omega) (by show(5:Nat)≠4;omega) (Api 99938 _),show 99938+60=(99938-rs.length)+60+rs.length by omega,Apk,show 99938-rs.length+60=(99898-rs.length)+100 by omega,Apl,A46];unfold Mn;rw[Ph,Ph];rfl
theorem Agg(r:Int)(rest:List Tk):nest (Nj r++rest) 0=nest rest 0:=by
 unfold Nj Sq;by_cases h:r<0
 ·rw[if_pos h];rfl
 ·rw[if_neg h];rfl
theorem Agh(rest:List Tk):∀rs:List Int,nest (rs.flatMap Nj++rest) 0=nest rest 0:=by
 intro rs;induction rs with
 | nil=>rfl
 | cons r rs ih=>rw[List.flatMap_cons,List.append_assoc,Agg,ih]
theorem Agf(rs:List Int):nest (Rh rs) 0=0:=by
 unfold Rh;rw[show ∀rest,nest (Tc++(Td++rest)) 0=nest rest 0 from fun _=>rfl,Agh];rfl
def Gz:List (Nm×Nat):=[([97,100,100],2)]
theorem Adi(x:BT A6):∀rs:List Int,Cr (Bu (Lu rs) x)=Cr x:=by
 intro rs;induction rs with
 | nil=>rfl
 | cons r rs ih=>rw[Lu,Ph];exact ih
theorem A0y(rs:List Int):Cr (Mn rs)=Gz:=by
 unfold Mn;have e:∀x,Cr (Bu Rk (Bu Rl x))=([97,100,100],2)::Cr x:=fun x=>by kernel_rfl
 rw[e,Adi,show Cr (Bu Ri (Bu Rj (Bu Nk Pc)))=[] by kernel_rfl];rfl
theorem Akk(r:Int)(x:BT A6):Et Gz (Bu (O8 r) x) [[97,100,100]] [[108]] (0,0)=Et Gz x [[97,100,100]] [[108]] (0,0):=by
 unfold O8 Rz;by_cases h:r<0
 ·rw[if_pos h];kernel_rfl
 ·rw[if_neg h];kernel_rfl
theorem Akl(x:BT A6):∀rs:List Int,Et Gz (Bu (Lu rs) x) [[97,100,100]] [[108]] (0,0)=Et Gz x [[97,100,100]] [[108]] (0,0):=by
 intro rs;induction rs with
 | nil=>rfl
 | cons r rs ih=>rw[Lu,Ph,Akk,ih]
theorem Aki(x:BT A6):Et Gz (Bu Rk (Bu Rl x)) [] [] (0,0)=Et Gz x [[97,100,100]] [[108]] (0,0):=by kernel_rfl
theorem Akj:Et Gz (Bu Ri (Bu Rj (Bu Nk Pc))) [[97,100,100]] [[108]] (0,0)=(0,0):=by kernel_rfl
theorem Akh(rs:List Int):Et Gz (Mn rs) [] [] (0,0)=(0,0):=by
 unfold Mn;rw[Aki,Akl,Akj]
theorem Ac9(r:Int)(x:BT A6)(fs:List Fn)(st:List Ac):Jv Gz (Bu (O8 r) x) [[108]] fs ⟨[],0,st,[]⟩=Jv Gz x [[108]] fs ⟨[],0,Q3 st (Mb r),[]⟩:=by
 unfold O8 Rz Mb Lj;by_cases h:r<0
 ·rw[if_pos h,if_pos h];kernel_rfl
 ·rw[if_neg h,if_neg h];kernel_rfl
theorem Aca(x:BT A6)(fs:List Fn):∀(rs:List Int) (st:List Ac),Jv Gz (Bu (Lu rs) x) [[108]] fs ⟨[],0,st,[]⟩=Jv Gz x [[108]] fs ⟨[],0,st++rs.flatMap Mb,[]⟩:=by
 intro rs;induction rs with
 | nil=>intro st;simp[Lu,Bu]
 | cons r rs ih=>intro st;rw[Lu,Ph,Ac9,ih,V1,List.flatMap_cons,List.append_assoc]
theorem Ac7(x:BT A6):Jv Gz (Bu Rk (Bu Rl x)) [] [] ⟨[],0,[],[]⟩=Jv Gz x [[108]] [Kl] ⟨[],0,Q7,[]⟩:=by kernel_rfl
theorem Ac8(x:BT A6)(fs:List Fn)(st:List Ac):Jv Gz (Bu Ri (Bu Rj x)) [[108]] fs ⟨[],0,st,[]⟩=Jv Gz x [[108],[105],[115]] fs ⟨[],0,Q3 st Mu,[]⟩:=by kernel_rfl
theorem Afm(a:Int)(l2:List Ac):∀(l1:List Ac) (j:Nat),K4 (l1.length+j) a (l1++l2)=l1++K4 j a l2:=by
 intro l1;induction l1 with
 | nil=>intro j;simp
 | cons x r ih=>intro j;rw[List.length_cons,List.cons_append,show r.length+1+j=(r.length+j)+1 by omega,K4,ih,List.cons_append]
def Yr:BT A6:=Ug Nk
theorem Acd(st:List Ac)(p:Nat):em Gz [[108],[105],[115]] Yr 1 ⟨[],0,st,[(p,[])]⟩=⟨[],0,Q3 st K1,[(p,[])]⟩:=by kernel_rfl
theorem Acb(st:List Ac)(p:Nat):em Gz [[108],[105],[115]] Yr 2 ⟨[],0,st,[(p,[])]⟩=⟨[],0,Q3 st Ky,[(p,[])]⟩:=by kernel_rfl
theorem Acf(e:Em):em Gz [[108],[105],[115]] Nk 0 e=Ln 1 (fun m e'=>em Gz [[108],[105],[115]] Yr m e') e:=by kernel_rfl
theorem Ace(st:List Ac):em Gz [[108],[105],[115]] Nk 0 ⟨[],0,st,[]⟩=⟨[],0,st++Mo st.length,[]⟩:=by
 rw[Acf];unfold Ln Em.open' Em.close Em.step Em.land;dsimp only;rw[Acd];dsimp only;rw[Acb];dsimp only;simp only[V1];have key:K4 (st++K1).length ((st++K1++[(⟨7,0,1,Ag⟩:Ac)]++Ky++[(⟨6,(st.length:Nat),0,Ag⟩:Ac)]).length:Nat) (st++K1++[(⟨7,0,1,Ag⟩:Ac)]++Ky++[(⟨6,(st.length:Nat),0,Ag⟩:Ac)])=st++Mo st.length:=by
  have e:st++K1++[(⟨7,0,1,Ag⟩:Ac)]++Ky++[(⟨6,(st.length:Nat),0,Ag⟩:Ac)]=(st++K1)++((⟨7,0,1,Ag⟩:Ac)::(Ky++[(⟨6,(st.length:Nat),0,Ag⟩:Ac)])):=by simp
  have hl:((st++K1)++((⟨7,0,1,Ag⟩:Ac)::(Ky++[(⟨6,(st.length:Nat),0,Ag⟩:Ac)]))).length=st.length+16:=by simp[K1,Ky]
  have h:=Afm ((st.length+16:Nat):Int) ((⟨7,0,1,Ag⟩:Ac)::(Ky++[(⟨6,(st.length:Nat),0,Ag⟩:Ac)])) (st++K1) 0;rw[Nat.add_zero]at h;rw[e,hl,h,K4,List.append_assoc];rfl
 show(⟨[],0,K4 (st++K1).length ((st++K1++[(⟨7,0,1,Ag⟩:Ac)]++Ky++[(⟨6,(st.length:Nat),0,Ag⟩:Ac)]).length:Nat) (st++K1++[(⟨7,0,1,Ag⟩:Ac)]++Ky++[(⟨6,(st.length:Nat),0,Ag⟩:Ac)]),[]⟩:Em)=_;rw[key]
theorem emU(rs:List Int):Ny (Mn rs)=Gm rs:=by
 unfold Ny;rw[A0y];unfold Mn;rw[Ac7,Aca,Ac8,V1];have e2:Jv Gz (Bu Nk Pc) [[108],[105],[115]] [Kl] ⟨[],0,Q7++rs.flatMap Mb++Mu,[]⟩=Jv Gz Pc [[108],[105],[115]] [Kl] (em Gz [[108],[105],[115]] Nk 0 ⟨[],0,Q7++rs.flatMap Mb++Mu,[]⟩):=rfl;have e3:∀st:List Ac,Jv Gz Pc [[108],[105],[115]] [Kl] ⟨[],0,st,[]⟩=⟨3,0,Q3 st Sx,[Kl]⟩:=fun st=>by kernel_rfl
 rw[e2,Ace,e3,V1];unfold Gm Rg J3;rw[List.length_append,show Mu.length=4 from rfl];simp only[List.append_assoc]
theorem Apb(r:Int)(hr:D4 r):(Jq r).length<=35:=by
 have:=U3 r hr.1 hr.2;have h0:V8.length=9:=rfl;simp only[Jq,List.length_append,List.length_cons,List.length_nil,h0];omega
theorem Yq:∀rs:List Int,(∀r∈rs,D4 r)->(rs.flatMap Jq).length<=35*rs.length:=by
 intro rs;induction rs with
 | nil=>intro _;simp
 | cons r rs ih=>
  intro h;have:=ih (fun x hx=>h x (by simp[hx]));have:=Apb r (h r z50a);rw[List.flatMap_cons,List.length_append,List.length_cons];omega
theorem Apa(rs:List Int)(hl:rs.length<=20)(hr:∀r∈rs,D4 r):(Ni rs).length<=2000:=by
 have:=Yq rs hr;have h0:Lt.length+Q6.length=123:=by kernel_rfl
 simp only[Ni,List.length_append];omega
theorem Ap8(rs:List Int)(hl:rs.length<=20)(hr:∀r∈rs,D4 r):∃c,Hi (Ni rs)=((0,0),some c)/\Ny c=Gm rs:=by
 refine⟨Mn rs,?_,emU rs⟩;unfold Hi;rw[if_neg (by have:=Apa rs hl hr;omega),A1j rs hr _ (Nat.lt_succ_self _)];simp only[A2a rs z4va,Agf rs,A0y,Akh,ne_eq,not_true_eq_false,if_false]
end
section
open Go.Deep (BT)
variable {P:D7} {bets:List Cx}
variable {V gl:List PV} {arr:List (List PV)} {cells fuel:Nat} {o:List (List UInt8)} {calls:List Fr} {lots:List Dv} {f:Fr}
theorem A5v(m:MS):Ay P bets ⟨36,0,1,Ag⟩ m=MS.room 0 ⟨36,0,1,Ag⟩ m (fun m'=>MS.push (Cf m'.arr.length) { (MS.cut ((m'.vals.length:Int)-0) m') with arr:=m'.arr++[(List.range (0:Int).toNat).map (fun(j:Nat)=>m'.at' ((m'.vals.length:Int)-0+j))] }):=rfl
theorem Aja(h:cells<=500):C4 P bets 1 [⟨36,0,1,Ag⟩] (cs V gl arr cells fuel o calls lots f) (cs (V++[Cf arr.length]) gl (arr++[[]]) cells fuel o calls lots f):=by
 refine C4.one rfl (by simp[N7,cs]) (fun S pc=>?_);rw[A5v];unfold MS.room;rw[if_neg (by show ¬(500:Int)-(cells:Nat)<0;omega)];have hv:¬((V.length:Int)<0):=by omega
 simp[MS.push,MS.cut,Du,cs,hv]
def Nb(L:List PV)(c:Nat):MS:=cs [] [Cf 0,Ag,Ag] [L] c 2000 [] [] Jg Co
theorem Apd:C4 P bets 2 Q7 (cs [] [Ag,Ag,Ag] [] 0 2000 [] [] Jg Co) (Nb [] 0):=by
 have h1:C4 P bets 1 [⟨36,0,1,Ag⟩] (cs [] [Ag,Ag,Ag] [] 0 2000 [] [] Jg Co) (cs [Cf 0] [Ag,Ag,Ag] [[]] 0 2000 [] [] Jg Co):=Aja z4va;have h2:C4 P bets 1 [⟨4,0,0,Ag⟩] (cs [Cf 0] [Ag,Ag,Ag] [[]] 0 2000 [] [] Jg Co) (Nb [] 0):=Sw (V:=[]) (g:=0) z4wa;exact h1.seq h2
theorem Aph(r:Int)(hr:D4 r)(L:List PV)(c:Nat)(hc:c+1<=500):C4 P bets (2+(Lj r).length+1) (Mb r) (Nb L c) (Nb (L++[ofInt r]) (c+1)):=by
 have h1:C4 P bets 1 [⟨2,0,0,Ag⟩] (Nb L c) (cs [Cf 0] [Cf 0,Ag,Ag] [L] c 2000 [] [] Jg Co):=P8 (g:=0) rfl;have h2:C4 P bets (Lj r).length (Lj r) (cs [Cf 0] [Cf 0,Ag,Ag] [L] c 2000 [] [] Jg Co) (cs [Cf 0,ofInt r] [Cf 0,Ag,Ag] [L] c 2000 [] [] Jg Co):=rDec r hr;have h3:C4 P bets 1 [⟨38,0,1,Ag⟩] (cs [Cf 0,ofInt r] [Cf 0,Ag,Ag] [L] c 2000 [] [] Jg Co) (cs [ofInt r] [Cf 0,Ag,Ag] [L++[ofInt r]] (c+1) 2000 [] [] Jg Co):=Ajb (V:=[]) (r:=0) hc;have h4:C4 P bets 1 [⟨5,0,0,Ag⟩] (cs [ofInt r] [Cf 0,Ag,Ag] [L++[ofInt r]] (c+1) 2000 [] [] Jg Co) (Nb (L++[ofInt r]) (c+1)):=Aj4 (V:=[]);exact h1.seq (h2.seq (h3.seq h4))
theorem Apm:∀(rs:List Int) (L:List PV) (c:Nat),(∀r∈rs,D4 r)->c+rs.length<=500->∃k,k<=7*rs.length/\C4 P bets k (rs.flatMap Mb) (Nb L c) (Nb (L++rs.map ofInt) (c+rs.length)):=by
 intro rs;induction rs with
 | nil=>intro L c _ _;exact⟨0,by simp,by simp;exact C4.nil _⟩
 | cons r rs ih=>
  intro L c h hc;rw[List.length_cons]at hc ⊢;obtain⟨k,hk,hr⟩:=ih (L++[ofInt r]) (c+1) (fun x hx=>h x (by simp[hx])) z4va;have h1:=Aph (P:=P) (bets:=bets) r (h r z50a) L c z4va;have:=l8 r;refine⟨k+(2+(Lj r).length+1),by omega,?_⟩;have h2:=h1.seq hr;rw[List.append_assoc,show c+1+rs.length=c+(rs.length+1) by omega]at h2;exact h2
theorem A62(L:List PV)(c:Nat):C4 P bets 4 Mu (Nb L c) (cs [] [Cf 0,ofInt 0,ofInt 0] [L] c 2000 [] [] Jg Co):=by
 have h1:C4 P bets 1 [⟨0,0,0,ofInt 0⟩] (Nb L c) (cs [ofInt 0] [Cf 0,Ag,Ag] [L] c 2000 [] [] Jg Co):=Q1 _;have h2:C4 P bets 1 [⟨4,1,0,Ag⟩] (cs [ofInt 0] [Cf 0,Ag,Ag] [L] c 2000 [] [] Jg Co) (cs [] [Cf 0,ofInt 0,Ag] [L] c 2000 [] [] Jg Co):=Sw (V:=[]) (g:=1) (by show 1<3;omega);have h3:C4 P bets 1 [⟨0,0,0,ofInt 0⟩] (cs [] [Cf 0,ofInt 0,Ag] [L] c 2000 [] [] Jg Co) (cs [ofInt 0] [Cf 0,ofInt 0,Ag] [L] c 2000 [] [] Jg Co):=Q1 _;have h4:C4 P bets 1 [⟨4,2,0,Ag⟩] (cs [ofInt 0] [Cf 0,ofInt 0,Ag] [L] c 2000 [] [] Jg Co) (cs [] [Cf 0,ofInt 0,ofInt 0] [L] c 2000 [] [] Jg Co):=Sw (V:=[]) (g:=2) (by show 2<3;omega);exact((h1.seq h2).seq h3).seq h4
theorem a12(m:MS):Ay P bets ⟨12,0,1,Ag⟩ m=(if m.both 3 then MS.join ⟨12,0,1,Ag⟩ m else if m.both 2 then m.pop.pop.push (ofInt (wr (m.pop.top.n+m.top.n))) else m.fail 5 ⟨12,0,1,Ag⟩):=rfl
theorem To(m:MS):Ay P bets ⟨13,0,1,Ag⟩ m=m.pop.pop.push (ofInt (wr (m.pop.top.n+m.top.n))):=rfl
theorem a29(m:MS):Ay P bets ⟨29,0,1,Ag⟩ m=(if m.both 2||m.both 3 then m.pop.pop.push (ofBool (before m.pop.top m.top)) else m.fail 5 ⟨29,0,1,Ag⟩):=rfl
theorem Aat(a b:Int)(S:List Ac)(pc:Nat):(Du (cs (V++[ofInt a]++[ofInt b]) gl arr cells fuel o calls lots f) S pc).both 3=false:=by
 unfold MS.both;rw[Jo];rfl
theorem A3h(a b:Int):C4 P bets 1 [⟨12,0,1,Ag⟩] (cs (V++[ofInt a]++[ofInt b]) gl arr cells fuel o calls lots f) (cs (V++[ofInt (wr (a+b))]) gl arr cells fuel o calls lots f):=by
 refine C4.one rfl rfl (fun S pc=>?_);rw[a12,if_neg (by rw[Aat];decide),if_pos (Wd a b S pc),Jo,Ju,Jo,Ju];rfl
theorem Aj3(a b:Int):C4 P bets 1 [⟨13,0,1,Ag⟩] (cs (V++[ofInt a]++[ofInt b]) gl arr cells fuel o calls lots f) (cs (V++[ofInt (wr (a+b))]) gl arr cells fuel o calls lots f):=by
 refine C4.one rfl rfl (fun S pc=>?_);rw[To,Jo,Ju,Jo,Ju];rfl
theorem Aj8(a b:Int):C4 P bets 1 [⟨29,0,1,Ag⟩] (cs (V++[ofInt a]++[ofInt b]) gl arr cells fuel o calls lots f) (cs (V++[ofBool (decide (a<b))]) gl arr cells fuel o calls lots f):=by
 refine C4.one rfl rfl (fun S pc=>?_);rw[a29,if_pos (by rw[Wd];rfl),Jo,Ju,Jo,Ju,A8s];rfl
theorem Ajc{p:Int}(hf:fuel≠0):C4 P bets 1 [⟨7,p,1,Ag⟩] (cs (V++[ofBool true]) gl arr cells fuel o calls lots f) (cs V gl arr cells (fuel-1) o calls lots f):=by
 refine C4.one rfl rfl (fun S pc=>?_);show(if(Du (cs (V++[ofBool true]) gl arr cells fuel o calls lots f) S pc).top.y then _ else _)=_;rw[Jo,Ju,if_pos (show(ofBool true).y=true from rfl)];unfold MS.Kh;rw[if_neg (by exact hf)];rfl
def bU(k:Nat)(bet:Int):Cx:=⟨0,(k:Nat),[1,6],[0,bet]⟩
def Qr(bet:Int):List Ac:=[⟨1,0,0,Ag⟩,⟨0,0,0,ofInt bet⟩,⟨13,0,1,Ag⟩,⟨44,0,0,Ag⟩,⟨43,0,0,Ag⟩]
def Pq(bet:Int):Form:=⟨2,Qr bet,[Dm 2,Jx (ofInt bet)]⟩
theorem Agk(P:D7)(k:Nat)(bet:Int):I0 P (bU k bet) Kl=Pq bet:=by kernel_rfl
def Ow(k:Nat)(bet:Int)(l:Dv):Option Form:=if l.calls=k then some (Pq bet) else l.form
def Hy(k:Nat)(bet:Int)(l:Dv)(x:Int):Dv:=match Ow k bet l with
 | none=>⟨l.calls+1,none,l.fast,l.drops⟩
 | some fo=>if x=bet then⟨l.calls+1,some fo,l.fast+1,l.drops⟩ else⟨l.calls+1,none,l.fast,l.drops+1⟩
def Qm(k:Nat)(bet:Int)(l:Dv)(x:Int):List Ac:=match Ow k bet l with
 | none=>Nv
 | some _=>if x=bet then Qr bet else Nv
def Oc(bet:Int)(l:Dv):Prop:=l.form=none\/l.form=some (Pq bet)
theorem X0{k:Nat}{bet:Int}{l:Dv}(h:Oc bet l):Ow k bet l=none\/Ow k bet l=some (Pq bet):=by
 unfold Ow;split
 ·exact .inr rfl
 ·exact h
theorem Oc.step{k:Nat}{bet:Int}{l:Dv}(h:Oc bet l)(x:Int):Oc bet (Hy k bet l x):=by
 unfold Hy;rcases X0 (k:=k) h with e|e
 ·rw[e];exact .inl rfl
 ·rw[e];dsimp only;split
  ·exact .inr rfl
  ·exact .inl rfl
theorem Aoc(k c:Nat)(bet:Int):taken 0 c [bU k bet]=if c=k then some (bU k bet) else none:=by
 show(if(0:Int)=((0:Nat):Int)/\((k:Nat):Int)=((c:Nat):Int) then some (bU k bet) else none)=_;by_cases h:c=k
 ·rw[if_pos h,if_pos ⟨rfl,by omega⟩]
 ·rw[if_neg h,if_neg (fun q=>h (by have:=q.2;omega))]
theorem Ad9(s x bet:Int):Jc (cs [ofInt s,ofInt x] gl arr cells fuel o calls lots f) ((2:Nat)-(2:Nat)) [Dm 2,Jx (ofInt bet)]=decide (x=bet):=by
 show((!true||(2:Nat)==2)&&((ofInt x).same (ofInt bet)&&true))=_;rw[Ak4];by_cases h:x=bet <;> simp[h]
theorem A9p(k:Nat)(bet s x:Int)(l:Dv)(h:Oc bet l):MS.body P [bU k bet] 0 Kl (cs [ofInt s,ofInt x] gl arr cells fuel o calls [l] f)=Du (cs [ofInt s,ofInt x] gl arr cells fuel o calls [Hy k bet l x] Co) (Qm k bet l x) 0:=by
 have e0:MS.body P [bU k bet] 0 Kl (cs [ofInt s,ofInt x] gl arr cells fuel o calls [l] f)=(match (match taken 0 l.calls [bU k bet]with|some b=>some (I0 P b Kl)|none=>l.form) with
  | none=>(MS.Kw 0 ⟨l.calls+1,none,l.fast,l.drops⟩ (cs [ofInt s,ofInt x] gl arr cells fuel o calls [l] f)).begin 2 Nv 2
  | some fo=>if Jc (cs [ofInt s,ofInt x] gl arr cells fuel o calls [l] f) ((2:Nat)-(fo.bet.length:Nat)) fo.bet then(MS.Kw 0 ⟨l.calls+1,some fo,l.fast+1,l.drops⟩ (cs [ofInt s,ofInt x] gl arr cells fuel o calls [l] f)).begin fo.slots fo.steps 2
   else(MS.Kw 0 ⟨l.calls+1,none,l.fast,l.drops+1⟩ (cs [ofInt s,ofInt x] gl arr cells fuel o calls [l] f)).begin 2 Nv 2):=rfl
 have e1:(match taken 0 l.calls [bU k bet]with|some b=>some (I0 P b Kl)|none=>l.form)=Ow k bet l:=by
  rw[Aoc];unfold Ow;by_cases hk:l.calls=k
  ·rw[if_pos hk,if_pos hk];dsimp only;rw[Agk]
  ·rw[if_neg hk,if_neg hk]
 rw[e0,e1];unfold Hy Qm;rcases X0 (k:=k) h with e|e
 ·rw[e];rfl
 ·rw[e];dsimp only;have hf:=Ad9 (gl:=gl) (arr:=arr) (cells:=cells) (fuel:=fuel) (o:=o) (calls:=calls) (lots:=[l]) (f:=f) s x bet;by_cases hx:x=bet
  ·rw[if_pos (by rw[show(Pq bet).bet.length=2 from rfl];exact hf.trans (decide_eq_true hx)),if_pos hx,if_pos hx];rfl
  ·rw[if_neg (by rw[show(Pq bet).bet.length=2 from rfl];intro q;exact hx (of_decide_eq_true (hf.symm.trans q))),if_neg hx,if_neg hx];rfl
theorem A9v(hP:P.fns=[Kl])(k:Nat)(bet s x:Int)(l:Dv)(h:Oc bet l)(hf:fuel≠0):C4 P [bU k bet] 5 [⟨42,0,1,Ag⟩] (cs [ofInt s,ofInt x] gl arr cells fuel o [] [l] Co) (cs [ofInt (wr (s+x))] gl arr cells (fuel-1) o [] [Hy k bet l x] Co):=by
 intro S pc hp;have h0:=Jt.one (P:=P) (bets:=[bU k bet]) (m:=Du (cs [ofInt s,ofInt x] gl arr cells fuel o [] [l] Co) S pc) rfl (hp 0 _ rfl) (Py rfl);have e0:M8 P [bU k bet] ⟨42,0,1,Ag⟩ (Du (cs [ofInt s,ofInt x] gl arr cells fuel o [] [l] Co) S pc)=Du (cs [ofInt s,ofInt x] gl arr cells (fuel-1) o [⟨S,pc+1,0⟩] [Hy k bet l x] Co) (Qm k bet l x) 0:=by
  unfold M8;rw[Z8 (P:=P) (bets:=[bU k bet]) _ _ rfl (by exact hf) (by show(0:Nat)≠40;omega) (f:=Kl) (by rw[hP];rfl)];exact A9p (P:=P) (gl:=gl) (arr:=arr) (cells:=cells) (fuel:=fuel-1) (o:=o) (calls:=[⟨S,pc+1,0⟩]) (f:=⟨S,pc+1,0⟩) k bet s x l h
 rw[e0]at h0;generalize Hy k bet l x=l' at *;have hc:Qm k bet l x=Nv\/(Qm k bet l x=Qr bet/\x=bet):=by
  unfold Qm;rcases X0 (k:=k) h with e|e
  ·rw[e];exact .inl rfl
  ·rw[e];dsimp only;by_cases hx:x=bet
   ·rw[if_pos hx];exact .inr ⟨rfl,hx⟩
   ·rw[if_neg hx];exact .inl rfl
 have g1:C4 P [bU k bet] 1 [⟨1,0,0,Ag⟩] (cs [ofInt s,ofInt x] gl arr cells (fuel-1) o [⟨S,pc+1,0⟩] [l'] Co) (cs [ofInt s,ofInt x,ofInt s] gl arr cells (fuel-1) o [⟨S,pc+1,0⟩] [l'] Co):=rLd (a:=0) rfl rfl;rcases hc with e|⟨e,hx⟩
 ·rw[e]at h0;have g2:C4 P [bU k bet] 1 [⟨1,1,0,Ag⟩] (cs [ofInt s,ofInt x,ofInt s] gl arr cells (fuel-1) o [⟨S,pc+1,0⟩] [l'] Co) (cs [ofInt s,ofInt x,ofInt s,ofInt x] gl arr cells (fuel-1) o [⟨S,pc+1,0⟩] [l'] Co):=rLd (a:=1) rfl rfl;have g3:C4 P [bU k bet] 1 [⟨12,0,1,Ag⟩] (cs [ofInt s,ofInt x,ofInt s,ofInt x] gl arr cells (fuel-1) o [⟨S,pc+1,0⟩] [l'] Co) (cs [ofInt s,ofInt x,ofInt (wr (s+x))] gl arr cells (fuel-1) o [⟨S,pc+1,0⟩] [l'] Co):=A3h (V:=[ofInt s,ofInt x]) s x;have gb:=((g1.seq g2).seq g3) Nv 0 (A37 Nv 3);have gc:=Jt.one (P:=P) (bets:=[bU k bet]) (m:=Du (cs [ofInt s,ofInt x,ofInt (wr (s+x))] gl arr cells (fuel-1) o [⟨S,pc+1,0⟩] [l'] Co) Nv 3) (i:=⟨44,0,0,Ag⟩) rfl rfl (Py rfl);exact(h0.trans gb).trans gc
 ·rw[e]at h0;have g2:C4 P [bU k bet] 1 [⟨0,0,0,ofInt bet⟩] (cs [ofInt s,ofInt x,ofInt s] gl arr cells (fuel-1) o [⟨S,pc+1,0⟩] [l'] Co) (cs [ofInt s,ofInt x,ofInt s,ofInt bet] gl arr cells (fuel-1) o [⟨S,pc+1,0⟩] [l'] Co):=Q1 _;have g3:C4 P [bU k bet] 1 [⟨13,0,1,Ag⟩] (cs [ofInt s,ofInt x,ofInt s,ofInt bet] gl arr cells (fuel-1) o [⟨S,pc+1,0⟩] [l'] Co) (cs [ofInt s,ofInt x,ofInt (wr (s+x))] gl arr cells (fuel-1) o [⟨S,pc+1,0⟩] [l'] Co):=by rw[hx];exact Aj3 (V:=[ofInt s,ofInt bet]) s bet
  have gb:=((g1.seq g2).seq g3) (Qr bet) 0 (A37 (Qr bet) 3);have gc:=Jt.one (P:=P) (bets:=[bU k bet]) (m:=Du (cs [ofInt s,ofInt x,ofInt (wr (s+x))] gl arr cells (fuel-1) o [⟨S,pc+1,0⟩] [l'] Co) (Qr bet) 3) (i:=⟨44,0,0,Ag⟩) rfl rfl (Py rfl);exact(h0.trans gb).trans gc
end
section
open Go.Deep (BT)
variable {P:D7}
def Ki(L:List PV)(c j:Nat)(s:Int)(l:Dv)(fu:Nat):MS:=cs [] [Cf 0,ofInt (j:Nat),ofInt s] [L] c fu [] [] [l] Co
theorem j0{bets:List Cx}(L:List PV)(c j:Nat)(s:Int)(l:Dv)(fu n:Nat)(hn:L.length=n):C4 P bets 4 K1 (Ki L c j s l fu) (cs [ofBool (decide (((j:Nat):Int)<(n:Nat)))] [Cf 0,ofInt (j:Nat),ofInt s] [L] c fu [] [] [l] Co):=by
 have h1:C4 P bets 1 [⟨2,1,0,Ag⟩] (Ki L c j s l fu) (cs [ofInt (j:Nat)] [Cf 0,ofInt (j:Nat),ofInt s] [L] c fu [] [] [l] Co):=P8 (g:=1) rfl;have h2:C4 P bets 1 [⟨2,0,0,Ag⟩] (cs [ofInt (j:Nat)] [Cf 0,ofInt (j:Nat),ofInt s] [L] c fu [] [] [l] Co) (cs [ofInt (j:Nat),Cf 0] [Cf 0,ofInt (j:Nat),ofInt s] [L] c fu [] [] [l] Co):=P8 (g:=0) rfl;have h3:C4 P bets 1 [⟨37,0,1,Ag⟩] (cs [ofInt (j:Nat),Cf 0] [Cf 0,ofInt (j:Nat),ofInt s] [L] c fu [] [] [l] Co) (cs [ofInt (j:Nat),ofInt (n:Nat)] [Cf 0,ofInt (j:Nat),ofInt s] [L] c fu [] [] [l] Co):=Aj7 (V:=[ofInt (j:Nat)]) (r:=0) rfl hn;have h4:C4 P bets 1 [⟨29,0,1,Ag⟩] (cs [ofInt (j:Nat),ofInt (n:Nat)] [Cf 0,ofInt (j:Nat),ofInt s] [L] c fu [] [] [l] Co) (cs [ofBool (decide (((j:Nat):Int)<(n:Nat)))] [Cf 0,ofInt (j:Nat),ofInt s] [L] c fu [] [] [l] Co):=Aj8 (V:=[]) (j:Nat) (n:Nat);exact((h1.seq h2).seq h3).seq h4
theorem A9o(hP:P.fns=[Kl])(k:Nat)(bet:Int)(L:List PV)(c j:Nat)(s x:Int)(l:Dv)(fu n:Nat)(hn:L.length=n)(hj:j<n)(hx:L[j]?=some (ofInt x))(hj2:j<=1000)(hl:Oc bet l)(hf:2<=fu)(p:Int):C4 P [bU k bet] 19 (K1++(⟨7,p,1,Ag⟩::Ky)) (Ki L c j s l fu) (Ki L c (j+1) (wr (s+x)) (Hy k bet l x) (fu-1-1)):=by
 have h0:=j0 (P:=P) (bets:=[bU k bet]) L c j s l fu n hn;rw[decide_eq_true (show((j:Nat):Int)<(n:Nat) by omega)]at h0;have h1:C4 P [bU k bet] 1 [⟨7,p,1,Ag⟩] (cs [ofBool true] [Cf 0,ofInt (j:Nat),ofInt s] [L] c fu [] [] [l] Co) (Ki L c j s l (fu-1)):=Ajc (V:=[]) z4va;have h2:C4 P [bU k bet] 1 [⟨2,2,0,Ag⟩] (Ki L c j s l (fu-1)) (cs [ofInt s] [Cf 0,ofInt (j:Nat),ofInt s] [L] c (fu-1) [] [] [l] Co):=P8 (g:=2) rfl;have h3:C4 P [bU k bet] 1 [⟨2,0,0,Ag⟩] (cs [ofInt s] [Cf 0,ofInt (j:Nat),ofInt s] [L] c (fu-1) [] [] [l] Co) (cs [ofInt s,Cf 0] [Cf 0,ofInt (j:Nat),ofInt s] [L] c (fu-1) [] [] [l] Co):=P8 (g:=0) rfl;have h4:C4 P [bU k bet] 1 [⟨2,1,0,Ag⟩] (cs [ofInt s,Cf 0] [Cf 0,ofInt (j:Nat),ofInt s] [L] c (fu-1) [] [] [l] Co) (cs [ofInt s,Cf 0,ofInt (j:Nat)] [Cf 0,ofInt (j:Nat),ofInt s] [L] c (fu-1) [] [] [l] Co):=P8 (g:=1) rfl;have h5:C4 P [bU k bet] 1 [⟨39,0,1,Ag⟩] (cs [ofInt s,Cf 0,ofInt (j:Nat)] [Cf 0,ofInt (j:Nat),ofInt s] [L] c (fu-1) [] [] [l] Co) (cs [ofInt s,ofInt x] [Cf 0,ofInt (j:Nat),ofInt s] [L] c (fu-1) [] [] [l] Co):=Aj5 (V:=[ofInt s]) (r:=0) (L:=L) rfl hx;have h6:=A9v (P:=P) (gl:=[Cf 0,ofInt (j:Nat),ofInt s]) (arr:=[L]) (cells:=c) (fuel:=fu-1) (o:=[]) hP k bet s x l hl z4va;have h7:C4 P [bU k bet] 1 [⟨4,2,0,Ag⟩] (cs [ofInt (wr (s+x))] [Cf 0,ofInt (j:Nat),ofInt s] [L] c (fu-1-1) [] [] [Hy k bet l x] Co) (Ki L c j (wr (s+x)) (Hy k bet l x) (fu-1-1)):=Sw (V:=[]) (g:=2) (by show 2<3;omega);have h8:C4 P [bU k bet] 1 [⟨2,1,0,Ag⟩] (Ki L c j (wr (s+x)) (Hy k bet l x) (fu-1-1)) (cs [ofInt (j:Nat)] [Cf 0,ofInt (j:Nat),ofInt (wr (s+x))] [L] c (fu-1-1) [] [] [Hy k bet l x] Co):=P8 (g:=1) rfl;have h9:C4 P [bU k bet] 1 [⟨0,0,0,ofInt 1⟩] (cs [ofInt (j:Nat)] [Cf 0,ofInt (j:Nat),ofInt (wr (s+x))] [L] c (fu-1-1) [] [] [Hy k bet l x] Co) (cs [ofInt (j:Nat),ofInt 1] [Cf 0,ofInt (j:Nat),ofInt (wr (s+x))] [L] c (fu-1-1) [] [] [Hy k bet l x] Co):=Q1 _;have hw:wr (((j:Nat):Int)+1)=((j+1:Nat):Int):=by rw[Th] <;> unfold D4 at*<;> omega
 have h10:=A3h (P:=P) (bets:=[bU k bet]) (V:=[]) (gl:=[Cf 0,ofInt (j:Nat),ofInt (wr (s+x))]) (arr:=[L]) (cells:=c) (fuel:=fu-1-1) (o:=[]) (calls:=[]) (lots:=[Hy k bet l x]) (f:=Co) (j:Nat) 1;rw[hw]at h10;have h11:C4 P [bU k bet] 1 [⟨4,1,0,Ag⟩] (cs [ofInt ((j+1:Nat):Int)] [Cf 0,ofInt (j:Nat),ofInt (wr (s+x))] [L] c (fu-1-1) [] [] [Hy k bet l x] Co) (Ki L c (j+1) (wr (s+x)) (Hy k bet l x) (fu-1-1)):=Sw (V:=[]) (g:=1) (by show 1<3;omega);exact h0.seq (h1.seq (h2.seq (h3.seq (h4.seq (h5.seq (h6.seq (h7.seq (h8.seq (h9.seq (h10.seq h11))))))))))
theorem Up{S c d:List Ac}{p:Nat}(h:Og S p (c++d)):Og S p c/\Og S (p+c.length) d:=
 ⟨fun q i hq=>h q i z62a,fun q i hq=>by rw[Nat.add_assoc];exact h _ i z6ca⟩
def Jz(s:Int)(rs:List Int):Int:=rs.foldl (fun s x=>wr (s+x)) s
def Km(k:Nat)(bet:Int)(l:Dv)(rs:List Int):Dv:=rs.foldl (Hy k bet) l
theorem Ag6(hP:P.fns=[Kl])(k:Nat)(bet:Int)(L:List PV)(c n:Nat)(hn:L.length=n)(Di:n<=1000)(S:List Ac)(p:Nat)(hS:Og S p (Mo p)):∀(rs:List Int) (j:Nat) (s:Int) (l:Dv) (fu:Nat),(∀i x,rs[i]?=some x->L[j+i]?=some (ofInt x))->j+rs.length=n->2*rs.length<=fu->Oc bet l->
  Jt P [bU k bet] (5+20*rs.length) (Du (Ki L c j s l fu) S p) (Du (Ki L c n (Jz s rs) (Km k bet l rs) (fu-2*rs.length)) S (p+16)):=by
 intro rs;have hq:Mo p=(K1++(⟨7,((p+16:Nat):Int),1,Ag⟩::Ky))++[⟨6,(p:Nat),0,Ag⟩]:=by unfold Mo;simp
 obtain⟨q1,q2⟩:=Up (by rw[←hq];exact hS:Og S p ((K1++(⟨7,((p+16:Nat):Int),1,Ag⟩::Ky))++[⟨6,(p:Nat),0,Ag⟩]));obtain⟨q3,q4⟩:=Up q1;induction rs with
 | nil=>
  intro j s l fu _ hj _ _;have hjn:j=n:=by simpa using hj
  have h0:=j0 (P:=P) (bets:=[bU k bet]) L c j s l fu n hn S p q3;rw[decide_eq_false (show ¬((j:Nat):Int)<(n:Nat) by omega)]at h0;have h1:=Jt.one (P:=P) (bets:=[bU k bet]) (m:=Du (cs [ofBool false] [Cf 0,ofInt (j:Nat),ofInt s] [L] c fu [] [] [l] Co) S (p+4)) (i:=⟨7,((p+16:Nat):Int),1,Ag⟩) rfl (q4 0 _ rfl) (Py rfl);have e1:M8 P [bU k bet] ⟨7,((p+16:Nat):Int),1,Ag⟩ (Du (cs [ofBool false] [Cf 0,ofInt (j:Nat),ofInt s] [L] c fu [] [] [l] Co) S (p+4))=Du (Ki L c j s l fu) S (p+16):=rfl;rw[e1]at h1;have h2:=h0.trans h1;rw[←hjn];exact h2
 | cons x rs ih=>
  intro j s l fu hx hj hf hl;rw[List.length_cons]at hj hf ⊢;have hb:=A9o (P:=P) hP k bet L c j s x l fu n hn z4va (by have:=hx 0 x rfl;simpa using this) z4va hl z4va ((p+16:Nat):Int) S p q1;have h1:=Jt.one (P:=P) (bets:=[bU k bet]) (m:=Du (Ki L c (j+1) (wr (s+x)) (Hy k bet l x) (fu-1-1)) S (p+15)) (i:=⟨6,(p:Nat),0,Ag⟩) rfl (q2 0 _ rfl) (Py rfl);have e1:M8 P [bU k bet] ⟨6,(p:Nat),0,Ag⟩ (Du (Ki L c (j+1) (wr (s+x)) (Hy k bet l x) (fu-1-1)) S (p+15))=Du (Ki L c (j+1) (wr (s+x)) (Hy k bet l x) (fu-1-1)) S p:=rfl;rw[e1]at h1;have h2:=ih (j+1) (wr (s+x)) (Hy k bet l x) (fu-1-1) (fun i y hy=>by have:=hx (i+1) y (by simpa using hy);rw[show j+1+i=j+(i+1) by omega];exact this) z4va z4va (hl.step x);have h3:=(hb.trans h1).trans h2;rw[show fu-1-1-2*rs.length=fu-2*(rs.length+1) by omega,show 5+20*rs.length+(1+19)=5+20*(rs.length+1) by omega]at h3;exact h3
theorem Anw(s:Int)(hs:D4 s):∀rs:List Int,D4 (Jz s rs):=by
 intro rs;induction rs generalizing s with
 | nil=>exact hs
 | cons x rs ih=>exact ih _ (Yy _)
def Mf:Dv:=⟨0,none,0,0⟩
theorem Ao3(rs:List Int)(k:Nat)(bet:Int)(hr:∀r∈rs,D4 r)(hl:rs.length<=20):∃n m',n<=1000/\Iy (Gm rs) [bU k bet] n (mstart (Gm rs))=some m'/\nice (Gm rs) [bU k bet] n (mstart (Gm rs))/\m'.code=0/\m'.out=[Lib.itoa (Jz 0 rs)]/\m'.lots=[Km k bet Mf rs]:=by
 obtain⟨k1,hk1,h2⟩:=Apm (P:=Gm rs) (bets:=[bU k bet]) rs [] 0 hr z4va;rw[List.nil_append,Nat.zero_add]at h2;have h3:=A62 (P:=Gm rs) (bets:=[bU k bet]) (rs.map ofInt) rs.length;have hA:=(Apd (P:=Gm rs) (bets:=[bU k bet])).seq h2 |>.seq h3;have hm:(Gm rs).main=(J3 rs++Mu)++(Mo ((J3 rs).length+4)++Sx):=by show J3 rs++Rg (J3 rs).length=_;unfold Rg;simp
 have hpl:(J3 rs++Mu).length=(J3 rs).length+4:=by rw[List.length_append];rfl
 have p0:Og (Gm rs).main 0 ((J3 rs++Mu)++(Mo ((J3 rs).length+4)++Sx)):=fun j i hj=>by rw[Nat.zero_add,hm];exact hj
 obtain⟨p1,p2⟩:=Up p0;rw[Nat.zero_add,hpl]at p2;obtain⟨p3,p4⟩:=Up p2;have hwl:(Mo ((J3 rs).length+4)).length=16:=by simp[Mo,K1,Ky]
 rw[hwl]at p4;have g1:=hA (Gm rs).main 0 p1;rw[Nat.zero_add,show(Q7++rs.flatMap Mb++Mu).length=(J3 rs).length+4 from hpl]at g1;have g2:=Ag6 (P:=Gm rs) rfl k bet (rs.map ofInt) rs.length rs.length z50a z4va (Gm rs).main ((J3 rs).length+4) p3 rs 0 0 Mf 2000 (fun i x hx=>by rw[Nat.zero_add,List.getElem?_map,hx];rfl) z4va z4va (.inl rfl);have h5:C4 (Gm rs) [bU k bet] 1 [⟨2,2,0,Ag⟩] (Ki (rs.map ofInt) rs.length rs.length (Jz 0 rs) (Km k bet Mf rs) (2000-2*rs.length)) (cs [ofInt (Jz 0 rs)] [Cf 0,ofInt (rs.length:Nat),ofInt (Jz 0 rs)] [rs.map ofInt] rs.length (2000-2*rs.length) [] [] [Km k bet Mf rs] Co):=P8 (g:=2) rfl;have h6:C4 (Gm rs) [bU k bet] 1 [⟨41,0,1,Ag⟩] (cs [ofInt (Jz 0 rs)] [Cf 0,ofInt (rs.length:Nat),ofInt (Jz 0 rs)] [rs.map ofInt] rs.length (2000-2*rs.length) [] [] [Km k bet Mf rs] Co) (cs [] [Cf 0,ofInt (rs.length:Nat),ofInt (Jz 0 rs)] [rs.map ofInt] rs.length (2000-2*rs.length) [Lib.itoa (Jz 0 rs)] [] [Km k bet Mf rs] Co):=Ak8 (V:=[]) (Anw 0 O2 rs) z50a;have g3:=(h5.seq h6) (Gm rs).main ((J3 rs).length+4+16) p4;have g:=(g1.trans g2).trans g3;have hml:(J3 rs).length+4+16+([⟨2,2,0,Ag⟩]++[⟨41,0,1,Ag⟩]:List Ac).length=(Gm rs).main.length:=by
  have h7:=congrArg List.length hm;rw[List.length_append,hpl,List.length_append,hwl,show Sx.length=2 from rfl]at h7;rw[h7];rfl
 rw[hml]at g;obtain⟨e1,e2⟩:=Ak3 (P:=Gm rs) (bets:=[bU k bet]) rfl (s:=Du (cs [] [Ag,Ag,Ag] [] 0 2000 [] [] Jg Co) (Gm rs).main 0) rfl g;exact⟨_,_,by omega,e1,e2,rfl,rfl,rfl⟩
end
end Go.Proofs.YtjdlndhfaaolaaaGreatDoor
