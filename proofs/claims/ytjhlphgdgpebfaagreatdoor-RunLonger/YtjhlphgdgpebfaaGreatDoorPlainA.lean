/-
  A part of the proof.
-/
import Derived.Lib.ItoaNum
import Derived.Lib.Small
import Derived.Lib.Atoi
import Derived.Lib.Bytealg
set_option maxHeartbeats 0
set_option linter.all false
set_option maxRecDepth 100000
namespace Go.Proofs.YtjhlphgdgpebfaaGreatDoor
theorem K{p:Sort _}{a:p}:a=a:=rfl
theorem W{p:Prop}(h:p:=by omega):p:=h
theorem ε{p:Prop}(h:p:=by decide):p:=h
theorem θ{p:Prop}(h:p:=by grind):p:=h
theorem ι{p:Prop}(h:p:=by simp):p:=h
theorem à{p:Prop}(h:p:=by simp;omega):p:=h
theorem Θ{p:Prop}(h:p:=by rfl):p:=h
theorem ð{p:Prop}(h:p:=by simp_all):p:=h
def ö{p:Prop}(h:p:=by assumption):p:=h
open Bool renaming false->κ,true->τ
open Decidable renaming decide->å
open Lib renaming compareBytes->û
open List renaming length->Q,all_eq_true->Ð
open Option renaming some->C
abbrev bZ:=List UInt8
abbrev uZ:=List Int
theorem lZ{a b:Type}{l:List a}(f:a→b):Q (l.map f)=Q l:=List.length_map f
theorem iZ{c:Type}{a b}{l:List c}:(b::l).set 0 a=a::l:=rfl
theorem zZ{c:Type}{a b}{l:List c}{n}:(b::l).set (n+1) a=b::l.set n a:=rfl
theorem wZ{b:Type}{l:List b}{i}{a}:l.toArray.setIfInBounds i a=(l.set i a).toArray:=List.setIfInBounds_toArray ..
theorem yZ:(κ=τ)=False:=Bool.false_eq_true
theorem rZ{b:Type}{a:b}:¬a∈[]:=List.not_mem_nil
theorem qZ{d:Type}(a b c:List d):a++b++c=a++(b++c):=List.append_assoc a b c
theorem kZ{c d:Type}{b}{f:c→d}{l:List c}:b∈l.map f↔∃a,a∈l∧f a=b:=List.mem_map
theorem jZ{d:Type}{a}{b c:List d}:a::b++c=a::(b++c):=rfl
theorem vZ{a:Type}{l:List a}:l.take (Q l)=l:=List.take_length
def xZ{c:Type}{a b:c}(h:C a=C b):a=b:=Option.some.inj h
theorem bY{b c:Type}{f:b→c}{a}{l}:(a::l).map f=f a::l.map f:=rfl
theorem uY{a:Type}(l:List a):[]++l=l:=rfl
theorem iY{a:Type}(l:List a):l++[]=l:=List.append_nil l
theorem zY{c d:Type}{f:c→d}{a b:List c}:(a++b).map f=a.map f++b.map f:=List.map_append
theorem wY{c}{h:Decidable c}(n:¬c){a}{t e:a}:ite c t e=e:=if_neg n
theorem yY{c}{h:Decidable c}(n:c){a}{t e:a}:ite c t e=t:=if_pos n
theorem zQ{c:Type}{a b:c}:(C a=C b)=(a=b):=Option.some.injEq a b
theorem qQ{c:Type}{a b:List c}:Q (a++b)=Q a+Q b:=List.length_append
theorem jQ{b:Type}{a}{l:List b}:Q (a::l)=Q l+1:=K
theorem xQ{a:Type}:Q ([]:List a)=0:=K
theorem kQ{a b c:Nat}(h:a<=b)(k:b<=c):a<=c:=Nat.le_trans h k
theorem vQ(a:Nat):a<=a:=Nat.le_refl a
def wQ(a):0<=a:=Nat.zero_le a
theorem yQ{a b c:Nat}(h:a<b)(k:b<=c):a<c:=Nat.lt_of_lt_of_le h k
theorem lQ{b:Type}{l:List b}{i}{a}:l.getD i a=l[i]?.getD a:=List.getD_eq_getElem?_getD ..
theorem gQ{a:Type}{l:List a}{i}(h:i<Q l):l[i]?=C l[i]:=List.getElem?_eq_getElem h
theorem mQ{a:Type}{l:List a}{i}(h:i<Q l):l[i]∈l:=List.getElem_mem h
theorem nQ{a:Type}{l:List a}{i}(h):l.take (i+1)=l.take i++[l[i]]:=List.take_succ_eq_append_getElem h
theorem tQ(n:Nat):((n:Int)).toNat=n:=Int.toNat_natCast n
theorem zW{c:Type}{a b:c}:a∈[b]↔a=b:=List.mem_singleton
theorem qW{b:Type}{a}{l k:List b}:a∈l++k↔a∈l \/a∈k:=List.mem_append
theorem jW{c:Type}{a b}{l:List c}:a∈b::l↔a=b \/a∈l:=List.mem_cons
def fP(n:Nat):Bool:=å (48<=n)&&å (n<=57)
def iP(n:Nat):Bool:=(å (97<=n)&&å (n<=122))||(å (65<=n)&&å (n<=90))||å (n=95)
def blank(n:Nat):Bool:=å (n=32)||å (n=10)
def iA(n:Nat):Bool:=iP n||fP n
def iF(n:Nat):Bool:=å (32<=n)&&å (n<=126)&&å (n≠34)
def sp(p:Nat->Bool):bZ->Nat
 |[]=>0
 |c::r=>if p c.toNat then sp p r+1 else 0
theorem oX(p)(l):sp p l<=Q l:=by
 induction l with
 |nil=>simp[sp]
 |cons c r a=>grind[sp]
def yA(p):∀(l) (k) (h),k<=sp p l->p l[k].toNat=τ->k+1<=sp p l
 |[],_,h,_,_=>θ
 |c::r,0,_,_,d=>by grind[sp]
 |c::r,k+1,h,a,d=>by
  simp only[sp]at a⊢;split at a
  .rename_i b;rw[yY b];have:=yA p r k θ W θ;omega
  omega
theorem BM(p):∀(l) (k) (h),k<=sp p l->p l[k].toNat=κ->sp p l=k
 |[],_,h,_,_=>θ
 |c::r,0,_,_,d=>by grind[sp]
 |c::r,k+1,h,a,d=>by
  simp only[sp]at a⊢;split at a
  .rename_i b;rw[yY b];have:=BM p r k θ W θ;omega
  omega
def Aq:List bZ:=[[108,101,116],[102,110],[105,102],[101,108,115,101],[119,104,105,108,101],[114,101,116,117,114,110],[112,114,105,110,116],[116,114,117,101],[102,97,108,115,101],[110,117,108,108],[97,115],[116,121,112,101,111,102],[110,117,109],[98,111,111,108],[116,101,120,116],[97,110,121],[117,110,107,110,111,119,110]]
def has(a:List bZ)(l:bZ):Bool:=a.contains l
def tX(l:bZ):Bool:=has Aq l
def oJ:List bZ:=[[61,61],[61,62],[40],[41],[123],[125],[91],[93],[44],[59],[58],[46],[61],[60],[43],[45],[42],[33],[124]]
def K8(l:bZ)(a:List bZ):Nat:=a.foldl (λm g=>if g.isPrefixOf l then max m (Q g) else m) 0
def Xn(l)(a:List bZ)(k)(h):has (a.take<|k+1) l=(has (a.take k) l||l==a[k]):=by
 rw[nQ h];grind[has]
theorem Ju{l}{a}(h:l∈a):has a l=τ:=by grind[has]
structure Tk where
 x:Int
 text:bZ
 at':Nat
def qD(l:bZ):Int×bZ×Nat:=
 if 9<sp fP l\/l.head?=C 48/\1<sp fP l then (0,[],0) else (3,l.take<|sp fP l,sp fP l)
def name(l:bZ):Int×bZ×Nat:=
 if 20<sp iA l then (0,[],0) else (if tX (l.take<|sp iA l) then 2 else 1,l.take<|sp iA l,sp iA l)
def text(l:bZ):Int×bZ×Nat:=
 if 30<sp iF l.tail\/(l.tail.drop<|sp iF l.tail).head?≠C 34 then (0,[],0) else (4,l.tail.take<|sp iF l.tail,sp iF l.tail+2)
def rK(l:bZ):Int×bZ×Nat:=
 if K8 l oJ=0 then (0,[],0) else (5,l.take<|K8 l oJ,K8 l oJ)
def aY(l:bZ):Int×bZ×Nat:=
 match l.head? with
 |none=>(0,[],0)
 |C c=>if fP c.toNat then qD l else if iP c.toNat then name l else if c.toNat=34 then text l else rK l
def J3:Nat->bZ->Nat->List Tk->List Tk×Int×Nat
 |0,_,_,_=>([],0,0)
 |f+1,l,a,b=>
  if Q l<=a+sp blank (l.drop a) then (b++[⟨6,[],Q l⟩],0,0)
  else if (aY<|l.drop<|a+sp blank (l.drop a)).2.2=0 then ([],1,a+sp blank (l.drop a))
  else if Q b=1000 then ([],2,a+sp blank (l.drop a))
  else J3 f l (a+sp blank (l.drop a)+(aY<|l.drop<|a+sp blank (l.drop a)).2.2)<|b++[⟨(aY<|l.drop<|a+sp blank (l.drop a)).1,(aY<|l.drop<|a+sp blank (l.drop a)).2.1,a+sp blank (l.drop a)⟩]
def O8(l:bZ):List Tk×Int×Nat:=if 4000<Q l then ([],2,0) else J3 (Q l+1) l 0 []
def gO(l:bZ):∀(b:List bZ) (m),m<=Q l->b.foldl (λm g=>if g.isPrefixOf l then max m (Q g) else m) m<=Q l
 |[],m,a=>a
 |g::r,m,a=>by
  simp only[List.foldl_cons];refine gO l r _ ?_;grind
def Jt(l):(aY l).2.2<=Q l:=by
 unfold aY;cases h:l.head? with
 |none=>simp
 |some c=>
  simp only;split
  .grind[qD,oX]
  split
  .grind[name,oX]
  split
  .unfold text;grind[List.drop_of_length_le]
  .unfold rK;split
   .simp
   .exact gO l oJ 0 W
theorem YT(f)(l)(a)(b)(c:sp blank (l.drop a)=0):J3 (f+1) l a b=
 if Q l<=a then (b++[⟨6,[],Q l⟩],0,0)
 else if (aY<|l.drop a).2.2=0 then ([],1,a)
 else if Q b=1000 then ([],2,a)
 else J3 f l (a+(aY<|l.drop a).2.2) (b++[⟨(aY<|l.drop a).1,(aY<|l.drop a).2.1,a⟩]):=by
 simp_all[J3,Nat.add_zero]
theorem KJ(p):∀(l:bZ),sp p (l.drop<|sp p l)=0
 |[]=>Θ
 |c::r=>by
  simp only[sp];split
  .rw[List.drop_succ_cons];exact KJ p r
  grind[sp]
theorem R9(f)(l)(a)(b):J3 (f+1) l a b=J3 (f+1) l (a+sp blank (l.drop a)) b:=by
 grind[KJ,blank,List.drop_drop,YT,sp,J3]
def plain(k:Int):Bool:=k==1||k==2||k==3
theorem TA(p):∀(l) (h:sp p l<Q l),p l[sp p l].toNat=κ
 |[],h=>θ
 |c::r,h=>by
  cases b:p c.toNat
  .grind[sp]
  .have a:sp p (c::r)=sp p r+1:=by simp[sp,b]
   simp only[a,List.getElem_cons_succ];rw[a]at h;exact TA p r θ
theorem IJ(p):∀(l) (k) (h),k<sp p l->p l[k].toNat=τ
 |[],k,h,_=>θ
 |c::r,0,_,a=>by
  grind[sp]
 |c::r,k+1,h,a=>by
  cases b:p c.toNat
  .grind[sp]
  .simp only[sp,b,if_true]at a;simpa using IJ p r k θ W
structure vz(l:bZ)(r:Int×bZ×Nat):Prop where
 le:r.2.2<=Q l
 size:r.2.2=Q r.2.1+if r.1=4 then 2 else 0
 x:r.1≠6
 name:r.1=1\/r.1=2->(∀h:0<Q l,iP l[0].toNat=τ)/\(∀h:r.2.2<Q l,iA l[r.2.2].toNat=κ)
 num:r.1=3->(∀h:0<Q l,fP l[0].toNat=τ)/\(∀h:r.2.2<Q l,fP l[r.2.2].toNat=κ)
def Vp(l)(b:(aY l).2.2≠0):vz l (aY l):=by
 have a:=Jt l;unfold aY at b a⊢;cases e:l.head? with
 |none=>grind
 |some c=>
  rw[e]at b a;simp only at b a⊢;have k:∀h:0<Q l,l[0]=c:=by
   intro h;rw[List.head?_eq_getElem?,gQ h]at e;exact xZ e
  cases i:fP c.toNat
  .rw[i]at b a;cases j:iP c.toNat
   .rw[j]at b a;by_cases g:c.toNat=34
    .rw[yY g]at b a⊢;simp at b a⊢;unfold text at b a⊢;split at b
     .grind
     .rename_i d;rw[wY d]at a⊢;have f:=a;refine⟨a,?_,ι,ι,ι⟩;grind
    .rw[wY g]at b a⊢;simp at b a⊢;unfold rK at b a⊢;split at b
     .grind
     .rename_i d;rw[wY d]at a⊢;have f:=a;refine⟨a,?_,ι,ι,ι⟩;grind
   .rw[j]at b a;simp at b a⊢;unfold name at b a⊢;split at b
    .grind
    .rename_i d;rw[wY d]at a⊢;have f:=a;refine⟨a,?_,?_,?_,?_⟩
     .grind
     .omega
     .grind[TA,iA]
     omega
  .rw[i]at b a;simp at b a⊢;unfold qD at b a⊢;split at b
   .grind
   .rename_i d;rw[wY d]at a⊢;refine⟨a,?_,ι,ι,?_⟩
    .grind
    grind[TA,fP]
structure Ty where
 x:Int
 eo:List<|bZ×Int
 M:uZ
 fh:Int
structure Nd where
 x:Int
 a:Int
 b:Int
 c:Int
 M:uZ
 text:bZ
 n:Int
 ty:Int
 at':Int
structure St where
 i:Nat
 N:List Nd
 T:List Ty
inductive Out(α:Type) where
 |ok (s:St) (x:α)
 |fail (e:Int) (p:Int)
def tk(L:List Tk)(i:Nat):Tk:=L.getD i ⟨6,[],0⟩
def aL(L:List Tk)(i:Nat)(a:List bZ):Bool:=((tk L i).x==5||(tk L i).x==2)&&has a (tk L i).text
def bF{a}(L:List Tk)(i:Nat)(e:Int):Option (Out a):=C<|.fail e<|(tk L i).at'
def St.nx(s:St):St:=⟨s.i+1,s.N,s.T⟩
def aC(L:List Tk)(s:St)(m:bZ):Option (Out Unit):=if aL L s.i [m] then C (.ok s.nx ()) else bF L s.i 1
def bQ(s:St)(t:Ty):Option (Out Int):=C<|.ok ⟨s.i,s.N,s.T++[t]⟩ (Q s.T)
def aE(s:St)(n:Nd):Option (Out Int):=C<|.ok ⟨s.i,s.N++[n],s.T⟩ (Q s.N)
def kB:Nd:=⟨0,0,0,0,[],[],0,-1,0⟩
def iC(s:St)(n:Int):Int:=(s.N.getD n.toNat kB).at'
def A8{b c}(x:Option<|Out b)(k:St->b->Option (Out c)):Option (Out c):=
 match x with
 |none=>none
 |C (.fail e p)=>C<|.fail e p
 |C (.ok s a)=>k s a
def EM:List bZ:=[[110,117,109],[98,111,111,108],[116,101,120,116],[110,117,108,108],[97,110,121],[117,110,107,110,111,119,110],[123],[91],[40]]
def M6:List bZ:=[[116,114,117,101],[102,97,108,115,101],[110,117,108,108],[102,110],[40],[91],[123],[33],[45],[116,121,112,101,111,102]]
def KE:List bZ:=[[108,101,116],[112,114,105,110,116],[114,101,116,117,114,110],[105,102],[119,104,105,108,101]]
def lY(L:List Tk)(i:Nat):Bool:=(tk L i).x==1||(tk L i).x==3||(tk L i).x==4||aL L i M6
def MC(L:List Tk)(i:Nat):Bool:=aL L i KE||lY L i
def I1(t:bZ):Int:=
 if t=[110,117,109] then 1 else if t=[98,111,111,108] then 2 else if t=[116,101,120,116] then 3 else if t=[110,117,108,108] then 4 else if t=[97,110,121] then 5 else if t=[117,110,107,110,111,119,110] then 6 else 0
inductive oT where
 |typ|expr|obj|par
structure Sp where
 typ:Nat->St->Option (Out Int)
 union:Nat->St->Option (Out Int)
 gp:Nat->St->uZ->Option (Out uZ)
 gd:Nat->St->Option (Out Int)
 jl:Nat->St->List (bZ×Int)->Option (Out Int)
 kv:Nat->St->Option (Out Int)
 M:oT->bZ->Nat->St->List bZ->uZ->Option (Out uZ)
 expr:Nat->St->Option (Out Int)
 comp:Nat->St->Option (Out Int)
 sum:Nat->St->Option (Out Int)
 prod:Nat->St->Option (Out Int)
 row:Bool->Nat->St->Int->Option (Out Int)
 oper:Nat->St->Option (Out Int)
 tail:Nat->St->Int->Option (Out Int)
 simple:Nat->St->Option (Out Int)
 block:Nat->St->Option (Out Int)
 gj:Nat->St->uZ->Option (Out uZ)
 gy:Nat->St->Option (Out Int)
 any:Nat->St->Option (Out Int)
 jd:Nat->St->uZ->Option (Out uZ)
def aS(L:List Tk)(a:Bool)(d:Nat)(s:St)(part:Nat->St->Option (Out Int)):Option (Out Int):=
 if a then if 20<=d then bF L s.i 8 else part (d+1) s else bF L s.i 1
def J4:Bool->List bZ
 |τ=>[[43],[45]]
 |κ=>[[42]]
def iN(L:List Tk)(s:St)(left:Int)(part:St->Option (Out Int)):Option (Out Int):=
 A8 (part s.nx) λa x=>aE a ⟨12,left,x,0,[],(tk L s.i).text,0,-1,iC a left⟩
def bC(L:List Tk)(r:Sp)(d:Nat)(s:St):Option (Out Int):=if aL L s.i [[58]] then r.typ d s.nx else C<|.ok s<|-1
def aO(L:List Tk)(s:St)(a:List bZ):Option (Out bZ):=
 if (tk L s.i).x=1 then if has a (tk L s.i).text then bF L s.i 6 else C (.ok s.nx (tk L s.i).text) else bF L s.i 1
def part(L:List Tk)(r:Sp)(d:Nat)(s:St)(a:List bZ):oT->Option (Out<|Int×List bZ)
 |.typ=>A8 (r.typ d s) λs x=>C<|.ok s (x,a)
 |.expr=>A8 (r.expr d s) λs x=>C<|.ok s (x,a)
 |.obj=>A8 (aO L s a) λc b=>A8 (aC L c [58]) λe _=>A8 (r.expr d e) λf x=>
  A8 (aE f ⟨15,x,0,0,[],b,0,-1,(tk L s.i).at'⟩) λg y=>C<|.ok g (y,a++[b])
 |.par=>A8 (aO L s a) λc b=>A8 (bC L r d c) λe t=>
  A8 (aE e ⟨16,0,0,0,[],b,0,t,(tk L s.i).at'⟩) λf y=>C<|.ok f (y,a++[b])
def lX(k:Int):Int:=if k=5 then 18 else if k=8 then 19 else if k=9 then 20 else 0
def kJ(n:Nd)(v:Int):Nd:=
 if n.x=5 then ⟨18,v,n.b,n.c,n.M,n.text,n.n,-1,n.at'⟩
 else if n.x=8 then ⟨19,n.a,v,n.c,n.M,n.text,n.n,-1,n.at'⟩
 else ⟨20,n.a,n.b,v,n.M,n.text,n.n,-1,n.at'⟩
def qA(l:bZ):Int:=l.foldl (λn c=>10*n+c.toNat-48) 0
def step(L:List Tk)(r:Sp):Sp where
 typ d s:=aS L (aL L s.i EM) d s r.union;union d s:=A8 (r.gd d s) λs x=>if aL L s.i [[124]] then A8 (r.gp d s [x]) λs l=>bQ s ⟨10,[],l,0⟩ else C<|.ok s x;gp d s acc:=if aL L s.i [[124]] then A8 (r.gd d s.nx) λs x=>r.gp d s (acc++[x]) else C<|.ok s acc;gd d s:=
  if aL L s.i [[123]] then r.jl d s.nx []
  else if aL L s.i [[91]] then A8 (r.typ d s.nx) λs x=>A8 (aC L s [93]) λs _=>bQ s ⟨8,[],[],x⟩
  else if aL L s.i [[40]] then r.kv d s.nx
  else if (tk L s.i).x=2/\I1 (tk L s.i).text≠0 then bQ s.nx ⟨I1 (tk L s.i).text,[],[],0⟩ else bF L s.i 1;jl d s fields:=
  if aL L s.i [[125]] then bQ s.nx ⟨7,fields,[],0⟩
  else A8 (aO L s (fields.map (·.1))) λs j=>A8 (aC L s [58]) λs _=>A8 (r.typ d s) λs x=>A8 (aC L s [59]) λs _=>r.jl d s<|fields++[(j,x)];kv d s:=A8 (r.M .typ [41] d s [] []) λs l=>
  if aL L s.i [[61,62]] then A8 (r.typ d s.nx) λs x=>bQ s ⟨9,[],l,x⟩
  else match l with
   |[x]=>C<|.ok s x
   |_=>bF L s.i 1;M p e d s names acc:=
  if aL L s.i [e] then C<|.ok s.nx acc
  else A8 (if Q acc=0 then C (.ok s ()) else aC L s [44]) λs _=>A8 (part L r d s names p) λs x=>r.M p e d s x.2<|acc++[x.1];expr d s:=aS L (lY L s.i) d s r.comp;comp d s:=A8 (r.sum d s) λs x=>if aL L s.i [[61,61],[60]] then iN L s x (r.sum d) else C<|.ok s x;sum d s:=A8 (r.prod d s) λs x=>r.row τ d s x;prod d s:=A8 (r.oper d s) λs x=>r.row κ d s x;row b d s x:=if aL L s.i (J4 b) then A8 (iN L s x<|if b then r.prod d else r.oper d) λs y=>r.row b d s y else C<|.ok s x;oper d s:=
  if aL L s.i [[33],[45],[116,121,112,101,111,102]] then A8 (aS L (lY L<|s.i+1) d s.nx r.oper) λf x=>aE f ⟨13,x,0,0,[],(tk L s.i).text,0,-1,(tk L s.i).at'⟩
  else A8 (r.simple d s) λs x=>r.tail d s x;tail d s h:=
  if aL L s.i [[40]] then A8 (r.M .expr [41] d s.nx [] []) λf l=>A8 (aE f ⟨7,h,0,0,l,[],0,-1,iC s h⟩) λs x=>r.tail d s x
  else if aL L s.i [[46]] then
   if (tk L<|s.i+1).x=1 then A8 (aE s.nx.nx ⟨8,h,0,0,[],(tk L<|s.i+1).text,0,-1,iC s h⟩) λs x=>r.tail d s x else bF L (s.i+1) 1
  else if aL L s.i [[91]] then A8 (r.expr d s.nx) λf x=>A8 (aC L f [93]) λf _=>A8 (aE f ⟨9,h,x,0,[],[],0,-1,iC s h⟩) λs x=>r.tail d s x
  else if aL L s.i [[97,115]] then A8 (r.typ d s.nx) λf t=>A8 (aE f ⟨14,h,0,0,[],[],0,t,iC s h⟩) λs x=>r.tail d s x
  else C<|.ok s h;simple d s:=
  if (tk L s.i).x=3 then aE s.nx ⟨1,0,0,0,[],[],qA (tk L s.i).text,-1,(tk L s.i).at'⟩
  else if (tk L s.i).x=4 then aE s.nx ⟨2,0,0,0,[],(tk L s.i).text,0,-1,(tk L s.i).at'⟩
  else if (tk L s.i).x=1 then aE s.nx ⟨5,0,0,0,[],(tk L s.i).text,0,-1,(tk L s.i).at'⟩
  else if aL L s.i [[116,114,117,101]] then aE s.nx ⟨3,0,0,0,[],[],1,-1,(tk L s.i).at'⟩
  else if aL L s.i [[102,97,108,115,101]] then aE s.nx ⟨3,0,0,0,[],[],0,-1,(tk L s.i).at'⟩
  else if aL L s.i [[110,117,108,108]] then aE s.nx ⟨4,0,0,0,[],[],0,-1,(tk L s.i).at'⟩
  else if aL L s.i [[102,110]] then A8 (aC L s.nx [40]) λa _=>A8 (r.M .par [41] d a [] []) λc l=>A8 (bC L r d c) λg t=>A8 (r.block d g) λi x=>
   aE i ⟨6,x,0,0,l,[],0,t,(tk L s.i).at'⟩
  else if aL L s.i [[91]] then A8 (r.M .expr [93] d s.nx [] []) λf l=>aE f ⟨11,0,0,0,l,[],0,-1,(tk L s.i).at'⟩
  else if aL L s.i [[123]] then A8 (r.M .obj [125] d s.nx [] []) λf l=>aE f ⟨10,0,0,0,l,[],0,-1,(tk L s.i).at'⟩
  else A8 (aC L s [40]) λs _=>A8 (r.expr d s) λs x=>A8 (aC L s [41]) λs _=>C<|.ok s x;block d s:=A8 (aC L s [123]) λa _=>A8 (r.gj d a []) λc l=>aE c ⟨26,0,0,0,l,[],0,-1,(tk L s.i).at'⟩;gj d s acc:=if aL L s.i [[125]] then C (.ok s.nx acc) else A8 (r.gy d s) λs x=>r.gj d s<|acc++[x];gy d s:=aS L (MC L s.i) d s r.any;any d s:=
  if aL L s.i [[108,101,116]] then
   if (tk L<|s.i+1).x=1 then A8 (bC L r d s.nx.nx) λa t=>A8 (aC L a [61]) λc _=>A8 (r.expr d c) λg x=>A8 (aC L g [59]) λi _=>
    aE i ⟨17,x,0,0,[],(tk L<|s.i+1).text,0,t,(tk L s.i).at'⟩
   else bF L (s.i+1) 1
  else if aL L s.i [[112,114,105,110,116]] then A8 (r.expr d s.nx) λa x=>A8 (aC L a [59]) λc _=>aE c ⟨21,x,0,0,[],[],0,-1,(tk L s.i).at'⟩
  else if aL L s.i [[114,101,116,117,114,110]] then A8 (r.expr d s.nx) λa x=>A8 (aC L a [59]) λc _=>aE c ⟨24,x,0,0,[],[],0,-1,(tk L s.i).at'⟩
  else if aL L s.i [[105,102]] then A8 (aC L s.nx [40]) λa _=>A8 (r.expr d a) λc x=>A8 (aC L c [41]) λg _=>A8 (r.block d g) λi y=>
   A8 (if aL L i.i [[101,108,115,101]] then r.block d i.nx else C<|.ok i<|-1) λk z=>aE k ⟨22,x,y,z,[],[],0,-1,(tk L s.i).at'⟩
  else if aL L s.i [[119,104,105,108,101]] then A8 (aC L s.nx [40]) λa _=>A8 (r.expr d a) λc x=>A8 (aC L c [41]) λg _=>A8 (r.block d g) λi y=>
   aE i ⟨23,x,y,0,[],[],0,-1,(tk L s.i).at'⟩
  else A8 (r.expr d s) λa x=>
   if aL L a.i [[61]] then
    if lX (a.N.getD x.toNat kB).x=0 then bF L a.i 1
    else A8 (r.expr d ⟨a.i+1,a.N.take x.toNat,a.T⟩) λc v=>A8 (aC L c [59]) λg _=>aE g<|kJ (a.N.getD x.toNat kB) v
   else A8 (aC L a [59]) λc _=>aE c ⟨25,x,0,0,[],[],0,-1,iC a x⟩;jd d s acc:=if (tk L s.i).x=6 then C (.ok s acc) else A8 (r.gy d s) λs x=>r.jd d s<|acc++[x]
def bot:Sp:=⟨λ_ _=>none,λ_ _=>none,λ_ _ _=>none,λ_ _=>none,λ_ _ _=>none,λ_ _=>none,λ_ _ _ _ _ _=>none,λ_ _=>none,λ_ _=>none,λ_ _=>none,λ_ _=>none,
 λ_ _ _ _=>none,λ_ _=>none,λ_ _ _=>none,λ_ _=>none,λ_ _=>none,λ_ _ _=>none,λ_ _=>none,λ_ _=>none,λ_ _ _=>none⟩
def gW(L:List Tk):Nat->Sp
 |0=>bot
 |f+1=>step L<|gW L f
def Ev{a}(L:List Tk)(c:Sp->Option (Out a))(o:Out a):Prop:=∃b,∀f,b<=f->c (gW L f)=C o
theorem Ev.one{d}{L}{e}{o c:Out d}(h:Ev L e o)(f:Ev L e c):o=c:=by
 obtain⟨a,g⟩:=h;obtain⟨b,i⟩:=f;have:=(g (a+b) W).symm.trans (i (a+b) W);grind
def Ev.pure{a}{L:List Tk}{o:Out a}:Ev L (λ_=>C o) o:=⟨0,λ_ _=>K⟩
def Ev.eq{b}{L}{c ψ}{o:Out b}(h:Ev L c o)(e:∀r,ψ r=c r):Ev L ψ o:=by
 obtain⟨a,d⟩:=h;exact⟨a,λf g=>(e _).trans<|d f g⟩
theorem Ev.bind{c d}{L}{e}{k:Sp->St->c->Option (Out d)}{s}{x}{o}(h:Ev L e<|.ok s x)(g:Ev L (λr=>k r s x) o):Ev L (λr=>A8 (e r)<|k r) o:=by
 obtain⟨a,i⟩:=h;obtain⟨b,j⟩:=g;refine⟨a+b,λf l=>?_⟩;grind[A8,gW]
def Ev.bad{b d}{L}{c}{k:Sp->St->b->Option (Out d)}{e p}(h:Ev L c<|.fail e p):Ev L (λr=>A8 (c r)<|k r) (.fail e p):=by
 obtain⟨a,g⟩:=h;refine⟨a,λf i=>?_⟩;grind[A8,gW]
theorem Ev.step{b}{L}{φ}{o:Out b}(h:Ev L (λr=>φ<|step L r) o):Ev L φ o:=by
 obtain⟨a,c⟩:=h;refine⟨a+1,λf d=>?_⟩;obtain⟨g,rfl⟩:∃g,f=g+1:=⟨f-1,W⟩;exact c g W
theorem VU:∀(f) (l) (a) (b),Q l-a<f->a<=Q l->(∀t∈b,t.x≠6)->Q b<=1000->(J3 f l a b).2.1=0->
 ∃e,(J3 f l a b).1=e++[⟨6,[],Q l⟩]/\(∀t∈e,t.x≠6)/\Q e<=1000
 |0,l,a,b,k,_,_,_,_=>W
 |f+1,l,a,b,k,n,o,p,d=>by
  simp only[J3]at d⊢;by_cases i:Q l<=a+sp blank (l.drop a)
  .grind
  .rw[wY i]at d⊢;by_cases g:(aY<|l.drop<|a+sp blank (l.drop a)).2.2=0
   .grind
   .rw[wY g]at d⊢;by_cases j:Q b=1000
    .grind
    .rw[wY j]at d⊢;have h:=Vp (l.drop<|a+sp blank (l.drop a)) g;have m:=h.le;rw[List.length_drop]at m;refine VU f l _ _ W W ?_ θ d;intro t c;rw[qW]at c;obtain c|c:=c
     .grind
     .simp at c;subst c;exact h.x
def ĳ(l)(h:(O8 l).2.1=0):∃a,(O8 l).1=a++[⟨6,[],Q l⟩]/\(∀t∈a,t.x≠6)/\Q a<=1000:=by
 unfold O8 at h⊢;split at h
 .grind
 simp_all[wY,VU]
def Qz(l)(h:(O8 l).2.1=0):Q (O8 l).1<=1001/\0<Q (O8 l).1/\∀i,i<Q (O8 l).1->((tk (O8 l).1 i).x=6↔i+1=Q (O8 l).1):=by
 obtain⟨e,a,c,d⟩:=ĳ l h;rw[a];refine⟨θ,ι,λi b=>?_⟩;simp at b⊢;grind[tk,List.getD,List.getElem?_append_left,gQ,mQ,absurd]
inductive Tr where
 |nd (k:Int) (ns:List bZ) (ks:List Tr)
def Tr.k:Tr->Int
 |.nd k _ _=>k
def Tr.ns:Tr->List bZ
 |.nd _ a _=>a
def Tr.ks:Tr->List Tr
 |.nd _ _ a=>a
def Tr.ind{P:Tr->Prop}(h:∀k b a,(∀x∈a,P x)->P (.nd k b a)):∀t,P t
 |.nd k b a=>h k b a λx _=>Tr.ind h x
def Z6(k:Int):bZ:=
 if k=1 then [110,117,109] else if k=2 then [98,111,111,108] else if k=3 then [116,101,120,116] else if k=4 then [110,117,108,108] else if k=6 then [117,110,107,110,111,119,110] else [97,110,121]
mutual
def bU:Tr->bZ
 |.nd k a b=>
  if k=7 then [123]++vK a b++(if Q a=0 then [] else [32])++[125]
  else if k=8 then [91]++UF b++[93]
  else if k=9 then JH b
  else if k=10 then pP τ b
  else Z6 k
def UF:List Tr->bZ
 |[]=>[]
 |t::_=>bU t
def JH:List Tr->bZ
 |[]=>[]
 |t::r=>[40]++qV τ r++[41,32,61,62,32]++bU t
def qV:Bool->List Tr->bZ
 |_,[]=>[]
 |c,t::r=>(if c then [] else [44,32])++bU t++qV κ r
def pP:Bool->List Tr->bZ
 |_,[]=>[]
 |c,t::r=>(if c then [] else [32,124,32])++(if t.k=10\/t.k=9/\Q r≠0 then [40]++bU t++[41] else bU t)++pP κ r
def vK:List bZ->List Tr->bZ
 |_,[]=>[]
 |a,t::r=>[32]++a.headD []++[58,32]++bU t++[59]++vK a.tail r
end
abbrev TT:=Int×bZ
def sg(x:bZ):TT:=(5,x)
mutual
def fV:Tr->List TT
 |.nd k b a=>
  if k=7 then sg [123]::(qU b a++[sg [125]])
  else if k=8 then sg [91]::(Kc a++[sg [93]])
  else if k=9 then Kb a
  else if k=10 then tY τ a
  else [(2,Z6 k)]
def Kc:List Tr->List TT
 |[]=>[]
 |t::_=>fV t
def Kb:List Tr->List TT
 |[]=>[]
 |t::r=>sg [40]::(Z8 τ r++sg [41]::sg [61,62]::fV t)
def Z8:Bool->List Tr->List TT
 |_,[]=>[]
 |c,t::r=>(if c then [] else [sg [44]])++fV t++Z8 κ r
def tY:Bool->List Tr->List TT
 |_,[]=>[]
 |c,t::r=>(if c then [] else [sg [124]])++(if t.k=10\/t.k=9/\Q r≠0 then sg [40]::(fV t++[sg [41]]) else fV t)++tY κ r
def qU:List bZ->List Tr->List TT
 |_,[]=>[]
 |b,t::r=>(1,b.headD [])::sg [58]::(fV t++sg [59]::qU b.tail r)
end
def S6(a:bZ):Prop:=a≠[]/\Q a<=20/\tX a=κ/\(∀c∈a,iA c.toNat=τ)/\(∀c,a.head?=C c->iP c.toNat=τ)
inductive Wf:Tr->Prop
 |plain (k:Int):1<=k->k<=6->Wf (.nd k [] [])
 |obj (ns:List bZ) (ks:List Tr):Q ns=Q ks->ns.Nodup->(∀n∈ns,S6 n)->(∀x∈ks,Wf x)->Wf (.nd 7 ns ks)
 |arr (t:Tr):Wf t->Wf (.nd 8 [] [t])
 |fn (t:Tr) (ps:List Tr):Wf t->(∀x∈ps,Wf x)->Wf (.nd 9 []<|t::ps)
 |uni (ks:List Tr):2<=Q ks->(∀x∈ks,Wf x)->Wf (.nd 10 [] ks)
/-!### Tags -/
def uO(k:Int):Nat:=
 if k=1 then 1 else if k=2 then 2 else if k=3 then 4 else if k=4 then 8 else if k=7 then 16 else if k=8 then 32 else if k=9 then 64 else 127
mutual
def jJ:Tr->Nat
 |.nd k _ a=>if k=10 then lN a else uO k
def lN:List Tr->Nat
 |[]=>0
 |t::r=>jJ t|||lN r
end
/-!### What F7 -/
def I8(a:bZ):List bZ->List Tr->Option Tr
 |n::c,t::b=>if n=a then C t else I8 a c b
 |_,_=>none
def Q9:Nat->Tr->Tr->Bool
 |0,_,_=>κ
 |f+1,a,b=>
  if a.k=5\/b.k=5\/b.k=6 then τ
  else if a.k=10 then a.ks.all λx=>Q9 f x b
  else if b.k=10 then b.ks.any λy=>Q9 f a y
  else if a.k≠b.k then κ
  else if a.k=7 then (b.ns.zip b.ks).all λp=>match I8 p.1 a.ns a.ks with
   |none=>κ
   |C x=>Q9 f x p.2
  else if a.k=8 then match a.ks,b.ks with
   |x::_,y::_=>Q9 f x y
   |_,_=>κ
  else if a.k=9 then match a.ks,b.ks with
   |x::c,y::d=>å (Q c<=Q d)&&((c.zip d).all λp=>Q9 f p.1 p.2||Q9 f p.2 p.1)&&Q9 f x y
   |_,_=>κ
  else τ
mutual
def sz:Tr->Nat
 |.nd _ _ a=>cR a+1
def cR:List Tr->Nat
 |[]=>0
 |t::r=>sz t+cR r
end
def Hf:∀{a} {x},x∈a->sz x<=cR a
 |t::r,x,h=>by
  obtain rfl|h:=jW.1 h
  .simp[cR]
  .have:=Hf h;grind[cR]
theorem T9{t x}(h:x∈t.ks):sz x<sz t:=by
 obtain⟨k,b,a⟩:=t;have:=Hf h;grind[sz,Tr.ks]
def Yg(t):0<sz t:=by obtain⟨k,b,a⟩:=t;simp[sz]
theorem EK{c}:∀{b} {a} {t},I8 c b a=C t->t∈a
 |[],_,_,h=>by grind[I8]
 |_::_,[],_,h=>by grind[I8]
 |n::b,x::a,t,h=>by
  simp only[I8]at h;split at h
  .grind
  .exact List.mem_cons_of_mem _<|EK h
theorem W4:∀(f g) (a b),sz a+sz b<f->sz a+sz b<g->Q9 f a b=Q9 g a b
 |0,_,_,_,h,_=>W
 |_,0,_,_,_,h=>W
 |f+1,g+1,a,b,G,H=>by
  have F:=Yg a;simp only[Q9];have r:a.ks.all (λx=>Q9 f x b)=a.ks.all (λx=>Q9 g x b):=by
   rw[Bool.eq_iff_iff,Ð,Ð];exact forall_congr' λx=>forall_congr' λq=>by have:=T9 q;rw[W4 f g x b W W]
  have s:b.ks.any (λy=>Q9 f a y)=b.ks.any (λy=>Q9 g a y):=by
   rw[Bool.eq_iff_iff,List.any_eq_true,List.any_eq_true];refine exists_congr λy=>?_;constructor
   .rintro⟨e,h⟩;have:=T9 e;exact⟨e,by rw[<-W4 f g a y W W];omega⟩
   .rintro⟨e,h⟩;have:=T9 e;exact⟨e,by rw[W4 f g a y W W];omega⟩
  have t:((b.ns.zip b.ks).all λp=>match I8 p.1 a.ns a.ks with|none=>κ|C x=>Q9 f x p.2)=((b.ns.zip b.ks).all λp=>match I8 p.1 a.ns a.ks with|none=>κ|C x=>Q9 g x p.2):=by
   rw[Bool.eq_iff_iff,Ð,Ð];refine forall_congr' λp=>forall_congr' λk=>?_;have e:=T9 (List.of_mem_zip k).2;cases h:I8 p.1 a.ns a.ks with
   |none=>simp
   |some x=>
    have q:=T9<|EK h;simp only;rw[W4 f g x p.2 W W]
  rw[r,s,t];obtain⟨l,m,i⟩:=a;obtain⟨bk,n,j⟩:=b;simp only[Tr.k,Tr.ns,Tr.ks]at*;have u:∀(c d:List Tr),(∀x∈c,x∈i)->(∀y∈d,y∈j)->((c.zip d).all λp=>Q9 f p.1 p.2||Q9 f p.2 p.1)=((c.zip d).all λp=>Q9 g p.1 p.2||Q9 g p.2 p.1):=by
   intro c d A B;rw[Bool.eq_iff_iff,Ð,Ð];refine forall_congr' λp=>forall_congr' λk=>?_;have o:=List.of_mem_zip k;have v:=T9 (t:=.nd l m i)<|A _ o.1;have w:=T9 (t:=.nd bk n j)<|B _ o.2;rw[W4 f g p.1 p.2 W W,W4 f g p.2 p.1 W W]
  cases i with
  |nil=>rfl
  |cons x c=>
   cases j with
   |nil=>rfl
   |cons y d=>
    have v:=T9 (t:=.nd l m<|x::c) (x:=x) (by simp[Tr.ks]);have w:=T9 (t:=.nd bk n<|y::d) (x:=y) (by simp[Tr.ks]);simp only;rw[W4 f g x y W W,u c d (λz D=>θ) λz D=>θ]
termination_by f=>f
def F7(a b:Tr):Bool:=Q9 (sz a+sz b+1) a b
theorem xF(f)(a b)(h:sz a+sz b<f):Q9 f a b=F7 a b:=W4 _ _ _ _ h W
theorem vE(a b):F7 a b=
 if a.k=5\/b.k=5\/b.k=6 then τ
 else if a.k=10 then a.ks.all λx=>F7 x b
 else if b.k=10 then b.ks.any λy=>F7 a y
 else if a.k≠b.k then κ
 else if a.k=7 then (b.ns.zip b.ks).all λp=>match I8 p.1 a.ns a.ks with
  |none=>κ
  |C x=>F7 x p.2
 else if a.k=8 then match a.ks,b.ks with
  |x::_,y::_=>F7 x y
  |_,_=>κ
 else if a.k=9 then match a.ks,b.ks with
  |x::c,y::d=>å (Q c<=Q d)&&((c.zip d).all λp=>F7 p.1 p.2||F7 p.2 p.1)&&F7 x y
  |_,_=>κ
 else τ:=by
 rw[show F7 a b=Q9 (sz a+sz b+1) a b from K,Q9];have m:a.ks.all (λx=>Q9 (sz a+sz b) x b)=a.ks.all (λx=>F7 x b):=by
  rw[Bool.eq_iff_iff,Ð,Ð];exact forall_congr' λx=>forall_congr' λt=>by grind[T9,xF]
 have n:b.ks.any (λy=>Q9 (sz a+sz b) a y)=b.ks.any (λy=>F7 a y):=by
  rw[Bool.eq_iff_iff,List.any_eq_true,List.any_eq_true];refine exists_congr λy=>?_;constructor
  .grind[T9,xF,sz]
  .grind[T9,xF,sz]
 have o:((b.ns.zip b.ks).all λp=>match I8 p.1 a.ns a.ks with|none=>κ|C x=>Q9 (sz a+sz b) x p.2)=((b.ns.zip b.ks).all λp=>match I8 p.1 a.ns a.ks with|none=>κ|C x=>F7 x p.2):=by
  rw[Bool.eq_iff_iff,Ð,Ð];refine forall_congr' λp=>forall_congr' λk=>?_;have A:=T9 (List.of_mem_zip k).2;cases h:I8 p.1 a.ns a.ks with
  |none=>simp
  |some x=>
   have t:=T9<|EK h;grind[xF]
 rw[m,n,o];obtain⟨g,i,e⟩:=a;obtain⟨bk,j,f⟩:=b;simp only[Tr.k,Tr.ns,Tr.ks]at*;have q:∀(c d:List Tr),(∀x∈c,x∈e)->(∀y∈d,y∈f)->((c.zip d).all λp=>Q9 (sz (.nd g i e)+sz (.nd bk j f)) p.1 p.2||Q9 (sz (.nd g i e)+sz (.nd bk j f)) p.2 p.1)=((c.zip d).all λp=>F7 p.1 p.2||F7 p.2 p.1):=by
  intro c d u v;rw[Bool.eq_iff_iff,Ð,Ð];refine forall_congr' λp=>forall_congr' λk=>?_;have l:=List.of_mem_zip k;have r:=T9 (t:=.nd g i e)<|u _ l.1;have s:=T9 (t:=.nd bk j f)<|v _ l.2;rw[xF _ p.1 p.2 W,xF _ p.2 p.1 W]
 cases e with
 |nil=>rfl
 |cons x c=>
  cases f with
  |nil=>rfl
  |cons y d=>
   have r:=T9 (t:=.nd g i<|x::c) (x:=x) (by simp[Tr.ks]);have s:=T9 (t:=.nd bk j<|y::d) (x:=y) (by simp[Tr.ks]);simp only;rw[xF _ x y W,q c d (λz w=>θ) λz w=>θ]
def fT(l:List TT)(m:bZ):Bool:=match l with
 |[]=>κ
 |(k,x)::_=>(k==5||k==2)&&has [m] x
def LM(l:List TT):Int:=match l with
 |[]=>6
 |(k,_)::_=>k
def EX(l:List TT):bZ:=match l with
 |[]=>[]
 |(_,x)::_=>x
mutual
def zV:Nat->List TT->Option (Tr×List TT)
 |0,_=>none
 |f+1,l=>Lj f l
def Lj:Nat->List TT->Option (Tr×List TT)
 |0,_=>none
 |f+1,l=>(KZ f l).bind λp=>if fT p.2 [124] then (UN f p.2 [p.1]).bind λq=>C (.nd 10 [] q.1,q.2) else C p
def UN:Nat->List TT->List Tr->Option (List Tr×List TT)
 |0,_,_=>none
 |f+1,l,a=>if fT l [124] then (KZ f l.tail).bind λp=>UN f p.2 (a++[p.1]) else C (a,l)
def KZ:Nat->List TT->Option (Tr×List TT)
 |0,_=>none
 |f+1,l=>
  if fT l [123] then UO f l.tail [] []
  else if fT l [91] then (zV f l.tail).bind λp=>if fT p.2 [93] then C (.nd 8 [] [p.1],p.2.tail) else none
  else if fT l [40] then Ll f l.tail
  else if LM l=2/\I1 (EX l)≠0 then C (.nd (I1<|EX l) [] [],l.tail) else none
def UO:Nat->List TT->List bZ->List Tr->Option (Tr×List TT)
 |0,_,_,_=>none
 |f+1,l,c,b=>
  if fT l [125] then C (.nd 7 c b,l.tail)
  else if LM l=1 then if fT l.tail [58] then (zV f l.tail.tail).bind λp=>if fT p.2 [59] then UO f p.2.tail (c++[EX l]) (b++[p.1]) else none else none else none
def Ll:Nat->List TT->Option (Tr×List TT)
 |0,_=>none
 |f+1,l=>(LC f l []).bind λp=>
  if fT p.2 [61,62] then (zV f p.2.tail).bind λq=>C (.nd 9 []<|q.1::p.1,q.2)
  else match p.1 with
   |[t]=>C (t,p.2)
   |_=>none
def LC:Nat->List TT->List Tr->Option (List Tr×List TT)
 |0,_,_=>none
 |f+1,l,a=>
  if fT l [41] then C (a,l.tail)
  else if Q a=0 then (zV f l).bind λp=>LC f p.2<|a++[p.1]
  else if fT l [44] then (zV f l.tail).bind λp=>LC f p.2 (a++[p.1]) else none
end
def vJ{a:Type}(c:Nat->Option a)(o:a):Prop:=∃b,∀f,b<=f->c f=C o
theorem vJ.one{d}{e}{o c:d}(h:vJ e o)(f:vJ e c):o=c:=by
 obtain⟨a,g⟩:=h;obtain⟨b,i⟩:=f;exact xZ ((g (a+b) W).symm.trans<|i (a+b) W)
theorem vJ.bind{c d}{e}{k:Nat->c->Option d}{x}{o}(h:vJ e x)(g:vJ (λf=>k f x) o):vJ (λf=>(e f).bind<|k f) o:=by
 obtain⟨a,i⟩:=h;obtain⟨b,j⟩:=g;refine⟨a+b,λf l=>?_⟩;grind
def Ř(r:List TT):Prop:=fT r [124]=κ/\fT r [61,62]=κ
def RmQ(t:Tr)(a:Bool):Prop:=∀r,fT r [61,62]=κ->(a=κ->fT r [124]=κ)->vJ (λf=>KZ f<|fV t++r) (t,r)
def one(t:Tr)(a:Bool):List TT:=if t.k=10\/t.k=9/\a=κ then sg [40]::(fV t++[sg [41]]) else fV t
def eJ(t:Ty)(i:Nat):Prop:=
 (1<=t.x/\t.x<=6/\t.eo=[]/\t.M=[])\/
 (t.x=7/\t.M=[]/\(t.eo.map (·.1)).Nodup/\∀p∈t.eo,S6 p.1/\0<=p.2/\p.2<i)\/
 (t.x=8/\t.eo=[]/\t.M=[]/\0<=t.fh/\t.fh<i)\/
 (t.x=9/\t.eo=[]/\0<=t.fh/\t.fh<i/\∀x∈t.M,0<=x/\x<i)\/
 (t.x=10/\t.eo=[]/\2<=Q t.M/\∀x∈t.M,0<=x/\x<i)
def aX(T:List Ty):Prop:=∀i (h),eJ T[i] i
def eJ.nh{t}{i}(h:eJ t i):∀p∈t.eo,0<=p.2/\p.2<i:=by
 intro p a;obtain⟨_,_,h,_⟩|⟨_,_,_,h⟩|⟨_,h,_⟩|⟨_,h,_⟩|⟨_,h,_⟩:=h
 .grind
 .grind
 .grind
 .grind
 grind
def eJ.lg{t}{i}(h:eJ t i):∀x∈t.M,0<=x/\x<i:=by
 intro p a;obtain⟨_,_,_,h⟩|⟨_,h,_⟩|⟨_,_,h,_⟩|⟨_,_,_,_,h⟩|⟨_,_,_,h⟩:=h
 .grind
 .grind
 .grind
 .grind
 grind
theorem eJ.of{t}{i}(h:eJ t i)(a:t.x=8\/t.x=9):0<=t.fh/\t.fh<i:=by
 obtain h|h|h|h|h:=h
 .omega
 .omega
 .omega
 .omega
 omega
def ty0:Ty:=⟨0,[],[],0⟩
def lO(T:List Ty):Nat->Nat->Tr
 |0,_=>.nd 0 [] []
 |f+1,i=>.nd (T.getD i ty0).x ((T.getD i ty0).eo.map (·.1))<|(if (T.getD i ty0).x=8\/(T.getD i ty0).x=9 then [lO T f (T.getD i ty0).fh.toNat] else [])++((T.getD i ty0).eo.map λp=>lO T f p.2.toNat)++(T.getD i ty0).M.map λx=>lO T f x.toNat
def tr(T:List Ty)(i:Nat):Tr:=lO T (i+1) i
theorem fX{T:List Ty}{i}(h):T.getD i ty0=T[i]:=θ
theorem JD{t}{i}(c:eJ t i)(g h:Nat->Tr)(e:∀j,j<i->g j=h j):
 (if t.x=8\/t.x=9 then [g t.fh.toNat] else [])++(t.eo.map λp=>g p.2.toNat)++(t.M.map λx=>g x.toNat)=(if t.x=8\/t.x=9 then [h t.fh.toNat] else [])++(t.eo.map λp=>h p.2.toNat)++(t.M.map λx=>h x.toNat):=by
 have d:t.eo.map (λp=>g p.2.toNat)=t.eo.map (λp=>h p.2.toNat):=List.map_congr_left λp b=>e _ (by have:=c.nh p b;omega);have f:t.M.map (λx=>g x.toNat)=t.M.map (λx=>h x.toNat):=List.map_congr_left λp b=>e _ (by have:=c.lg p b;omega);rw[d,f];by_cases a:t.x=8\/t.x=9
 .rw[yY a,yY a,e _<|by have:=c.of a;omega]
 grind
theorem WR{T}(a:aX T):∀(f g i),i<Q T->i<f->i<g->lO T f i=lO T g i
 |0,_,_,_,h,_=>W
 |_,0,_,_,_,h=>W
 |f+1,g+1,i,b,c,d=>by
  simp only[lO,fX b];rw[JD (a i b) (lO T f) (lO T g) λj e=>WR a f g j W W W]
theorem ZQ{T X}(b:aX T):∀(f i),i<Q T->lO (T++X) f i=lO T f i
 |0,_,_=>K
 |f+1,i,a=>by
  have e:(T++X).getD i ty0=T[i]:=by rw[fX θ];exact List.getElem_append_left a
  simp only[lO,fX a,e];rw[JD (b i a) (lO (T++X) f) (lO T f) λj c=>ZQ b f j W]
theorem vA{T}(X){i}(a:aX T)(b:i<Q T):tr (T++X) i=tr T i:=ZQ a _ _ b
theorem X7{T:List Ty}{i}(a:aX T)(b:i<Q T):tr T i=.nd T[i].x (T[i].eo.map (·.1))
 ((if T[i].x=8\/T[i].x=9 then [tr T T[i].fh.toNat] else [])++(T[i].eo.map λp=>tr T p.2.toNat)++T[i].M.map λx=>tr T x.toNat):=by
 rw[tr,lO,fX b];rw[JD (a i b) (lO T i) (tr T) λj c=>WR a _ _ _ W W W]
theorem BR{T}(f:aX T)(i):i<Q T->Wf (tr T i):=by
 induction i using Nat.strongRecOn with
 |ind i j=>
  intro g;have h:=f i g;rw[X7 f g];have k:=h;obtain⟨a,b,c,d⟩|⟨a,b,c,d⟩|⟨a,b,c,d⟩|⟨a,b,c,d,l⟩|⟨a,b,c,d⟩:=k
  .rw[wY W,c,d];exact Wf.plain _ a b
  .rw[wY W,a,b];simp;refine Wf.obj _ _ ι c (λn m=>?_) λx e=>?_
   .grind
   grind
  .rw[yY<|.inl a,a,b,c];exact Wf.arr _ (j _ W W)
  .rw[yY<|.inr a,a,b];refine Wf.fn _ _ (j _ W W) λx e=>?_;obtain⟨p,o,rfl⟩:=kZ.1 e;grind
  .rw[wY W,a,b];simp;refine Wf.uni _ θ λx e=>?_;grind
theorem aX.snoc{T}{t}(a:aX T)(c:eJ t (Q T)):aX (T++[t]):=by
 intro i b;by_cases h:i<Q T
 .rw[List.getElem_append_left h];exact a i h
 grind
theorem wG{T:List Ty}{t}(a:aX T)(b:eJ t (Q T)):tr (T++[t]) (Q T)=.nd t.x (t.eo.map (·.1))
 ((if t.x=8\/t.x=9 then [tr T t.fh.toNat] else [])++(t.eo.map λp=>tr T p.2.toNat)++t.M.map λx=>tr T x.toNat):=by
 rw[X7 (a.snoc b) ι];simp only[List.getElem_concat_length];rw[JD b (tr<|T++[t]) (tr T) λj c=>vA _ a c]
/-!### The reader reads the same -/
def tt(L:List Tk)(i:Nat):List TT:=(L.drop i).map λt=>(t.x,t.text)
theorem UG{L}{i}(h:i<Q L):tt L i=((tk L i).x,(tk L i).text)::tt L (i+1):=by
 grind[tk,List.getD,tt,List.drop_eq_getElem_cons,bY]
theorem QK{L}{i}(h:¬i<Q L):tt L i=[]:=by grind[tt,List.drop_of_length_le]
theorem BS{L}{i}(h:¬i<Q L):tk L i=⟨6,[],0⟩:=by
 simp only[tk,List.getD];grind
def A7e(L)(i):(tt L i).tail=tt L (i+1):=by
 grind[UG,QK]
def Xr(L)(i):LM (tt L i)=(tk L i).x:=by
 by_cases h:i<Q L
 .rw[UG h];rfl
 .rw[QK h,BS h];rfl
def Tf(L)(i):EX (tt L i)=(tk L i).text:=by
 by_cases h:i<Q L
 .rw[UG h];rfl
 .rw[QK h,BS h];rfl
def B9{d e}{x}{k:St->d->Option (Out e)}{s}{b}(h:A8 x k=C (.ok s b)):∃c a,x=C (.ok c a)/\k c a=C (.ok s b):=by
 unfold A8 at h;grind
def J9{L}{s a}{m}{u}(h:aC L s m=C (.ok a u)):aL L s.i [m]=τ/\a=s.nx:=by
 unfold aC at h;grind[bF]
def BU{s a}{t}{x}(h:bQ s t=C (.ok a x)):a=⟨s.i,s.N,s.T++[t]⟩/\x=Q s.T:=by
 grind[bQ,zQ,Out.ok.injEq]
structure Ex(s s':St):Prop where
 ey:s'.N=s.N
 more:∃X,s'.T=s.T++X
 ok:aX s'.T
theorem Ex.trans{a b c}(h:Ex a b)(k:Ex b c):Ex a c:=by
 obtain⟨X,e⟩:=h.more;obtain⟨d,f⟩:=k.more;exact⟨k.ey.trans h.ey,⟨X++d,θ⟩,k.ok⟩
theorem Ex.len{a b}(h:Ex a b):Q a.T<=Q b.T:=by
 obtain⟨X,c⟩:=h.more;grind
def In(s:St)(l:uZ):Prop:=∀x∈l,0<=x/\x<Q s.T
def In.mono{a b}{l}(h:In a l)(e:Ex a b):In b l:=λx c=>by have:=h x c;have:=e.len;omega
def qR(L:List Tk):Prop:=∀i,(tk L i).x=1->S6 (tk L i).text
def A2b(x)(h:I1 x≠0):1<=I1 x/\I1 x<=6:=by
 grind[I1]
section
variable{L:List Tk}{f:Nat}
end
inductive Nt where
 |nd (k:Int) (tx:bZ) (n:Int) (ps:List Nt)
 |ty (t:Option Tr)
def Nt.k:Nt->Int
 |.nd k _ _ _=>k
 |.ty none=>-1
 |.ty (C _)=>0
def jO(k:Int)(a:bZ):Nat:=if k=13 then 4 else if k=12 then (if a=[42] then 3 else if a=[43]\/a=[45] then 2 else 1) else 5
def uK:Nt->Nat
 |.nd k a _ _=>jO k a
 |.ty _=>5
structure Pc where
 b:Nat
 k:Int
 s:bZ
def wi(a:Nat)(c:Pc):bZ:=if a<=c.b then c.s else [40]++c.s++[41]
def QJ(c:Pc):bZ:=if c.k=-1 then [] else [58,32]++c.s
def CN(a:bZ):List Pc->bZ
 |[]=>[]
 |[c]=>c.s
 |c::r=>c.s++a++CN a r
def mg(d:Nat):bZ:=(List.replicate d [32,32]).flatten
def We(d:Nat)(a:List Pc):bZ:=a.flatMap λc=>mg d++c.s++[10]
def zX:Pc:=⟨5,0,[]⟩
def c0(a:List Pc):Pc:=a.getD 0 zX
def c1(a:List Pc):Pc:=a.getD 1 zX
def c2(a:List Pc):Pc:=a.getD 2 zX
def Lm(k:Int)(b:bZ)(n:Int)(a:List Pc):bZ:=
 if k=1 then Lib.itoa n
 else if k=2 then [34]++b++[34]
 else if k=3 then Lib.formatBool<|n==1
 else if k=4 then [110,117,108,108]
 else if k=5 then b
 else if k=6 then [102,110,40]++CN [44,32] a.dropLast.dropLast++[41]++QJ (a.dropLast.getLastD zX)++[32]++(a.getLastD zX).s
 else if k=7 then wi 5 (c0 a)++([40]++CN [44,32] a.tail++[41])
 else if k=8 then wi 5 (c0 a)++([46]++b)
 else if k=9 then wi 5 (c0 a)++[91]++(c1 a).s++[93]
 else if k=10 then (if Q a=0 then [123,125] else [123,32]++CN [44,32] a++[32,125])
 else if k=11 then [91]++CN [44,32] a++[93]
 else if k=12 then wi (if jO k b=1 then 2 else jO k b) (c0 a)++([32]++b++[32])++wi (jO k b+1) (c1 a)
 else if k=13 then b++(if b=[116,121,112,101,111,102] then [32] else [])++wi 4 (c0 a)
 else if k=14 then wi 5 (c0 a)++[32,97,115,32]++(c1 a).s
 else if k=15 then (b++[58,32])++(c0 a).s
 else b++QJ (c0 a)
def UP(d:Nat)(k:Int)(b:bZ)(a:List Pc):bZ:=
 if k=17 then ([108,101,116,32]++b)++QJ (c0 a)++[32,61,32]++(c1 a).s++[59]
 else if k=18 then (b++[32,61,32])++(c0 a).s++[59]
 else if k=19 then wi 5 (c0 a)++([46]++b)++[32,61,32]++(c1 a).s++[59]
 else if k=20 then wi 5 (c0 a)++[91]++(c1 a).s++[93]++[32,61,32]++(c2 a).s++[59]
 else if k=21 then [112,114,105,110,116,32]++(c0 a).s++[59]
 else if k=22 then [105,102,32,40]++(c0 a).s++[41,32]++(c1 a).s++(if (c2 a).k=-1 then [] else [32,101,108,115,101,32]++(c2 a).s)
 else if k=23 then [119,104,105,108,101,32,40]++(c0 a).s++[41,32]++(c1 a).s
 else if k=24 then [114,101,116,117,114,110,32]++(c0 a).s++[59]
 else if k=25 then (c0 a).s++[59]
 else [123,10]++We (d+1) a++mg d++[125]
mutual
def pr(d:Nat):Nt->bZ
 |.ty none=>[]
 |.ty (C t)=>bU t
 |.nd k b n a=>if k=26 then UP d k b (EU (d+1) a) else if k<=16 then Lm k b n (EU d a) else UP d k b<|EU d a
def EU(d:Nat):List Nt->List Pc
 |[]=>[]
 |p::r=>⟨uK p,p.k,pr d p⟩::EU d r
end
def V9(k:Int)(a:uZ)(n:Nd):Prop:=
 if k=6 then n.M=a.dropLast.dropLast/\n.ty=a.dropLast.getLastD 0/\n.a=a.getLastD 0/\2<=Q a
 else if k=7 then n.a=a.headD 0/\n.M=a.tail/\1<=Q a
 else if k=10\/k=11\/k=26 then n.M=a
 else if k=14 then a=[n.a,n.ty]
 else if k=16 then a=[n.ty]
 else if k=17 then a=[n.ty,n.a]
 else if k=9\/k=12\/k=19\/k=23 then a=[n.a,n.b]
 else if k=20\/k=22 then a=[n.a,n.b,n.c]
 else if k=8\/k=13\/k=15\/k=18\/k=21\/k=24\/k=25 then a=[n.a]
 else a=[]
mutual
def At(N:List Nd)(T:List Ty):Nt->Int->Prop
 |.ty none,i=>i=-1
 |.ty<|C t,i=>∃j:Nat,i=j/\j<Q T/\tr T j=t
 |.nd k d n c,i=>∃j:Nat,i=j/\∃h:j<Q N,N[j].x=k/\N[j].text=d/\N[j].n=n/\∃a,V9 k a N[j]/\kO N T c a
def kO(N:List Nd)(T:List Ty):List Nt->uZ->Prop
 |[],a=>a=[]
 |p::r,a=>∃i b,a=i::b/\At N T p i/\kO N T r b
end
def aP(k:Int):Prop:=1<=k/\k<=14
def jM(k:Int):Prop:=k=-1\/k=0
def bO(k:Int)(a:uZ):Prop:=
 if k=1\/k=2\/k=3\/k=4\/k=5 then a=[]
 else if k=6 then∃b r,a=b++[r,26]/\(∀x∈b,x=16)/\jM r
 else if k=7 then∃x c,a=x::c/\aP x/\∀y∈c,aP y
 else if k=8\/k=13\/k=15\/k=18\/k=21\/k=24\/k=25 then∃x,a=[x]/\aP x
 else if k=9\/k=12\/k=19 then∃x y,a=[x,y]/\aP x/\aP y
 else if k=10 then∀x∈a,x=15
 else if k=11 then∀x∈a,aP x
 else if k=14 then∃x,a=[x,0]/\aP x
 else if k=16 then∃x,a=[x]/\jM x
 else if k=17 then∃x y,a=[x,y]/\jM x/\aP y
 else if k=20 then∃x y z,a=[x,y,z]/\aP x/\aP y/\aP z
 else if k=22 then∃x z,a=[x,26,z]/\aP x/\(z=26\/z=-1)
 else if k=23 then∃x,a=[x,26]/\aP x
 else if k=26 then∀x∈a,17<=x/\x<=25
 else False
mutual
def Gd:Nt->Prop
 |.ty _=>True
 |.nd k _ _ a=>bO k (a.map Nt.k)/\rH a
def rH:List Nt->Prop
 |[]=>True
 |p::r=>Gd p/\rH r
end
mutual
def uD:Nt->Nat
 |.ty _=>1
 |.nd _ _ _ a=>E7 a+1
def E7:List Nt->Nat
 |[]=>0
 |p::r=>uD p+E7 r
end
def tN:∀{b} {p},rH b->p∈b->Gd p
 |q::r,p,h,a=>by
  rw[jW]at a;obtain rfl|a:=a
  .exact h.1
  .exact tN h.2 a
def S9:∀{b} {p},p∈b->uD p<=E7 b
 |q::r,p,a=>by
  rw[jW]at a;rw[E7];obtain rfl|a:=a
  .omega
  .have:=S9 a;omega
theorem MQ{N}{T}:∀{b} {a},kO N T b a->Q a=Q b
 |[],a,h=>by grind[kO]
 |p::r,a,h=>by
  rw[kO]at h;obtain⟨i,d,rfl,_,c⟩:=h;rw[jQ,jQ,MQ c]
def k1{b}{x}(h:b.map Nt.k=[x]):∃a,b=[a]/\a.k=x:=ð
theorem k2{c}{x y}(h:c.map Nt.k=[x,y]):∃a b,c=[a,b]/\a.k=x/\b.k=y:=by
 match c,h with
 |[a,b],h=>grind
 |[],h=>grind
 |[_],h=>grind
 |_::_::_::_,h=>grind
def k3{d}{x y z}(h:d.map Nt.k=[x,y,z]):∃a b c,d=[a,b,c]/\a.k=x/\b.k=y/\c.k=z:=by
 match d,h with
 |[a,b,c],h=>grind
 |[],h=>grind
 |[_],h=>grind
 |[_,_],h=>grind
 |_::_::_::_::_,h=>grind
def xV{a}(b:Gd a)(h:jM a.k):∃t,a=.ty t:=by
 cases a with
 |ty t=>simp
 |nd k d n c=>
  exfalso;rw[Gd]at b;obtain h|h:=h<;>(simp only[Nt.k]at h;simp_all[bO])
def Mg{N}{T}{a b}{i j}(h:kO N T [a,b] [i,j]):At N T a i/\At N T b j:=by
 grind[kO]
theorem A8b(t):1<=uD t:=by
 cases t<;>simp[uD]
mutual
def fG:Tr->Nat
 |.nd _ _ a=>S5 a+1
def S5:List Tr->Nat
 |[]=>0
 |t::r=>fG t+S5 r
end
def eW:Nat->List Tr->uZ
 |_,[]=>[]
 |b,t::r=>(((b+fG t:Nat))-1)::eW (b+fG t) r
def kH(k:Int)(b:List bZ)(a:uZ):Ty:=
 if k=7 then ⟨7,b.zip a,[],0⟩ else if k=8 then ⟨8,[],[],a.headD 0⟩ else if k=10 then ⟨10,[],a,0⟩ else ⟨k,[],[],0⟩
mutual
def gN(b:Nat):Tr->List Ty
 |.nd k c a=>if k=9 then oS b a else O9 b a++[kH k c<|eW b a]
def O9(b:Nat):List Tr->List Ty
 |[]=>[]
 |t::r=>gN b t++O9 (b+fG t) r
def oS(b:Nat):List Tr->List Ty
 |[]=>[⟨9,[],[],0⟩]
 |t::r=>O9 b r++gN (b+S5 r) t++[⟨9,[],eW b r,((b+S5 r+fG t:Nat):Int)-1⟩]
end
mutual
def nN:Nt->Nat
 |.ty _=>0
 |.nd _ _ _ a=>aB a+1
def aB:List Nt->Nat
 |[]=>0
 |p::r=>nN p+aB r
end
mutual
def nT:Nt->Nat
 |.ty none=>0
 |.ty (C t)=>fG t
 |.nd _ _ _ a=>cK a
def cK:List Nt->Nat
 |[]=>0
 |p::r=>nT p+cK r
end
def bW(b c:Nat):Nt->Int
 |.ty none=>-1
 |.ty (C t)=>((c+fG t:Nat))-1
 |.nd k d n a=>((b+nN (.nd k d n a):Nat))-1
def bD:Nat->Nat->List Nt->uZ
 |_,_,[]=>[]
 |b,a,p::r=>bW b a p::bD (b+nN p) (a+nT p) r
def bV(k:Int)(b:bZ)(n:Int)(a:uZ):Nd:=
 if k=6 then ⟨6,a.getLastD 0,0,0,a.dropLast.dropLast,b,n,a.dropLast.getLastD 0,0⟩
 else if k=7 then ⟨7,a.headD 0,0,0,a.tail,b,n,-1,0⟩
 else if k=10\/k=11\/k=26 then ⟨k,0,0,0,a,b,n,-1,0⟩
 else if k=14 then ⟨14,a.getD 0 0,0,0,[],b,n,a.getD 1 0,0⟩
 else if k=16 then ⟨16,0,0,0,[],b,n,a.getD 0 0,0⟩
 else if k=17 then ⟨17,a.getD 1 0,0,0,[],b,n,a.getD 0 0,0⟩
 else ⟨k,a.getD 0 0,a.getD 1 0,a.getD 2 0,[],b,n,-1,0⟩
mutual
def iR(b a:Nat):Nt->List Nd
 |.ty _=>[]
 |.nd k d n c=>U2 b a c++[bV k d n<|bD b a c]
def U2(b a:Nat):List Nt->List Nd
 |[]=>[]
 |p::r=>iR b a p++U2 (b+nN p) (a+nT p) r
end
mutual
def gL(a:Nat):Nt->List Ty
 |.ty none=>[]
 |.ty (C t)=>gN a t
 |.nd _ _ _ b=>Y2 a b
def Y2(a:Nat):List Nt->List Ty
 |[]=>[]
 |p::r=>gL a p++Y2 (a+nT p) r
end
mutual
theorem R6(b a:Nat):∀t:Nt,Q (iR b a t)=nN t
 |.ty _=>K
 |.nd k d n c=>by rw[iR,qQ,vM b a c,nN];rfl
theorem vM(b a:Nat):∀c:List Nt,Q (U2 b a c)=aB c
 |[]=>K
 |p::r=>by rw[U2,qQ,R6 b a p,vM _ _ r,aB]
end
mutual
theorem tM(b:Nat):∀t:Tr,Q (gN b t)=fG t
 |.nd k c a=>by
  rw[gN,fG];split
  .exact ć b a
  .rw[qQ,zF b a];rfl
theorem zF(b:Nat):∀l:List Tr,Q (O9 b l)=S5 l
 |[]=>K
 |t::r=>by rw[O9,qQ,tM b t,zF _ r,S5]
theorem ć(b:Nat):∀l:List Tr,Q (oS b l)=S5 l+1
 |[]=>K
 |t::r=>by
  rw[oS,qQ,qQ,zF b r,tM _ t,S5];grind
end
mutual
theorem wM(a:Nat):∀t:Nt,Q (gL a t)=nT t
 |.ty none=>K
 |.ty (C t)=>by rw[gL,tM,nT]
 |.nd k c n b=>by rw[gL,FX a b,nT]
theorem FX(a:Nat):∀b:List Nt,Q (Y2 a b)=cK b
 |[]=>K
 |p::r=>by rw[Y2,qQ,wM a p,FX _ r,cK]
end
theorem yR(t):1<=fG t:=by
 cases t with
 |nd k b a=>grind[fG]
def Nd.fl(n:Nd):Nd:=⟨n.x,n.a,n.b,n.c,n.M,n.text,n.n,n.ty,0⟩
theorem ħ(k)(a)(n):V9 k a n.fl↔V9 k a n:=Iff.rfl
theorem Ī{k}{o}{n}{d e}(hs:bO k d)(p:Q d=Q e):V9 k e (bV k o n e):=by
 have m:k=1\/k=2\/k=3\/k=4\/k=5\/k=6\/k=7\/k=8\/k=9\/k=10\/k=11\/k=12\/k=13\/k=14\/k=15\/k=16\/k=17\/k=18\/k=19\/k=20\/k=21\/k=22\/k=23\/k=24\/k=25\/k=26:=by
  refine Classical.byContradiction λh=>?_;rw[bO,wY W,wY W,wY W,wY W,wY W,wY W,wY W,wY W,wY W,wY W,wY W,wY W,wY W,wY W]at hs;exact hs
 have f:∀{l:uZ},Q l=1->l=[l.getD 0 0]:=λ{l} h=>by match l,h with|[a],_=>rfl
 have g:∀{l:uZ},Q l=2->l=[l.getD 0 0,l.getD 1 0]:=λ{l} h=>by match l,h with|[a,b],_=>rfl
 have j:∀{l:uZ},Q l=3->l=[l.getD 0 0,l.getD 1 0,l.getD 2 0]:=λ{l} h=>by match l,h with|[a,b,c],_=>rfl
 obtain rfl|rfl|rfl|rfl|rfl|rfl|rfl|rfl|rfl|rfl|rfl|rfl|rfl|rfl|rfl|rfl|rfl|rfl|rfl|rfl|rfl|rfl|rfl|rfl|rfl|rfl:=m
 .have h:d=[]:=by simpa[bO]using hs
  show e=[];grind
 .have h:d=[]:=by simpa[bO]using hs
  show e=[];grind
 .have h:d=[]:=by simpa[bO]using hs
  show e=[];grind
 .have h:d=[]:=by simpa[bO]using hs
  show e=[];grind
 .have h:d=[]:=by simpa[bO]using hs
  show e=[];grind
 .obtain⟨a,r,h,_⟩:∃a r,d=a++[r,26]/\(∀x∈a,x=16)/\jM r:=by simpa[bO]using hs
  exact⟨K,K,K,θ⟩
 .obtain⟨x,i,h,_⟩:∃x i,d=x::i/\aP x/\∀y∈i,aP y:=by grind[bO]
  exact⟨K,K,θ⟩
 .obtain⟨x,h,_⟩:∃x,d=[x]/\aP x:=by grind[bO]
  exact f θ
 .obtain⟨x,y,h,_⟩:∃x y,d=[x,y]/\aP x/\aP y:=by grind[bO]
  exact g θ
 .rfl
 .rfl
 .obtain⟨x,y,h,_⟩:∃x y,d=[x,y]/\aP x/\aP y:=by grind[bO]
  exact g θ
 .obtain⟨x,h,_⟩:∃x,d=[x]/\aP x:=by grind[bO]
  exact f θ
 .obtain⟨x,h,_⟩:∃x,d=[x,0]/\aP x:=by grind[bO]
  exact g θ
 .obtain⟨x,h,_⟩:∃x,d=[x]/\aP x:=by grind[bO]
  exact f θ
 .obtain⟨x,h,_⟩:∃x,d=[x]/\jM x:=by grind[bO]
  exact f θ
 .obtain⟨x,y,h,_⟩:∃x y,d=[x,y]/\jM x/\aP y:=by grind[bO]
  exact g θ
 .obtain⟨x,h,_⟩:∃x,d=[x]/\aP x:=by grind[bO]
  exact f θ
 .obtain⟨x,y,h,_⟩:∃x y,d=[x,y]/\aP x/\aP y:=by grind[bO]
  exact g θ
 .obtain⟨x,y,z,h,_⟩:∃x y z,d=[x,y,z]/\aP x/\aP y/\aP z:=by grind[bO]
  exact j θ
 .obtain⟨x,h,_⟩:∃x,d=[x]/\aP x:=by grind[bO]
  exact f θ
 .obtain⟨x,z,h,_⟩:∃x z,d=[x,26,z]/\aP x/\(z=26\/z=-1):=by grind[bO]
  exact j θ
 .obtain⟨x,h,_⟩:∃x,d=[x,26]/\aP x:=by grind[bO]
  exact g θ
 .obtain⟨x,h,_⟩:∃x,d=[x]/\aP x:=by grind[bO]
  exact f θ
 .obtain⟨x,h,_⟩:∃x,d=[x]/\aP x:=by grind[bO]
  exact f θ
 .rfl
theorem Vj(l)(h:(aY l).1=1):S6 (aY l).2.1:=by
 unfold aY at h⊢;cases b:l.head? with
 |none=>grind
 |some c=>
  rw[b]at h;simp only at h⊢;cases g:fP c.toNat
  .rw[g]at h;cases f:iP c.toNat
   .grind[text,rK]
   .rw[f]at h;simp at h⊢;unfold name at h⊢;split at h
    .omega
    .rename_i i;rw[wY i];cases m:tX<|l.take<|sp iA l
     .cases l with
      |nil=>grind
      |cons e r=>
       simp at b;subst b;have k:iA e.toNat=τ:=by simp[iA,f]
       have hs:sp iA (e::r)=sp iA r+1:=by simp[sp,k]
       refine⟨θ,?_,m,λd a=>?_,λd a=>?_⟩
       .grind
       .simp only at a;obtain⟨j,n,rfl⟩:=List.mem_iff_getElem.1 a;grind[List.length_take,IJ,iA]
       grind
     grind
  grind[qD]
theorem WB:∀(f) (l) (a) (b),(∀t∈b,t.x=1->S6 t.text)->∀t∈(J3 f l a b).1,t.x=1->S6 t.text
 |0,l,a,b,_=>by simp[J3]
 |f+1,l,a,b,h=>by
  simp only[J3];split
  .grind
  split
  .simp
  split
  .simp
  refine WB f l _ _ λt d c=>?_;grind[Vj]
def uu(l):qR (O8 l).1:=by
 intro i a;grind[O8,tk,List.getD,mQ,WB,BS]
def lB(d:Nat)(s:St)(r:Sp):Option (Out Int):=A8 (r.jd d s []) λa l=>aE a ⟨26,0,0,0,l,[],0,-1,0⟩
def dZ(l:bZ):(Int×Int) ⊕ (List Nd×List Ty)->Prop
 |.inl (b,p)=>b≠0/\(((O8 l).2.1=b/\((O8 l).2.2)=p)\/((O8 l).2.1=0/\(Ev (O8 l).1 (lB 0 ⟨0,[],[]⟩) (.fail b p)\/∃a x,Ev (O8 l).1 (lB 0 ⟨0,[],[]⟩) (.ok a x)/\(1200<Q a.N\/300<Q a.T)/\b=2/\p=0)))
 |.inr (N,T)=>(O8 l).2.1=0/\∃a x,Ev (O8 l).1 (lB 0 ⟨0,[],[]⟩) (.ok a x)/\Q a.N<=1200/\Q a.T<=300/\a.N=N/\a.T=T
theorem Bt{l}{a}{b}(h:dZ l<|.inl a)(k:dZ l<|.inr b):False:=by
 obtain⟨d,p⟩:=a;obtain⟨N,T⟩:=b;obtain⟨e,h⟩:=h;obtain⟨k1,i,j,k,k3,g,_⟩:=k;obtain⟨c,f⟩|⟨c,h⟩:=h
 .omega
 .obtain h|⟨s,x,h,h3,_⟩:=h
  .cases h.one k
  .have:=h.one k;grind
theorem dZ.one{l}{a b}(h:dZ l a)(k:dZ l b):a=b:=by
 obtain⟨i,p⟩|⟨N,T⟩:=a<;>obtain⟨j,q⟩|⟨f,g⟩:=b
 .obtain⟨m,h⟩:=h;obtain⟨o,k⟩:=k;obtain⟨c,n⟩|⟨c,h⟩:=h<;>obtain⟨k1,k2⟩|⟨k1,k⟩:=k
  .grind
  .omega
  .omega
  .obtain h|⟨s,x,h,h3,rfl,rfl⟩:=h<;>obtain k|⟨d,e,k,k3,rfl,rfl⟩:=k
   .have:=h.one k;grind
   .cases h.one k
   .cases h.one k
   .rfl
 .grind[absurd,Bt]
 .grind[absurd,Bt]
 .obtain⟨_,s,x,h,_,_,rfl,rfl⟩:=h;obtain⟨_,d,e,k,_,_,rfl,rfl⟩:=k;have:=h.one k;grind
theorem Er(L):∀f d s a b l,(gW L f).jd d s a=C (.ok b l)->(tk L b.i).x=6
 |0,_,_,_,_,_,h=>by cases h
 |f+1,d,s,a,b,l,h=>by
  change (if (tk L s.i).x=6 then C (.ok s a) else A8 ((gW L f).gy d s) λs x=>(gW L f).jd d s<|a++[x])=_ at h;split at h
  .grind
  .unfold A8 at h;split at h
   .grind
   .grind
   .exact Er L f _ _ _ _ _ h
def D0e{L}{d}{s a}{x}(h:Ev L (lB d s)<|.ok a x):(tk L a.i).x=6:=by
 obtain⟨f,b⟩:=h;have h:=b f<|vQ _;unfold lB A8 at h;grind[Er,aE,zQ,Out.ok.injEq]
def BI(x:bZ):Prop:=x≠[]/\Q x<=9/\∀c∈x,fP c.toNat=τ
def IV(L:List Tk):Prop:=∀i,(tk L i).x=3->BI (tk L i).text
theorem Vm(l)(h:(aY l).1=3):BI (aY l).2.1:=by
 unfold aY at h⊢;cases b:l.head? with
 |none=>grind
 |some c=>
  rw[b]at h;simp only at h⊢;cases d:fP c.toNat with
  |true=>
   rw[d]at h;simp at h⊢;unfold qD at h⊢;split at h
   .omega
   .rename_i e;rw[wY e];cases l with
    |nil=>grind
    |cons a r=>
     simp at b;subst b;have i:1<=sp fP (a::r):=by have:=yA fP (a::r) 0 ι (wQ _) d;omega
     refine⟨?_,?_,?_⟩
     .grind[List.length_take]
     .grind
     .intro x f;obtain⟨k,g,rfl⟩:=List.getElem_of_mem f;rw[List.getElem_take];grind[IJ]
  |false=>
   grind[name,text,rK]
theorem WD:∀(f) (l) (a) (b),(∀t∈b,t.x=3->BI t.text)->∀t∈(J3 f l a b).1,t.x=3->BI t.text
 |0,l,a,b,_=>by simp[J3]
 |f+1,l,a,b,h=>by
  simp only[J3];split
  .grind
  split
  .simp
  split
  .simp
  refine WD f l _ _ λt d c=>?_;grind[Vm]
def VD(l):IV (O8 l).1:=by
 intro i a;grind[O8,tk,List.getD,mQ,WD,BS]
def Jn:∀(l:bZ) (a),(∀c∈l,fP c.toNat=τ)->∃n,Lib.decFrom a l=C n/\(l.foldl (λn c=>10*n+(c.toNat:Int)-48) a)=n
 |[],a,_=>⟨a,K,K⟩
 |c::r,a,h=>by
  have b:=h c ι;have f:48<=c.toNat/\c.toNat<=57:=by
   unfold fP at b;simpa using b
  obtain⟨n,d,e⟩:=Jn r (a*10+(c.toNat-48)) (λx g=>h x θ);grind[Lib.decFrom,Lib.digitVal]
theorem Zq(x)(h:BI x):Lib.atoi x=C (qA x):=by
 obtain⟨e,_,d⟩:=h;cases x with
 |nil=>grind
 |cons c r=>
  obtain⟨n,f,g⟩:=Jn (c::r) 0 d;have a:=d c ι;unfold fP at a;have b:48<=c.toNat/\c.toNat<=57:=by simpa using a
  have i:(c==45)=κ:=by
   rw[beq_eq_false_iff_ne];rintro rfl;simp at b
  have j:(c==43)=κ:=by
   rw[beq_eq_false_iff_ne];rintro rfl;simp at b
  grind[qA,Lib.atoi,Lib.decNat]
/-!### Behind others -/
def kK(b:Int)(t:Ty):Ty:=⟨t.x,t.eo.map λp=>(p.1,p.2+b),t.M.map λx=>x+b,t.fh+b⟩
def eJ.mv{t}{i}(h:eJ t i)(b:Nat):eJ (kK b t) (b+i):=by
 obtain⟨a,c,d,e⟩|⟨a,c,d,e⟩|⟨a,c,d,e,j⟩|⟨a,c,d,e,j⟩|⟨a,c,d,e⟩:=h
 .exact .inl ⟨a,c,by grind[kK],by grind[kK]⟩
 .refine .inr<|.inl ⟨a,by grind[kK],?_,λp k=>?_⟩
  .grind[kK]
  .obtain⟨q,g,rfl⟩:=kZ.1 k;grind
 .exact .inr (.inr<|.inl ⟨a,by grind[kK],by grind[kK],by show 0<=t.fh+b;omega,by show t.fh+(b:Int)<((b+i:Nat):Int);omega⟩)
 .refine .inr (.inr<|.inr<|.inl ⟨a,by grind[kK],by show 0<=t.fh+b;omega,by show t.fh+(b:Int)<((b+i:Nat):Int);omega,λx f=>?_⟩);obtain⟨q,g,rfl⟩:=kZ.1 f;grind
 .refine .inr (.inr<|.inr<|.inr ⟨a,by grind[kK],by grind[kK],λx f=>?_⟩);obtain⟨q,g,rfl⟩:=kZ.1 f;grind
def nU(T X:List Ty):List Ty:=T++X.map (kK (Q T))
def EW(a b:bZ):Bool:=å<|û a b<0
theorem Cf:∀a:bZ,û a a=0
 |[]=>K
 |a::b=>by
  unfold û;rw[wY<|UInt8.lt_irrefl a,wY<|UInt8.lt_irrefl a];exact Cf b
theorem XC:∀a b:bZ,û a b=0->a=b
 |[],[],_=>K
 |[],_::_,h=>by grind[û]
 |_::_,[],h=>by grind[û]
 |a::c,b::d,h=>by
  unfold û at h;split at h
  .omega
  split at h
  .omega
  rename_i e f;have:=UInt8.le_antisymm (UInt8.not_lt.1 f)<|UInt8.not_lt.1 e;rw[this,XC c d h]
theorem xE:∀a b:bZ,û b a=-û a b
 |[],[]=>K
 |[],_::_=>K
 |_::_,[]=>K
 |a::c,b::d=>by
  unfold û;by_cases e:a<b
  .grind
  .by_cases f:b<a
   .grind
   .simp only[e,f,if_false];exact xE c d
theorem JC:∀a b c:bZ,û a b<=0->û b c<=0->û a c<=0/\(û a b<0\/û b c<0->û a c<0)
 |[],[],c,_,h=>by
  grind[û]
 |[],_::_,[],_,h=>by grind[û]
 |[],_::_,_::_,_,_=>by simp[û]
 |_::_,[],_,h,_=>by grind[û]
 |_::_,_::_,[],_,h=>by grind[û]
 |a::d,b::e,c::f,g,i=>by
  have j:=JC d e f;grind[û]
theorem ġ(n c)(x y)(a b):F7 (.nd 9 n<|x::a) (.nd 9 c<|y::b)=(å (Q a<=Q b)&&((a.zip b).all λp=>F7 p.1 p.2||F7 p.2 p.1)&&F7 x y):=by rw[vE];rfl
def mR{c:Type}(a b:bZ×c):Bool:=!EW b.1 a.1
def nA{a}(l:List<|bZ×a):List (bZ×a):=l.mergeSort mR
def A1d{d}(a b c:bZ×d)(e:mR a b=τ)(f:mR b c=τ):mR a c=τ:=by
 grind[mR,EW,Bool.not_eq_true',decide_eq_false_iff_not,Int.not_lt,xE,JC]
def A2d{c}(a b:bZ×c):(mR a b||mR b a)=τ:=by
 simp only[mR,EW,Bool.or_eq_true,Bool.not_eq_true',decide_eq_false_iff_not,Int.not_lt];grind[xE]
theorem Y3{a}(l:List<|bZ×a):(nA l).Perm l:=List.mergeSort_perm l mR
def QZ{c}(l:List<|bZ×c):(nA l).Pairwise (λa b=>mR a b=τ):=List.pairwise_mergeSort A1d A2d l
theorem QH{n}:∀(l c:List<|bZ×n),l.Perm c->(l.map (·.1)).Nodup->l.Pairwise (λa b=>mR a b=τ)->c.Pairwise (λa b=>mR a b=τ)->l=c
 |[],c,d,_,_,_=>(List.nil_perm.1 d).symm
 |x::l,[],d,_,_,_=>ð
 |x::l,y::c,d,p,f,g=>by
  have j:x∈y::c:=d.subset ι;have m:y∈x::l:=d.symm.subset ι;have k:x=y:=by
   obtain h|h:=jW.1 j
   .omega
   .obtain e|e:=jW.1 m
    .grind
    .have a1:=(List.pairwise_cons.1 f).1 y e;have i:=(List.pairwise_cons.1 g).1 x h;simp only[mR,EW,Bool.not_eq_true',decide_eq_false_iff_not,Int.not_lt]at a1 i;have o:=xE x.1 y.1;grind[XC]
  subst k;rw[QH l c (List.perm_cons x|>.1 d) θ (List.pairwise_cons.1 f).2 (List.pairwise_cons.1 g).2]
mutual
def iO:Tr->Tr
 |.nd k b a=>if k=7 then .nd 7 ((nA<|b.zip<|uQ a).map (·.1)) ((nA<|b.zip<|uQ a).map (·.2)) else .nd k b<|uQ a
def uQ:List Tr->List Tr
 |[]=>[]
 |t::r=>iO t::uQ r
end
theorem CK:∀a,uQ a=a.map iO
 |[]=>K
 |t::r=>by rw[uQ,CK r];rfl
def key(t:Tr):bZ:=bU<|iO t
theorem D5f(t):(iO t).k=t.k:=by
 obtain⟨k,b,a⟩:=t;rw[iO];split
 .rename_i h;rw[h];rfl
 .rfl
theorem yC{k}{b}{a}(h:k≠7):iO (.nd k b a)=.nd k b (a.map iO):=by rw[iO,wY h,CK]
theorem Yn(t)(h:Wf t):Wf (iO t):=by
 induction h with
 |plain k g f=>
  rw[yC W];exact Wf.plain k g f
 |obj d c i r q _ b=>
  rw[iO,yY K,CK];have j:=Y3<|d.zip<|c.map iO;have o:(d.zip<|c.map iO).map (·.1)=d:=by
   rw[List.map_fst_zip];simp[i]
  refine Wf.obj _ _ ι ?_ (λn s=>?_) λx a=>?_
  .grind
  .grind
  .have:=(j.map (·.2)).subset a;obtain⟨p,l,rfl⟩:=kZ.1 this;obtain⟨y,u,e⟩:=kZ.1 (List.of_mem_zip l).2;grind
 |arr t _ b=>
  rw[yC ε];exact Wf.arr _ b
 |fn t w _ _ m v=>
  rw[yC ε];refine Wf.fn _ _ m λx a=>?_;grind
 |uni c f _ b=>
  rw[yC ε];refine Wf.uni _ θ λx a=>?_;grind
/-!### Unions -/
mutual
def flat:Tr->List Tr
 |.nd k b a=>if k=10 then J8 a else [.nd k b a]
def J8:List Tr->List Tr
 |[]=>[]
 |t::r=>flat t++J8 r
end
def dd:List Tr->List Tr->List Tr
 |a,[]=>a
 |a,t::r=>if a.any (λu=>key u==key t) then dd a r else dd (a++[t]) r
def mE(l:List Tr):Tr:=
 if (J8 l).any (λt=>t.k==5) then .nd 5 [] []
 else match dd [] (J8 l) with
  |[]=>.nd 5 [] []
  |[t]=>t
  |t::u::r=>.nd 10 []<|t::u::r
theorem QQ:∀(l a) (x),x∈a->x∈dd a l
 |[],a,x,h=>h
 |t::r,a,x,h=>by
  rw[dd];split
  .exact QQ r a x h
  .exact QQ r _ x θ
def FY:∀(l a) (x),x∈l->∃u∈dd a l,key u=key x
 |t::r,a,x,h=>by
  rw[dd];obtain rfl|h:=jW.1 h
  .grind[QQ]
  .split
   .exact FY r a x h
   .exact FY r _ x h
def GA:∀(l a) (x),x∈dd a l->x∈a\/x∈l
 |[],a,x,h=>.inl h
 |t::r,a,x,h=>by
  rw[dd]at h;split at h
  .obtain h|h:=GA r a x h<;>grind
  .obtain h|h:=GA r _ x h<;>grind
theorem MD:∀{l} {x},x∈J8 l->∃t∈l,x∈flat t
 |t::r,x,h=>by
  rw[J8,qW]at h;obtain h|h:=h
  .grind
  .obtain⟨u,a,b⟩:=MD h;grind
theorem ĥ(t)(h:Wf t):∀x∈flat t,Wf x/\x.k≠10:=by
 induction h with
 |plain k g i=>
  intro x e;rw[flat,wY W]at e;simp at e;subst e;exact⟨Wf.plain k g i,by grind[Tr.k]⟩
 |obj j f a b c d _=>
  intro x e;rw[flat,wY ε]at e;simp at e;subst e;exact⟨Wf.obj j f a b c d,by simp[Tr.k]⟩
 |arr t a _=>
  intro x e;rw[flat,wY ε]at e;simp at e;subst e;exact⟨Wf.arr t a,by simp[Tr.k]⟩
 |fn t l a b _ _=>
  intro x e;rw[flat,wY ε]at e;simp at e;subst e;exact⟨Wf.fn t l a b,by simp[Tr.k]⟩
 |uni f _ _ m=>
  intro x e;rw[flat,yY K]at e;grind[MD]
def Iq:Wf (.nd 5 [] []):=Wf.plain 5 ε ε
def Ŧ(l)(h:∀t∈l,Wf t):Wf (mE l):=by
 have b:∀x∈dd [] (J8 l),Wf x:=by
  intro x a;obtain a|a:=GA _ _ x a
  .grind
  .grind[MD,ĥ]
 unfold mE;split
 .exact Iq
 .split
  .exact Iq
  .grind
  .rename_i t u r e;exact Wf.uni _ ι (λx a=>b x θ)
/-!### Tags -/
mutual
theorem KK:∀t:Tr,jJ t<128
 |.nd k b a=>by
  rw[jJ];split
  .exact TU a
  grind[uO]
theorem TU:∀l:List Tr,lN l<128
 |[]=>by simp[lN]
 |t::r=>by
  rw[lN];exact Nat.or_lt_two_pow (n:=7) (KK t)<|TU r
end
theorem WS:∀a:List<|bZ×Tr,vK (a.map (·.1)) (a.map (·.2))=a.flatMap λp=>[32]++p.1++[58,32]++bU p.2++[59]
 |[]=>K
 |p::r=>by
  rw[bY,bY,vK,List.headD_cons,List.tail_cons,WS r,List.flatMap_cons]
theorem Ĩ{a b}(g:a->b)(l:List<|bZ×a)(c:(l.map (·.1)).Nodup):nA (l.map λp=>(p.1,g p.2))=(nA l).map λp=>(p.1,g p.2):=by
 refine(QH _ _ (((Y3 l).map _).trans (Y3 _).symm) ?_ ?_<|QZ _).symm
 .grind[Y3]
 .rw[List.pairwise_map];exact QZ l
theorem B3e(a:List<|bZ×Int)(f:Int->Tr)(b:(a.map (·.1)).Nodup):iO (.nd 7 (a.map (·.1))<|a.map λp=>f p.2)=.nd 7 ((nA a).map (·.1)) ((nA a).map λp=>iO<|f p.2):=by
 have e:(a.map (·.1)).zip (uQ<|a.map λp=>f p.2)=a.map λp=>(p.1,(λz=>iO<|f z) p.2):=by
  rw[CK,List.map_map];induction a with
  |nil=>rfl
  |cons p r c=>
   grind
 rw[iO,yY K,e,Ĩ (λz=>iO<|f z) a b,List.map_map,List.map_map];rfl
theorem ZR(a:List<|bZ×Int)(f:Int->Tr):bU (.nd 7 (a.map (·.1))<|a.map λp=>f p.2)=[123]++(a.flatMap λp=>[32]++p.1++[58,32]++bU (f p.2)++[59])++(if Q a=0 then [] else [32])++[125]:=by
 have e:=WS<|a.map λp=>(p.1,f p.2);rw[List.map_map,List.map_map]at e;have b:vK (a.map (·.1)) (a.map λp=>f p.2)=a.flatMap λp=>[32]++p.1++[58,32]++bU (f p.2)++[59]:=by
  refine Eq.trans e ?_;rw[List.flatMap_map]
 grind[bU]
theorem JG{a}(l:List<|bZ×a):Q (nA l)=Q l:=(Y3 l).length_eq
def ϊ(L:List Tk)(t:Ty):Prop:=Q t.eo<=Q L/\Q t.M<=Q L/\(t.x=8\/t.x=9\/t.fh=0)
def Qs(L:List Tk)(s:St):Prop:=s.i<=Q L/\∀t∈s.T,ϊ L t
structure QF(L:List Tk)(f:Nat):Prop where
 typ:∀d s s' x,Qs L s->(gW L f).typ d s=C (.ok s' x)->Qs L s'/\s.i<s'.i
 union:∀d s s' x,Qs L s->(gW L f).union d s=C (.ok s' x)->Qs L s'/\s.i<s'.i
 gp:∀d s acc s' l,Qs L s->Q acc<=s.i->(gW L f).gp d s acc=C (.ok s' l)->Qs L s'/\s.i<=s'.i/\Q l<=s'.i
 gd:∀d s s' x,Qs L s->(gW L f).gd d s=C (.ok s' x)->Qs L s'/\s.i<s'.i
 jl:∀d s fs s' x,Qs L s->Q fs<=s.i->(gW L f).jl d s fs=C (.ok s' x)->Qs L s'/\s.i<s'.i
 kv:∀d s s' x,Qs L s->(gW L f).kv d s=C (.ok s' x)->Qs L s'/\s.i<s'.i
 M:∀d s nm acc s' l,Qs L s->Q acc<=s.i->(gW L f).M .typ [41] d s nm acc=C (.ok s' l)->Qs L s'/\s.i<s'.i/\Q l<=s'.i
def lP(a:List bZ):Nat:=(a.map λn=>Q n+8).sum
mutual
def wg:Tr->Nat
 |.nd _ b a=>16+lP b+dW a
def dW:List Tr->Nat
 |[]=>0
 |t::r=>wg t+5+dW r
end
theorem TM:∀l,dW l=(l.map λt=>wg t+5).sum
 |[]=>K
 |t::r=>by rw[dW,TM r,bY,List.sum_cons]
theorem Aa(l a):dW (l++a)=dW l+dW a:=by grind[TM,zY]
theorem A1e(t):dW [t]=wg t+5:=Θ
def QL:∀{l} {x},x∈l->wg x+5<=dW l
 |t::r,x,h=>by
  rw[dW];obtain rfl|h:=jW.1 h
  .omega
  .have:=QL h;omega
theorem WL{l a:List Nat}(h:l.Perm a):l.sum=a.sum:=θ
theorem ż{l a}(h:l.Perm a):dW l=dW a:=by grind[TM,WL]
theorem vo{l a}(h:l.Perm a):lP l=lP a:=WL<|h.map _
theorem Kg:∀(r) (b),(∀x∈r,Q (bU x)<=wg x)->Q (qV b r)<=dW r
 |[],_,_=>by simp[qV]
 |t::r,b,h=>by
  have a:=h t ι;have c:=Kg r κ (λx d=>h x θ);rw[qV,dW];grind
theorem Kk:∀(r) (b),(∀x∈r,Q (bU x)<=wg x)->Q (pP b r)<=dW r
 |[],_,_=>by simp[pP]
 |t::r,b,h=>by
  have a:=h t ι;have c:=Kk r κ (λx d=>h x θ);rw[pP,dW];grind
def Kh:∀(r) (a),(∀x∈r,Q (bU x)<=wg x)->Q (vK a r)<=lP a+dW r
 |[],_,_=>by simp[vK]
 |t::r,a,h=>by
  have b:=h t ι;have c:=Kh r a.tail (λx d=>h x θ);rw[vK,dW];simp;cases a<;>grind[List.headD_nil,List.tail_nil,xQ,lP,List.headD_cons,List.tail_cons]
theorem Yh(k):Q (Z6 k)<=7:=by
 unfold Z6;split
 .simp
 split
 .simp
 split
 .simp
 split
 .simp
 split<;>simp
theorem Ye(t):Q (bU t)<=wg t:=by
 induction t using Tr.ind with
 |h k c a b=>
  rw[bU,wg];split
  .have d:=Kh a c b;grind
  split
  .cases a<;>grind[UF,qQ,jQ,xQ,dW]
  split
  .cases a<;>grind[JH,Kg,qQ,jQ,xQ,dW]
  grind[Kk,Yh]
theorem XI:∀(a:List bZ) (l:List Tr),lP ((a.zip l).map (·.1))<=lP a
 |[],_=>ι
 |_::_,[]=>by simp[lP]
 |n::a,t::l=>by
  have:=XI a l;unfold lP at*;simp_all
theorem XJ:∀(a:List bZ) (l:List Tr),dW ((a.zip l).map (·.2))<=dW l
 |[],_=>by simp[dW]
 |_::_,[]=>ι
 |n::a,t::l=>by
  have:=XJ a l;grind[List.zip_cons_cons,bY,dW]
def Ai:∀(l),(∀x∈l,wg (iO x)<=wg x)->dW (l.map iO)<=dW l
 |[],_=>ι
 |t::r,h=>by
  have a:=h t ι;have b:=Ai r (λx c=>h x θ);grind[bY,dW]
theorem Yo(t):wg (iO t)<=wg t:=by
 induction t using Tr.ind with
 |h k e c b=>
  have d:=Ai c b;by_cases a:k=7
  .subst a;rw[iO,yY K,wg,wg];grind[Y3,uQ,vo,ż,XI,XJ,CK]
  grind[yC,wg]
theorem GQ:∀(l),(∀x∈l,dW (flat x)<=wg x+5)->dW (J8 l)<=dW l
 |[],_=>by grind[J8,dW]
 |t::r,h=>by
  have a:=h t ι;have b:=GQ r (λx c=>h x θ);grind[J8,Aa,dW]
def Am(t):dW (flat t)<=wg t+5:=by
 induction t using Tr.ind with
 |h k c b a=>
  grind[flat,GQ,wg,A1e]
def QN(l:List TT):Prop:=∀p∈l,p.1=1->Q p.2<=20
def QN.tail{l}(h:QN l):QN l.tail:=λp a=>h p<|List.mem_of_mem_tail a
theorem Yl(t)(h:Wf t):bU t≠[]:=by
 induction h with
 |plain k i f=>
  grind[bU,Z6]
 |obj l e a b c d _=>grind[bU]
 |arr t a _=>grind[bU]
 |fn t m a b _ _=>rw[bU,wY ε,wY ε,yY K,JH];simp
 |uni e f h g=>
  rw[bU,wY ε,wY ε,wY ε,yY K];cases e with
  |nil=>grind
  |cons t r=>
   have j:=List.length_pos_iff.2 (g t ι);grind[bU,pP,Q]
def Up{c}(n:Nat)(x:Option<|Out c):Prop:=∀b a,x=C (.ok b a)->n<=Q b.N
def Ix(n:Nat)(x:Option<|Out Int):Prop:=∀b a,x=C (.ok b a)->n<=Q b.N/\n<=a
def Rx(n:Nat)(h:Int)(x:Option<|Out Int):Prop:=∀b a,x=C (.ok b a)->n<=Q b.N/\(a=h\/n<=a)
theorem Up.none{a}{n}:Up n (none:Option<|Out a):=by intro _ _ h;grind
theorem Ix.none{n}:Ix n none:=by intro _ _ h;grind
theorem Rx.none{n}{x}:Rx n x none:=by intro _ _ h;grind
theorem Up.jx{a}{n}{L}{i}{e}:Up n (bF L i e:Option<|Out a):=by intro _ _ h;grind[bF]
theorem Ix.jx{n}{L}{i}{e}:Ix n (bF L i e):=by intro _ _ h;grind[bF]
theorem Rx.jx{n}{x}{L}{i}{e}:Rx n x (bF L i e):=by intro _ _ h;grind[bF]
theorem Up.ok{b}{n}{s}{a:b}(h:n<=Q s.N):Up n (C<|.ok s a):=by
 intro _ _ e;grind
theorem Rx.ok{n}{s}{a}(h:n<=Q s.N):Rx n a (C<|.ok s a):=by
 intro _ _ e;grind
theorem Ix.ok{n}{s:St}{a}(h:n<=Q s.N)(b:(n:Int)<=a):Ix n (C<|.ok s a):=by
 intro _ _ e;grind
def Ix.up{n}{x}(h:Ix n x):Up n x:=λ_ _ e=>(h _ _ e).1
def Up.low{b}{n m}{x:Option (Out b)}(h:Up m x)(a:n<=m):Up n x:=λ_ _ e=>kQ a<|h _ _ e
def Ix.low{n m}{x}(h:Ix m x)(a:n<=m):Ix n x:=λ_ _ e=>⟨kQ a (h _ _ e).1,by have:=(h _ _ e).2;omega⟩
theorem Up.bind{c j}{n}{x}{k:St->c->Option (Out j)}(h:Up n x)(g:∀s a,n<=Q s.N->Up n (k s a)):Up n (A8 x k):=by
 intro l b e;obtain⟨i,a,d,f⟩:=B9 e;exact g i a (h _ _ d) _ _ f
theorem Ix.bind{c}{n}{x}{k:St->c->Option (Out Int)}(h:Up n x)(g:∀s a,n<=Q s.N->Ix n (k s a)):Ix n (A8 x k):=by
 intro j b e;obtain⟨i,a,d,f⟩:=B9 e;exact g i a (h _ _ d) _ _ f
def Ix.j9{n}{x}{k}(h:Ix n x)(f:∀s a,n<=Q s.N->(n:Int)<=a->Ix n (k s a)):Ix n (A8 x k):=by
 intro i b e;obtain⟨g,a,c,d⟩:=B9 e;exact f g a (h _ _ c).1 (h _ _ c).2 _ _ d
def Up.j9{n}{x}{k:St->Int->Option (Out Int)}(h:Ix n x)(f:∀s a,n<=Q s.N->(n:Int)<=a->Up n (k s a)):Up n (A8 x k):=by
 intro i b e;obtain⟨g,a,c,d⟩:=B9 e;exact f g a (h _ _ c).1 (h _ _ c).2 _ _ d
def Rx.mo{n}{h}{x}(b:Rx n h x)(f:n<=h):Ix n x:=by
 intro g a e;obtain⟨c,d⟩:=b _ _ e;omega
def Ix.qn{n}{h}{x}(a:Ix n x):Rx n h x:=λ_ _ e=>⟨(a _ _ e).1,.inr (a _ _ e).2⟩
theorem Ix.add{n}{s}{t}(h:n<=Q s.N):Ix n (aE s t):=by
 intro b a e;grind[aE]
def Up.km{n}{s}{t}(h:n<=Q s.N):Up n (bQ s t):=by
 intro b a e;grind[bQ]
theorem Up.ft{n}{L}{s}{m}(h:n<=Q s.N):Up n (aC L s m):=by
 unfold aC;split
 .exact Up.ok h
 grind[Up.jx]
def Up.newName{n}{L}{s}{a}(h:n<=Q s.N):Up n (aO L s a):=by
 unfold aO;split
 .split
  .exact Up.jx
  .exact Up.ok h
 grind[Up.jx]
def Up.inside{n}{L}{b}{d}{s}{p}(h:∀d,Up n<|p d s):Up n (aS L b d s p):=by
 grind[aS,Up.jx]
def Ix.inside{n}{L}{b}{d}{s}{p}(h:∀d,Ix n<|p d s):Ix n (aS L b d s p):=by
 grind[aS,Ix.jx]
def Ix.two{n}{L}{s}{l}{p}(h:Up n<|p s.nx):Ix n (iN L s l p):=by
 grind[iN,Ix.bind,Ix.add]
structure sU(r:Sp):Prop where
 typ:∀d s,Up (Q s.N)<|r.typ d s
 union:∀d s,Up (Q s.N)<|r.union d s
 gp:∀d s l,Up (Q s.N)<|r.gp d s l
 gd:∀d s,Up (Q s.N)<|r.gd d s
 jl:∀d s l,Up (Q s.N)<|r.jl d s l
 kv:∀d s,Up (Q s.N)<|r.kv d s
 M:∀p e d s a b,Up (Q s.N)<|r.M p e d s a b
 expr:∀d s,Ix (Q s.N)<|r.expr d s
 comp:∀d s,Ix (Q s.N)<|r.comp d s
 sum:∀d s,Ix (Q s.N)<|r.sum d s
 prod:∀d s,Ix (Q s.N)<|r.prod d s
 row:∀b d s x,Rx (Q s.N) x<|r.row b d s x
 oper:∀d s,Ix (Q s.N)<|r.oper d s
 tail:∀d s x,Rx (Q s.N) x<|r.tail d s x
 simple:∀d s,Ix (Q s.N)<|r.simple d s
 block:∀d s,Up (Q s.N)<|r.block d s
 gj:∀d s a,Up (Q s.N)<|r.gj d s a
 gy:∀d s,Up (Q s.N)<|r.gy d s
 any:∀d s,Up (Q s.N)<|r.any d s
 jd:∀d s a,Up (Q s.N)<|r.jd d s a
def Rx.low{n m}{h}{x}(b:Rx m h x)(f:n<=m):Rx n h x:=λg a e=>by
 obtain⟨c,d⟩:=b _ _ e;omega
def sU.j4{r}(i:sU r){n}{L}{d}{s}(h:n<=Q s.N):Up n (bC L r d s):=by
 unfold bC;split
 .exact(i.typ d s.nx).low h
 grind[Up.ok]
theorem sU.part{r}(i:sU r){n}{L}{d}{s}{j}{p}(h:n<=Q s.N):Up n (part L r d s j p):=by
 cases p with
 |typ=>exact Up.bind ((i.typ d s).low h) λs a hs=>Up.ok hs
 |expr=>exact Up.bind ((i.expr d s).up.low h) λs a hs=>Up.ok hs
 |obj=>exact Up.bind (Up.newName h) λk _ b=>Up.bind (Up.ft b) λf _ c=>Up.bind ((i.expr d f).up.low c) λm _ g=>Up.bind (Ix.add g).up λl _ e=>Up.ok e
 |par=>exact Up.bind (Up.newName h) λk _ b=>Up.bind (i.j4 b) λf _ c=>Up.bind (Ix.add c).up λl _ e=>Up.ok e
def sU.more{r}(i:sU r){n}{c}{d}{s}{t}(h:n<=Q s.N):Rx n c (A8 (aE s t) λs x=>r.tail d s x):=by
 refine Ix.qn<|Ix.j9 (Ix.add h) λs a hs b=>?_;exact((i.tail d s a).low hs).mo b
theorem Rx.bind{d}{n}{c}{x}{k:St->d->Option (Out Int)}(h:Up n x)(i:∀s a,n<=Q s.N->Rx n c (k s a)):Rx n c (A8 x k):=by
 intro l b e;obtain⟨j,a,f,g⟩:=B9 e;exact i j a (h _ _ f) _ _ g
def um(L)(r)(i:sU r):sU (step L r) where
 typ d s:=Up.inside λd=>i.union d s;union d s:=Up.bind (i.gd d s) λf a c=>by
  split
  .exact Up.bind ((i.gp d f _).low c) λh l g=>Up.km g
  grind[Up.ok]
 gp d s acc:=by
  show Up _<|if _ then _ else _;split
  .exact Up.bind (i.gd d s.nx) λf a c=>(i.gp d f _).low c
  .grind[Up.ok]
 gd d s:=by
  show Up _<|if _ then _ else _;split
  .exact i.jl d s.nx []
  split
  .exact Up.bind (i.typ d s.nx) λf a c=>Up.bind (Up.ft c) λh _ g=>Up.km g
  split
  .exact i.kv d s.nx
  split
  .exact Up.km<|vQ _
  grind[Up.jx]
 jl d s fs:=by
  show Up _<|if _ then _ else _;split
  .exact Up.km<|vQ _
  .exact Up.bind (Up.newName<|vQ _) λf _ c=>Up.bind (Up.ft c) λh _ g=>Up.bind ((i.typ d h).low g) λm _ j=>Up.bind (Up.ft j) λo _ k=>(i.jl d o _).low k
 kv d s:=Up.bind (i.M _ _ d s _ _) λf l c=>by
  split
  .exact Up.bind ((i.typ d f.nx).low c) λh _ g=>Up.km g
  grind[Up.ok,Up.jx]
 M p e d s ns acc:=by
  show Up _<|if _ then _ else _;split
  .exact Up.ok<|vQ _
  .refine Up.bind ?_ λf _ c=>Up.bind (i.part c) λh x g=>(i.M p e d h _ _).low g;split<;>simp_all[Up.ok,vQ,Up.ft]
 expr d s:=Ix.inside λd=>i.comp d s;comp d s:=Ix.j9 (i.sum d s) λf a c n=>by
  split
  .exact Ix.two<|(i.sum d f.nx).up.low c
  grind[Ix.ok]
 sum d s:=Ix.j9 (i.prod d s) λf a c n=>((i.row τ d f a).low c).mo n;prod d s:=Ix.j9 (i.oper d s) λf a c n=>((i.row κ d f a).low c).mo n;row b d s x:=by
  show Rx _ _<|if _ then _ else _;split
  .refine Ix.qn<|Ix.j9 (Ix.two ?_) λf a c n=>((i.row b d f a).low c).mo n;cases b
   .exact(i.oper d s.nx).up
   .exact(i.prod d s.nx).up
  .grind[Rx.ok]
 oper d s:=by
  show Ix _<|if _ then _ else _;split
  .exact Ix.bind (Up.inside λd=>(i.oper d s.nx).up) λf _ c=>Ix.add c
  .exact Ix.j9 (i.simple d s) λf a c n=>((i.tail d f a).low c).mo n
 tail d s x:=by
  show Rx _ _<|if _ then _ else _;split
  .exact Rx.bind (i.M _ _ d s.nx _ _) λf l c=>i.more c
  split
  .split
   .exact i.more<|vQ (Q s.N)
   grind[Rx.jx]
  split
  .exact Rx.bind (i.expr d s.nx).up λf _ c=>Rx.bind (Up.ft c) λh _ g=>i.more g
  split
  .exact Rx.bind (i.typ d s.nx) λf _ c=>i.more c
  .grind[Rx.ok]
 simple d s:=by
  show Ix _<|if _ then _ else _;iterate 6
   split
   .exact Ix.add<|vQ (Q s.N)
  split
  .exact Ix.bind (Up.ft<|vQ (Q s.N)) λf _ c=>Ix.bind ((i.M _ _ d f _ _).low c) λh _ g=>Ix.bind (i.j4 g) λm _ j=>Ix.bind ((i.block d m).low j) λo _ k=>Ix.add k
  split
  .exact Ix.bind (i.M _ _ d s.nx _ _) λf _ c=>Ix.add c
  split
  .exact Ix.bind (i.M _ _ d s.nx _ _) λf _ c=>Ix.add c
  .exact Ix.bind (Up.ft<|vQ (Q s.N)) λf _ c=>Ix.j9 ((i.expr d f).low c) λh x g q=>Ix.bind (Up.ft g) λm _ j=>Ix.ok j q
 block d s:=Up.bind (Up.ft<|vQ _) λf _ c=>Up.bind ((i.gj d f _).low c) λh _ g=>(Ix.add g).up;gj d s acc:=by
  show Up _<|if _ then _ else _;split
  .exact Up.ok<|vQ _
  .exact Up.bind (i.gy d s) λf _ c=>(i.gj d f _).low c
 gy d s:=Up.inside λd=>i.any d s;any d s:=by
  show Up _<|if _ then _ else _;split
  .split
   .exact Up.bind (i.j4<|vQ (Q s.N)) λf _ c=>Up.bind (Up.ft c) λh _ g=>Up.bind ((i.expr d h).up.low g) λm _ j=>Up.bind (Up.ft j) λo _ k=>(Ix.add k).up
   grind[Up.jx]
  split
  .exact Up.bind (i.expr d s.nx).up λf _ c=>Up.bind (Up.ft c) λh _ g=>(Ix.add g).up
  split
  .exact Up.bind (i.expr d s.nx).up λf _ c=>Up.bind (Up.ft c) λh _ g=>(Ix.add g).up
  split
  .refine Up.bind (Up.ft<|vQ (Q s.N)) λf _ c=>Up.bind ((i.expr d f).up.low c) λh _ g=>Up.bind (Up.ft g) λm _ j=>Up.bind ((i.block d m).low j) λo _ k=>Up.bind ?_ λv _ t=>(Ix.add t).up;split
   .exact(i.block d o.nx).low k
   grind[Up.ok]
  split
  .exact Up.bind (Up.ft<|vQ (Q s.N)) λf _ c=>Up.bind ((i.expr d f).up.low c) λh _ g=>Up.bind (Up.ft g) λm _ j=>Up.bind ((i.block d m).low j) λo _ k=>(Ix.add k).up
  .refine Up.j9 (i.expr d s) λf x c q=>?_;split
   .split
    .exact Up.jx
    .have u:Q s.N<=Q (f.N.take x.toNat):=by rw[List.length_take];omega
     exact Up.bind ((i.expr d ⟨f.i+1,f.N.take x.toNat,f.T⟩).up.low u) λh _ g=>Up.bind (Up.ft g) λm _ j=>(Ix.add j).up
   .exact Up.bind (Up.ft c) λh _ g=>(Ix.add g).up
 jd d s acc:=by
  show Up _<|if _ then _ else _;split
  .grind[Up.ok]
  .exact Up.bind (i.gy d s) λf _ c=>(i.jd d f _).low c
def YM(L):∀f,sU<|gW L f
 |0=>⟨λ_ _=>Up.none,λ_ _=>Up.none,λ_ _ _=>Up.none,λ_ _=>Up.none,λ_ _ _=>Up.none,λ_ _=>Up.none,λ_ _ _ _ _ _=>Up.none,λ_ _=>Ix.none,λ_ _=>Ix.none,λ_ _=>Ix.none,λ_ _=>Ix.none,λ_ _ _ _=>Rx.none,λ_ _=>Ix.none,λ_ _ _=>Rx.none,λ_ _=>Ix.none,λ_ _=>Up.none,λ_ _ _=>Up.none,λ_ _=>Up.none,λ_ _=>Up.none,λ_ _ _=>Up.none⟩
 |f+1=>um L _<|YM L f
def Uw{L}(d)(s b)(x)(h:Ev L (λr=>r.expr d s)<|.ok b x):Q s.N<=x:=by
 obtain⟨f,a⟩:=h;exact((YM L f).expr d s _ _<|a f<|vQ _).2
