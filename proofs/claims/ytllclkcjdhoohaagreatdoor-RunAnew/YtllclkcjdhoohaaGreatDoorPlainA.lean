/-
  A part of the proof.
-/
import Derived.Lib.ItoaNum
import Derived.Lib.Small
import Derived.Lib.Atoi
import Derived.Lib.Bytealg
set_option maxHeartbeats 0
set_option linter.all false
set_option maxRecDepth 100000
namespace Go.Proofs.YtllclkcjdhoohaaGreatDoor
theorem K{p:Sort _}{a:p}:a=a:=rfl
theorem W{p:Prop}(h:p:=by omega):p:=h
theorem ζ{p:Prop}(h:p:=by decide):p:=h
theorem η{p:Prop}(h:p:=by grind):p:=h
theorem θ{p:Prop}(h:p:=by simp):p:=h
theorem â{p:Prop}(h:p:=by simp;omega):p:=h
def Ω{p:Prop}(h:p:=by rfl):p:=h
theorem ù{p:Prop}(h:p:=by simp_all):p:=h
def À{p:Prop}(h:p:=by assumption):p:=h
open Bool renaming false->κ,true->τ
open Decidable renaming decide->ê
open Lib renaming compareBytes->É
open List renaming length->Q,append_assoc->ľ
open Nat renaming add_zero->Ð,add_assoc->þ
open Option renaming some->C
abbrev bZ:=List UInt8
abbrev uZ:=List Int
theorem lZ{a b:Type}{l:List a}(f:a→b):Q (l.map f)=Q l:=List.length_map f
theorem iZ{c:Type}{a b}{l:List c}:(b::l).set 0 a=a::l:=rfl
theorem zZ{c:Type}{a b}{l:List c}{n}:(b::l).set (n+1) a=b::l.set n a:=rfl
theorem wZ{b:Type}{l:List b}{i}{a}:l.toArray.setIfInBounds i a=(l.set i a).toArray:=List.setIfInBounds_toArray ..
theorem yZ:(κ=τ)=False:=Bool.false_eq_true
theorem rZ{b:Type}{a:b}:¬a∈[]:=List.not_mem_nil
theorem qZ{d:Type}(a b c:List d):a++b++c=a++(b++c):=ľ a b c
theorem kZ{c d:Type}{b}{f:c→d}{l:List c}:b∈l.map f↔∃a,a∈l∧f a=b:=List.mem_map
theorem jZ{d:Type}{a}{b c:List d}:a::b++c=a::(b++c):=rfl
theorem vZ{a:Type}{l:List a}:l.take (Q l)=l:=List.take_length
def xZ{c:Type}{a b:c}(h:C a=C b):a=b:=Option.some.inj h
theorem bY{b c:Type}{f:b→c}{a}{l}:(a::l).map f=f a::l.map f:=rfl
theorem uY{a:Type}(l:List a):[]++l=l:=rfl
theorem iY{a:Type}(l:List a):l++[]=l:=List.append_nil l
theorem zY{c d:Type}{f:c→d}{a b:List c}:(a++b).map f=a.map f++b.map f:=List.map_append
theorem wY{c}{h:Decidable c}(n:¬c){a}{t e:a}:ite c t e=e:=if_neg n
theorem yY{c}{h:Decidable c}(n:c){a}{t e:a}:ite c t e=t:=if_pos n
theorem zQ{c:Type}{a b:c}:(C a=C b)=(a=b):=Option.some.injEq a b
theorem qQ{c:Type}{a b:List c}:Q (a++b)=Q a+Q b:=List.length_append
theorem jQ{b:Type}{a}{l:List b}:Q (a::l)=Q l+1:=K
theorem xQ{a:Type}:Q ([]:List a)=0:=K
theorem kQ{a b c:Nat}(h:a<=b)(k:b<=c):a<=c:=Nat.le_trans h k
theorem vQ(a:Nat):a<=a:=Nat.le_refl a
def wQ(a):0<=a:=Nat.zero_le a
theorem yQ{a b c:Nat}(h:a<b)(k:b<=c):a<c:=Nat.lt_of_lt_of_le h k
theorem lQ{b:Type}{l:List b}{i}{a}:l.getD i a=l[i]?.getD a:=List.getD_eq_getElem?_getD ..
theorem gQ{a:Type}{l:List a}{i}(h:i<Q l):l[i]?=C l[i]:=List.getElem?_eq_getElem h
theorem mQ{a:Type}{l:List a}{i}(h:i<Q l):l[i]∈l:=List.getElem_mem h
theorem nQ{a:Type}{l:List a}{i}(h):l.take (i+1)=l.take i++[l[i]]:=List.take_succ_eq_append_getElem h
theorem tQ(n:Nat):((n:Int)).toNat=n:=Int.toNat_natCast n
theorem zW{c:Type}{a b:c}:a∈[b]↔a=b:=List.mem_singleton
theorem qW{b:Type}{a}{l k:List b}:a∈l++k↔a∈l \/a∈k:=List.mem_append
theorem jW{c:Type}{a b}{l:List c}:a∈b::l↔a=b \/a∈l:=List.mem_cons
def fP(n:Nat):Bool:=ê (48<=n)&&ê (n<=57)
def iP(n:Nat):Bool:=(ê (97<=n)&&ê (n<=122))||(ê (65<=n)&&ê (n<=90))||ê (n=95)
def blank(n:Nat):Bool:=ê (n=32)||ê (n=10)
def iA(n:Nat):Bool:=iP n||fP n
def iF(n:Nat):Bool:=ê (32<=n)&&ê (n<=126)&&ê (n≠34)
def sp(p:Nat->Bool):bZ->Nat
 |[]=>0
 |c::r=>if p c.toNat then sp p r+1 else 0
theorem oX(p)(l):sp p l<=Q l:=by
 induction l with
 |nil=>simp[sp]
 |cons c r a=>grind[sp]
def yA(p):∀(l) (k) (h),k<=sp p l->p l[k].toNat=τ->k+1<=sp p l
 |[],_,h,_,_=>η
 |c::r,0,_,_,d=>by grind[sp]
 |c::r,k+1,h,a,d=>by
  simp only[sp]at a⊢;split at a
  .rename_i b;rw[yY b];have:=yA p r k η W η;omega
  omega
theorem BM(p):∀(l) (k) (h),k<=sp p l->p l[k].toNat=κ->sp p l=k
 |[],_,h,_,_=>η
 |c::r,0,_,_,d=>by grind[sp]
 |c::r,k+1,h,a,d=>by
  simp only[sp]at a⊢;split at a
  .rename_i b;rw[yY b];have:=BM p r k η W η;omega
  omega
def Aq:List bZ:=[[108,101,116],[102,110],[105,102],[101,108,115,101],[119,104,105,108,101],[114,101,116,117,114,110],[112,114,105,110,116],[116,114,117,101],[102,97,108,115,101],[110,117,108,108],[97,115],[116,121,112,101,111,102],[110,117,109],[98,111,111,108],[116,101,120,116],[97,110,121],[117,110,107,110,111,119,110]]
def has(a:List bZ)(l:bZ):Bool:=a.contains l
def tX(l:bZ):Bool:=has Aq l
def oJ:List bZ:=[[61,61],[61,62],[40],[41],[123],[125],[91],[93],[44],[59],[58],[46],[61],[60],[43],[45],[42],[33],[124]]
def K8(l:bZ)(a:List bZ):Nat:=a.foldl (λm g=>if g.isPrefixOf l then max m (Q g) else m) 0
def Xn(l)(a:List bZ)(k)(h):has (a.take<|k+1) l=(has (a.take k) l||l==a[k]):=by
 rw[nQ h];grind[has]
theorem Ju{l}{a}(h:l∈a):has a l=τ:=by grind[has]
structure Tk where
 x:Int
 text:bZ
 at':Nat
def qD(l:bZ):Int×bZ×Nat:=
 if 9<sp fP l\/l.head?=C 48/\1<sp fP l then (0,[],0) else (3,l.take<|sp fP l,sp fP l)
def name(l:bZ):Int×bZ×Nat:=
 if 20<sp iA l then (0,[],0) else (if tX (l.take<|sp iA l) then 2 else 1,l.take<|sp iA l,sp iA l)
def text(l:bZ):Int×bZ×Nat:=
 if 30<sp iF l.tail\/(l.tail.drop<|sp iF l.tail).head?≠C 34 then (0,[],0) else (4,l.tail.take<|sp iF l.tail,sp iF l.tail+2)
def rK(l:bZ):Int×bZ×Nat:=
 if K8 l oJ=0 then (0,[],0) else (5,l.take<|K8 l oJ,K8 l oJ)
def aY(l:bZ):Int×bZ×Nat:=
 match l.head? with
 |none=>(0,[],0)
 |C c=>if fP c.toNat then qD l else if iP c.toNat then name l else if c.toNat=34 then text l else rK l
def J3:Nat->bZ->Nat->List Tk->List Tk×Int×Nat
 |0,_,_,_=>([],0,0)
 |f+1,l,a,b=>
  if Q l<=a+sp blank (l.drop a) then (b++[⟨6,[],Q l⟩],0,0)
  else if (aY<|l.drop<|a+sp blank (l.drop a)).2.2=0 then ([],1,a+sp blank (l.drop a))
  else if Q b=1000 then ([],2,a+sp blank (l.drop a))
  else J3 f l (a+sp blank (l.drop a)+(aY<|l.drop<|a+sp blank (l.drop a)).2.2)<|b++[⟨(aY<|l.drop<|a+sp blank (l.drop a)).1,(aY<|l.drop<|a+sp blank (l.drop a)).2.1,a+sp blank (l.drop a)⟩]
def O8(l:bZ):List Tk×Int×Nat:=if 4000<Q l then ([],2,0) else J3 (Q l+1) l 0 []
def gO(l:bZ):∀(b:List bZ) (m),m<=Q l->b.foldl (λm g=>if g.isPrefixOf l then max m (Q g) else m) m<=Q l
 |[],m,a=>a
 |g::r,m,a=>by
  simp only[List.foldl_cons];refine gO l r _ ?_;grind
def Jt(l):(aY l).2.2<=Q l:=by
 unfold aY;cases h:l.head? with
 |none=>simp
 |some c=>
  simp only;split
  .grind[qD,oX]
  split
  .grind[name,oX]
  split
  .unfold text;grind[List.drop_of_length_le]
  .unfold rK;split
   .simp
   .exact gO l oJ 0 W
theorem YT(f)(l)(a)(b)(c:sp blank (l.drop a)=0):J3 (f+1) l a b=
 if Q l<=a then (b++[⟨6,[],Q l⟩],0,0)
 else if (aY<|l.drop a).2.2=0 then ([],1,a)
 else if Q b=1000 then ([],2,a)
 else J3 f l (a+(aY<|l.drop a).2.2) (b++[⟨(aY<|l.drop a).1,(aY<|l.drop a).2.1,a⟩]):=by
 simp_all[J3,Ð]
theorem KJ(p):∀(l:bZ),sp p (l.drop<|sp p l)=0
 |[]=>Ω
 |c::r=>by
  simp only[sp];split
  .rw[List.drop_succ_cons];exact KJ p r
  grind[sp]
theorem R9(f)(l)(a)(b):J3 (f+1) l a b=J3 (f+1) l (a+sp blank (l.drop a)) b:=by
 grind[KJ,blank,List.drop_drop,YT,sp,J3]
def plain(k:Int):Bool:=k==1||k==2||k==3
theorem TA(p):∀(l) (h:sp p l<Q l),p l[sp p l].toNat=κ
 |[],h=>η
 |c::r,h=>by
  cases b:p c.toNat
  .grind[sp]
  .have a:sp p (c::r)=sp p r+1:=by simp[sp,b]
   simp only[a,List.getElem_cons_succ];rw[a]at h;exact TA p r η
theorem IJ(p):∀(l) (k) (h),k<sp p l->p l[k].toNat=τ
 |[],k,h,_=>η
 |c::r,0,_,a=>by
  grind[sp]
 |c::r,k+1,h,a=>by
  cases b:p c.toNat
  .grind[sp]
  .simp only[sp,b,if_true]at a;simpa using IJ p r k η W
structure vz(l:bZ)(r:Int×bZ×Nat):Prop where
 le:r.2.2<=Q l
 size:r.2.2=Q r.2.1+if r.1=4 then 2 else 0
 x:r.1≠6
 name:r.1=1\/r.1=2->(∀h:0<Q l,iP l[0].toNat=τ)/\(∀h:r.2.2<Q l,iA l[r.2.2].toNat=κ)
 num:r.1=3->(∀h:0<Q l,fP l[0].toNat=τ)/\(∀h:r.2.2<Q l,fP l[r.2.2].toNat=κ)
def Vp(l)(b:(aY l).2.2≠0):vz l (aY l):=by
 have a:=Jt l;unfold aY at b a⊢;cases e:l.head? with
 |none=>grind
 |some c=>
  rw[e]at b a;simp only at b a⊢;have k:∀h:0<Q l,l[0]=c:=by
   intro h;rw[List.head?_eq_getElem?,gQ h]at e;exact xZ e
  cases i:fP c.toNat
  .rw[i]at b a;cases j:iP c.toNat
   .rw[j]at b a;by_cases g:c.toNat=34
    .rw[yY g]at b a⊢;simp at b a⊢;unfold text at b a⊢;split at b
     .grind
     .rename_i d;rw[wY d]at a⊢;have f:=a;refine⟨a,?_,θ,θ,θ⟩;grind
    .rw[wY g]at b a⊢;simp at b a⊢;unfold rK at b a⊢;split at b
     .grind
     .rename_i d;rw[wY d]at a⊢;have f:=a;refine⟨a,?_,θ,θ,θ⟩;grind
   .rw[j]at b a;simp at b a⊢;unfold name at b a⊢;split at b
    .grind
    .rename_i d;rw[wY d]at a⊢;have f:=a;refine⟨a,?_,?_,?_,?_⟩
     .grind
     .omega
     .grind[TA,iA]
     omega
  .rw[i]at b a;simp at b a⊢;unfold qD at b a⊢;split at b
   .grind
   .rename_i d;rw[wY d]at a⊢;refine⟨a,?_,θ,θ,?_⟩
    .grind
    grind[TA,fP]
structure Ty where
 x:Int
 eo:List<|bZ×Int
 M:uZ
 fh:Int
structure Nd where
 x:Int
 a:Int
 b:Int
 c:Int
 M:uZ
 text:bZ
 n:Int
 ty:Int
 at':Int
structure St where
 i:Nat
 N:List Nd
 T:List Ty
inductive Out(α:Type) where
 |ok (s:St) (x:α)
 |fail (e:Int) (p:Int)
def tk(L:List Tk)(i:Nat):Tk:=L.getD i ⟨6,[],0⟩
def aL(L:List Tk)(i:Nat)(a:List bZ):Bool:=((tk L i).x==5||(tk L i).x==2)&&has a (tk L i).text
def bF{a}(L:List Tk)(i:Nat)(e:Int):Option (Out a):=C<|.fail e<|(tk L i).at'
def St.nx(s:St):St:=⟨s.i+1,s.N,s.T⟩
def aC(L:List Tk)(s:St)(m:bZ):Option (Out Unit):=if aL L s.i [m] then C (.ok s.nx ()) else bF L s.i 1
def bQ(s:St)(t:Ty):Option (Out Int):=C<|.ok ⟨s.i,s.N,s.T++[t]⟩ (Q s.T)
def aE(s:St)(n:Nd):Option (Out Int):=C<|.ok ⟨s.i,s.N++[n],s.T⟩ (Q s.N)
def kB:Nd:=⟨0,0,0,0,[],[],0,-1,0⟩
def iC(s:St)(n:Int):Int:=(s.N.getD n.toNat kB).at'
def A8{b c}(x:Option<|Out b)(k:St->b->Option (Out c)):Option (Out c):=
 match x with
 |none=>none
 |C (.fail e p)=>C<|.fail e p
 |C (.ok s a)=>k s a
def EM:List bZ:=[[110,117,109],[98,111,111,108],[116,101,120,116],[110,117,108,108],[97,110,121],[117,110,107,110,111,119,110],[123],[91],[40]]
def M6:List bZ:=[[116,114,117,101],[102,97,108,115,101],[110,117,108,108],[102,110],[40],[91],[123],[33],[45],[116,121,112,101,111,102]]
def KE:List bZ:=[[108,101,116],[112,114,105,110,116],[114,101,116,117,114,110],[105,102],[119,104,105,108,101]]
def lY(L:List Tk)(i:Nat):Bool:=(tk L i).x==1||(tk L i).x==3||(tk L i).x==4||aL L i M6
def MC(L:List Tk)(i:Nat):Bool:=aL L i KE||lY L i
def I1(t:bZ):Int:=
 if t=[110,117,109] then 1 else if t=[98,111,111,108] then 2 else if t=[116,101,120,116] then 3 else if t=[110,117,108,108] then 4 else if t=[97,110,121] then 5 else if t=[117,110,107,110,111,119,110] then 6 else 0
inductive oT where
 |typ|expr|obj|par
structure Sp where
 typ:Nat->St->Option (Out Int)
 union:Nat->St->Option (Out Int)
 gp:Nat->St->uZ->Option (Out uZ)
 gd:Nat->St->Option (Out Int)
 jl:Nat->St->List (bZ×Int)->Option (Out Int)
 kv:Nat->St->Option (Out Int)
 M:oT->bZ->Nat->St->List bZ->uZ->Option (Out uZ)
 expr:Nat->St->Option (Out Int)
 comp:Nat->St->Option (Out Int)
 sum:Nat->St->Option (Out Int)
 prod:Nat->St->Option (Out Int)
 row:Bool->Nat->St->Int->Option (Out Int)
 oper:Nat->St->Option (Out Int)
 tail:Nat->St->Int->Option (Out Int)
 simple:Nat->St->Option (Out Int)
 block:Nat->St->Option (Out Int)
 gj:Nat->St->uZ->Option (Out uZ)
 gy:Nat->St->Option (Out Int)
 any:Nat->St->Option (Out Int)
 jd:Nat->St->uZ->Option (Out uZ)
def aS(L:List Tk)(a:Bool)(d:Nat)(s:St)(part:Nat->St->Option (Out Int)):Option (Out Int):=
 if a then if 20<=d then bF L s.i 8 else part (d+1) s else bF L s.i 1
def J4:Bool->List bZ
 |τ=>[[43],[45]]
 |κ=>[[42]]
def iN(L:List Tk)(s:St)(left:Int)(part:St->Option (Out Int)):Option (Out Int):=
 A8 (part s.nx) λa x=>aE a ⟨12,left,x,0,[],(tk L s.i).text,0,-1,iC a left⟩
def bC(L:List Tk)(r:Sp)(d:Nat)(s:St):Option (Out Int):=if aL L s.i [[58]] then r.typ d s.nx else C<|.ok s<|-1
def aO(L:List Tk)(s:St)(a:List bZ):Option (Out bZ):=
 if (tk L s.i).x=1 then if has a (tk L s.i).text then bF L s.i 6 else C (.ok s.nx (tk L s.i).text) else bF L s.i 1
def part(L:List Tk)(r:Sp)(d:Nat)(s:St)(a:List bZ):oT->Option (Out<|Int×List bZ)
 |.typ=>A8 (r.typ d s) λs x=>C<|.ok s (x,a)
 |.expr=>A8 (r.expr d s) λs x=>C<|.ok s (x,a)
 |.obj=>A8 (aO L s a) λc b=>A8 (aC L c [58]) λe _=>A8 (r.expr d e) λf x=>
  A8 (aE f ⟨15,x,0,0,[],b,0,-1,(tk L s.i).at'⟩) λg y=>C<|.ok g (y,a++[b])
 |.par=>A8 (aO L s a) λc b=>A8 (bC L r d c) λe t=>
  A8 (aE e ⟨16,0,0,0,[],b,0,t,(tk L s.i).at'⟩) λf y=>C<|.ok f (y,a++[b])
def lX(k:Int):Int:=if k=5 then 18 else if k=8 then 19 else if k=9 then 20 else 0
def kJ(n:Nd)(v:Int):Nd:=
 if n.x=5 then ⟨18,v,n.b,n.c,n.M,n.text,n.n,-1,n.at'⟩
 else if n.x=8 then ⟨19,n.a,v,n.c,n.M,n.text,n.n,-1,n.at'⟩
 else ⟨20,n.a,n.b,v,n.M,n.text,n.n,-1,n.at'⟩
def qA(l:bZ):Int:=l.foldl (λn c=>10*n+c.toNat-48) 0
def step(L:List Tk)(r:Sp):Sp where
 typ d s:=aS L (aL L s.i EM) d s r.union;union d s:=A8 (r.gd d s) λs x=>if aL L s.i [[124]] then A8 (r.gp d s [x]) λs l=>bQ s ⟨10,[],l,0⟩ else C<|.ok s x;gp d s acc:=if aL L s.i [[124]] then A8 (r.gd d s.nx) λs x=>r.gp d s (acc++[x]) else C<|.ok s acc;gd d s:=
  if aL L s.i [[123]] then r.jl d s.nx []
  else if aL L s.i [[91]] then A8 (r.typ d s.nx) λs x=>A8 (aC L s [93]) λs _=>bQ s ⟨8,[],[],x⟩
  else if aL L s.i [[40]] then r.kv d s.nx
  else if (tk L s.i).x=2/\I1 (tk L s.i).text≠0 then bQ s.nx ⟨I1 (tk L s.i).text,[],[],0⟩ else bF L s.i 1;jl d s fields:=
  if aL L s.i [[125]] then bQ s.nx ⟨7,fields,[],0⟩
  else A8 (aO L s (fields.map (·.1))) λs j=>A8 (aC L s [58]) λs _=>A8 (r.typ d s) λs x=>A8 (aC L s [59]) λs _=>r.jl d s<|fields++[(j,x)];kv d s:=A8 (r.M .typ [41] d s [] []) λs l=>
  if aL L s.i [[61,62]] then A8 (r.typ d s.nx) λs x=>bQ s ⟨9,[],l,x⟩
  else match l with
   |[x]=>C<|.ok s x
   |_=>bF L s.i 1;M p e d s names acc:=
  if aL L s.i [e] then C<|.ok s.nx acc
  else A8 (if Q acc=0 then C (.ok s ()) else aC L s [44]) λs _=>A8 (part L r d s names p) λs x=>r.M p e d s x.2<|acc++[x.1];expr d s:=aS L (lY L s.i) d s r.comp;comp d s:=A8 (r.sum d s) λs x=>if aL L s.i [[61,61],[60]] then iN L s x (r.sum d) else C<|.ok s x;sum d s:=A8 (r.prod d s) λs x=>r.row τ d s x;prod d s:=A8 (r.oper d s) λs x=>r.row κ d s x;row b d s x:=if aL L s.i (J4 b) then A8 (iN L s x<|if b then r.prod d else r.oper d) λs y=>r.row b d s y else C<|.ok s x;oper d s:=
  if aL L s.i [[33],[45],[116,121,112,101,111,102]] then A8 (aS L (lY L<|s.i+1) d s.nx r.oper) λf x=>aE f ⟨13,x,0,0,[],(tk L s.i).text,0,-1,(tk L s.i).at'⟩
  else A8 (r.simple d s) λs x=>r.tail d s x;tail d s h:=
  if aL L s.i [[40]] then A8 (r.M .expr [41] d s.nx [] []) λf l=>A8 (aE f ⟨7,h,0,0,l,[],0,-1,iC s h⟩) λs x=>r.tail d s x
  else if aL L s.i [[46]] then
   if (tk L<|s.i+1).x=1 then A8 (aE s.nx.nx ⟨8,h,0,0,[],(tk L<|s.i+1).text,0,-1,iC s h⟩) λs x=>r.tail d s x else bF L (s.i+1) 1
  else if aL L s.i [[91]] then A8 (r.expr d s.nx) λf x=>A8 (aC L f [93]) λf _=>A8 (aE f ⟨9,h,x,0,[],[],0,-1,iC s h⟩) λs x=>r.tail d s x
  else if aL L s.i [[97,115]] then A8 (r.typ d s.nx) λf t=>A8 (aE f ⟨14,h,0,0,[],[],0,t,iC s h⟩) λs x=>r.tail d s x
  else C<|.ok s h;simple d s:=
  if (tk L s.i).x=3 then aE s.nx ⟨1,0,0,0,[],[],qA (tk L s.i).text,-1,(tk L s.i).at'⟩
  else if (tk L s.i).x=4 then aE s.nx ⟨2,0,0,0,[],(tk L s.i).text,0,-1,(tk L s.i).at'⟩
  else if (tk L s.i).x=1 then aE s.nx ⟨5,0,0,0,[],(tk L s.i).text,0,-1,(tk L s.i).at'⟩
  else if aL L s.i [[116,114,117,101]] then aE s.nx ⟨3,0,0,0,[],[],1,-1,(tk L s.i).at'⟩
  else if aL L s.i [[102,97,108,115,101]] then aE s.nx ⟨3,0,0,0,[],[],0,-1,(tk L s.i).at'⟩
  else if aL L s.i [[110,117,108,108]] then aE s.nx ⟨4,0,0,0,[],[],0,-1,(tk L s.i).at'⟩
  else if aL L s.i [[102,110]] then A8 (aC L s.nx [40]) λa _=>A8 (r.M .par [41] d a [] []) λc l=>A8 (bC L r d c) λg t=>A8 (r.block d g) λi x=>
   aE i ⟨6,x,0,0,l,[],0,t,(tk L s.i).at'⟩
  else if aL L s.i [[91]] then A8 (r.M .expr [93] d s.nx [] []) λf l=>aE f ⟨11,0,0,0,l,[],0,-1,(tk L s.i).at'⟩
  else if aL L s.i [[123]] then A8 (r.M .obj [125] d s.nx [] []) λf l=>aE f ⟨10,0,0,0,l,[],0,-1,(tk L s.i).at'⟩
  else A8 (aC L s [40]) λs _=>A8 (r.expr d s) λs x=>A8 (aC L s [41]) λs _=>C<|.ok s x;block d s:=A8 (aC L s [123]) λa _=>A8 (r.gj d a []) λc l=>aE c ⟨26,0,0,0,l,[],0,-1,(tk L s.i).at'⟩;gj d s acc:=if aL L s.i [[125]] then C (.ok s.nx acc) else A8 (r.gy d s) λs x=>r.gj d s<|acc++[x];gy d s:=aS L (MC L s.i) d s r.any;any d s:=
  if aL L s.i [[108,101,116]] then
   if (tk L<|s.i+1).x=1 then A8 (bC L r d s.nx.nx) λa t=>A8 (aC L a [61]) λc _=>A8 (r.expr d c) λg x=>A8 (aC L g [59]) λi _=>
    aE i ⟨17,x,0,0,[],(tk L<|s.i+1).text,0,t,(tk L s.i).at'⟩
   else bF L (s.i+1) 1
  else if aL L s.i [[112,114,105,110,116]] then A8 (r.expr d s.nx) λa x=>A8 (aC L a [59]) λc _=>aE c ⟨21,x,0,0,[],[],0,-1,(tk L s.i).at'⟩
  else if aL L s.i [[114,101,116,117,114,110]] then A8 (r.expr d s.nx) λa x=>A8 (aC L a [59]) λc _=>aE c ⟨24,x,0,0,[],[],0,-1,(tk L s.i).at'⟩
  else if aL L s.i [[105,102]] then A8 (aC L s.nx [40]) λa _=>A8 (r.expr d a) λc x=>A8 (aC L c [41]) λg _=>A8 (r.block d g) λi y=>
   A8 (if aL L i.i [[101,108,115,101]] then r.block d i.nx else C<|.ok i<|-1) λk z=>aE k ⟨22,x,y,z,[],[],0,-1,(tk L s.i).at'⟩
  else if aL L s.i [[119,104,105,108,101]] then A8 (aC L s.nx [40]) λa _=>A8 (r.expr d a) λc x=>A8 (aC L c [41]) λg _=>A8 (r.block d g) λi y=>
   aE i ⟨23,x,y,0,[],[],0,-1,(tk L s.i).at'⟩
  else A8 (r.expr d s) λa x=>
   if aL L a.i [[61]] then
    if lX (a.N.getD x.toNat kB).x=0 then bF L a.i 1
    else A8 (r.expr d ⟨a.i+1,a.N.take x.toNat,a.T⟩) λc v=>A8 (aC L c [59]) λg _=>aE g<|kJ (a.N.getD x.toNat kB) v
   else A8 (aC L a [59]) λc _=>aE c ⟨25,x,0,0,[],[],0,-1,iC a x⟩;jd d s acc:=if (tk L s.i).x=6 then C (.ok s acc) else A8 (r.gy d s) λs x=>r.jd d s<|acc++[x]
def bot:Sp:=⟨λ_ _=>none,λ_ _=>none,λ_ _ _=>none,λ_ _=>none,λ_ _ _=>none,λ_ _=>none,λ_ _ _ _ _ _=>none,λ_ _=>none,λ_ _=>none,λ_ _=>none,λ_ _=>none,
 λ_ _ _ _=>none,λ_ _=>none,λ_ _ _=>none,λ_ _=>none,λ_ _=>none,λ_ _ _=>none,λ_ _=>none,λ_ _=>none,λ_ _ _=>none⟩
def gW(L:List Tk):Nat->Sp
 |0=>bot
 |f+1=>step L<|gW L f
def Ev{a}(L:List Tk)(c:Sp->Option (Out a))(o:Out a):Prop:=∃b,∀f,b<=f->c (gW L f)=C o
theorem Ev.one{d}{L}{e}{o c:Out d}(h:Ev L e o)(f:Ev L e c):o=c:=by
 obtain⟨a,g⟩:=h;obtain⟨b,i⟩:=f;have:=(g (a+b) W).symm.trans (i (a+b) W);grind
theorem Ev.pure{a}{L:List Tk}{o:Out a}:Ev L (λ_=>C o) o:=⟨0,λ_ _=>K⟩
def Ev.eq{b}{L}{c ψ}{o:Out b}(h:Ev L c o)(e:∀r,ψ r=c r):Ev L ψ o:=by
 obtain⟨a,d⟩:=h;exact⟨a,λf g=>(e _).trans<|d f g⟩
def Ev.bind{c d}{L}{e}{k:Sp->St->c->Option (Out d)}{s}{x}{o}(h:Ev L e<|.ok s x)(g:Ev L (λr=>k r s x) o):Ev L (λr=>A8 (e r)<|k r) o:=by
 obtain⟨a,i⟩:=h;obtain⟨b,j⟩:=g;refine⟨a+b,λf l=>?_⟩;grind[A8,gW]
def Ev.bad{b d}{L}{c}{k:Sp->St->b->Option (Out d)}{e p}(h:Ev L c<|.fail e p):Ev L (λr=>A8 (c r)<|k r) (.fail e p):=by
 obtain⟨a,g⟩:=h;refine⟨a,λf i=>?_⟩;grind[A8,gW]
theorem Ev.step{b}{L}{φ}{o:Out b}(h:Ev L (λr=>φ<|step L r) o):Ev L φ o:=by
 obtain⟨a,c⟩:=h;refine⟨a+1,λf d=>?_⟩;obtain⟨g,rfl⟩:∃g,f=g+1:=⟨f-1,W⟩;exact c g W
theorem VU:∀(f) (l) (a) (b),Q l-a<f->a<=Q l->(∀t∈b,t.x≠6)->Q b<=1000->(J3 f l a b).2.1=0->
 ∃e,(J3 f l a b).1=e++[⟨6,[],Q l⟩]/\(∀t∈e,t.x≠6)/\Q e<=1000
 |0,l,a,b,k,_,_,_,_=>W
 |f+1,l,a,b,k,n,o,p,d=>by
  simp only[J3]at d⊢;by_cases i:Q l<=a+sp blank (l.drop a)
  .grind
  .rw[wY i]at d⊢;by_cases g:(aY<|l.drop<|a+sp blank (l.drop a)).2.2=0
   .grind
   .rw[wY g]at d⊢;by_cases j:Q b=1000
    .grind
    .rw[wY j]at d⊢;have h:=Vp (l.drop<|a+sp blank (l.drop a)) g;have m:=h.le;rw[List.length_drop]at m;refine VU f l _ _ W W ?_ η d;intro t c;rw[qW]at c;obtain c|c:=c
     .grind
     .simp at c;subst c;exact h.x
def ĳ(l)(h:(O8 l).2.1=0):∃a,(O8 l).1=a++[⟨6,[],Q l⟩]/\(∀t∈a,t.x≠6)/\Q a<=1000:=by
 unfold O8 at h⊢;split at h
 .grind
 simp_all[wY,VU]
def Qz(l)(h:(O8 l).2.1=0):Q (O8 l).1<=1001/\0<Q (O8 l).1/\∀i,i<Q (O8 l).1->((tk (O8 l).1 i).x=6↔i+1=Q (O8 l).1):=by
 obtain⟨e,a,c,d⟩:=ĳ l h;rw[a];refine⟨η,θ,λi b=>?_⟩;simp at b⊢;grind[tk,List.getD,List.getElem?_append_left,gQ,mQ,absurd]
inductive Tr where
 |nd (k:Int) (ns:List bZ) (ks:List Tr)
def Tr.k:Tr->Int
 |.nd k _ _=>k
def Tr.ns:Tr->List bZ
 |.nd _ a _=>a
def Tr.ks:Tr->List Tr
 |.nd _ _ a=>a
def Tr.ind{P:Tr->Prop}(h:∀k b a,(∀x∈a,P x)->P (.nd k b a)):∀t,P t
 |.nd k b a=>h k b a λx _=>Tr.ind h x
def Z6(k:Int):bZ:=
 if k=1 then [110,117,109] else if k=2 then [98,111,111,108] else if k=3 then [116,101,120,116] else if k=4 then [110,117,108,108] else if k=6 then [117,110,107,110,111,119,110] else [97,110,121]
mutual
def bU:Tr->bZ
 |.nd k a b=>
  if k=7 then [123]++vK a b++(if Q a=0 then [] else [32])++[125]
  else if k=8 then [91]++UF b++[93]
  else if k=9 then JH b
  else if k=10 then pP τ b
  else Z6 k
def UF:List Tr->bZ
 |[]=>[]
 |t::_=>bU t
def JH:List Tr->bZ
 |[]=>[]
 |t::r=>[40]++qV τ r++[41,32,61,62,32]++bU t
def qV:Bool->List Tr->bZ
 |_,[]=>[]
 |c,t::r=>(if c then [] else [44,32])++bU t++qV κ r
def pP:Bool->List Tr->bZ
 |_,[]=>[]
 |c,t::r=>(if c then [] else [32,124,32])++(if t.k=10\/t.k=9/\Q r≠0 then [40]++bU t++[41] else bU t)++pP κ r
def vK:List bZ->List Tr->bZ
 |_,[]=>[]
 |a,t::r=>[32]++a.headD []++[58,32]++bU t++[59]++vK a.tail r
end
abbrev TT:=Int×bZ
def sg(x:bZ):TT:=(5,x)
mutual
def fV:Tr->List TT
 |.nd k b a=>
  if k=7 then sg [123]::(qU b a++[sg [125]])
  else if k=8 then sg [91]::(Kc a++[sg [93]])
  else if k=9 then Kb a
  else if k=10 then tY τ a
  else [(2,Z6 k)]
def Kc:List Tr->List TT
 |[]=>[]
 |t::_=>fV t
def Kb:List Tr->List TT
 |[]=>[]
 |t::r=>sg [40]::(Z8 τ r++sg [41]::sg [61,62]::fV t)
def Z8:Bool->List Tr->List TT
 |_,[]=>[]
 |c,t::r=>(if c then [] else [sg [44]])++fV t++Z8 κ r
def tY:Bool->List Tr->List TT
 |_,[]=>[]
 |c,t::r=>(if c then [] else [sg [124]])++(if t.k=10\/t.k=9/\Q r≠0 then sg [40]::(fV t++[sg [41]]) else fV t)++tY κ r
def qU:List bZ->List Tr->List TT
 |_,[]=>[]
 |b,t::r=>(1,b.headD [])::sg [58]::(fV t++sg [59]::qU b.tail r)
end
def S6(a:bZ):Prop:=a≠[]/\Q a<=20/\tX a=κ/\(∀c∈a,iA c.toNat=τ)/\(∀c,a.head?=C c->iP c.toNat=τ)
inductive Wf:Tr->Prop
 |plain (k:Int):1<=k->k<=6->Wf (.nd k [] [])
 |obj (ns:List bZ) (ks:List Tr):Q ns=Q ks->ns.Nodup->(∀n∈ns,S6 n)->(∀x∈ks,Wf x)->Wf (.nd 7 ns ks)
 |arr (t:Tr):Wf t->Wf (.nd 8 [] [t])
 |fn (t:Tr) (ps:List Tr):Wf t->(∀x∈ps,Wf x)->Wf (.nd 9 []<|t::ps)
 |uni (ks:List Tr):2<=Q ks->(∀x∈ks,Wf x)->Wf (.nd 10 [] ks)
/-!### Tags -/
def uO(k:Int):Nat:=
 if k=1 then 1 else if k=2 then 2 else if k=3 then 4 else if k=4 then 8 else if k=7 then 16 else if k=8 then 32 else if k=9 then 64 else 127
mutual
def jJ:Tr->Nat
 |.nd k _ a=>if k=10 then lN a else uO k
def lN:List Tr->Nat
 |[]=>0
 |t::r=>jJ t|||lN r
end
/-!### What F7 -/
def I8(a:bZ):List bZ->List Tr->Option Tr
 |n::c,t::b=>if n=a then C t else I8 a c b
 |_,_=>none
def Q9:Nat->Tr->Tr->Bool
 |0,_,_=>κ
 |f+1,a,b=>
  if a.k=5\/b.k=5\/b.k=6 then τ
  else if a.k=10 then a.ks.all λx=>Q9 f x b
  else if b.k=10 then b.ks.any λy=>Q9 f a y
  else if a.k≠b.k then κ
  else if a.k=7 then (b.ns.zip b.ks).all λp=>match I8 p.1 a.ns a.ks with
   |none=>κ
   |C x=>Q9 f x p.2
  else if a.k=8 then match a.ks,b.ks with
   |x::_,y::_=>Q9 f x y
   |_,_=>κ
  else if a.k=9 then match a.ks,b.ks with
   |x::c,y::d=>ê (Q c<=Q d)&&((c.zip d).all λp=>Q9 f p.1 p.2||Q9 f p.2 p.1)&&Q9 f x y
   |_,_=>κ
  else τ
mutual
def sz:Tr->Nat
 |.nd _ _ a=>cR a+1
def cR:List Tr->Nat
 |[]=>0
 |t::r=>sz t+cR r
end
def Hf:∀{a} {x},x∈a->sz x<=cR a
 |t::r,x,h=>by
  obtain rfl|h:=jW.1 h
  .simp[cR]
  .have:=Hf h;grind[cR]
theorem T9{t x}(h:x∈t.ks):sz x<sz t:=by
 obtain⟨k,b,a⟩:=t;have:=Hf h;grind[sz,Tr.ks]
def Yg(t):0<sz t:=by obtain⟨k,b,a⟩:=t;simp[sz]
theorem EK{c}:∀{b} {a} {t},I8 c b a=C t->t∈a
 |[],_,_,h=>by grind[I8]
 |_::_,[],_,h=>by grind[I8]
 |n::b,x::a,t,h=>by
  simp only[I8]at h;split at h
  .grind
  .exact List.mem_cons_of_mem _<|EK h
theorem W4:∀(f g) (a b),sz a+sz b<f->sz a+sz b<g->Q9 f a b=Q9 g a b
 |0,_,_,_,h,_=>W
 |_,0,_,_,_,h=>W
 |f+1,g+1,a,b,G,H=>by
  have F:=Yg a;simp only[Q9];have r:a.ks.all (λx=>Q9 f x b)=a.ks.all (λx=>Q9 g x b):=by
   rw[Bool.eq_iff_iff,List.all_eq_true,List.all_eq_true];exact forall_congr' λx=>forall_congr' λq=>by have:=T9 q;rw[W4 f g x b W W]
  have s:b.ks.any (λy=>Q9 f a y)=b.ks.any (λy=>Q9 g a y):=by
   rw[Bool.eq_iff_iff,List.any_eq_true,List.any_eq_true];refine exists_congr λy=>?_;constructor
   .rintro⟨e,h⟩;have:=T9 e;exact⟨e,by rw[<-W4 f g a y W W];omega⟩
   .rintro⟨e,h⟩;have:=T9 e;exact⟨e,by rw[W4 f g a y W W];omega⟩
  have t:((b.ns.zip b.ks).all λp=>match I8 p.1 a.ns a.ks with|none=>κ|C x=>Q9 f x p.2)=((b.ns.zip b.ks).all λp=>match I8 p.1 a.ns a.ks with|none=>κ|C x=>Q9 g x p.2):=by
   rw[Bool.eq_iff_iff,List.all_eq_true,List.all_eq_true];refine forall_congr' λp=>forall_congr' λk=>?_;have e:=T9 (List.of_mem_zip k).2;cases h:I8 p.1 a.ns a.ks with
   |none=>simp
   |some x=>
    have q:=T9<|EK h;simp only;rw[W4 f g x p.2 W W]
  rw[r,s,t];obtain⟨l,m,i⟩:=a;obtain⟨bk,n,j⟩:=b;simp only[Tr.k,Tr.ns,Tr.ks]at*;have u:∀(c d:List Tr),(∀x∈c,x∈i)->(∀y∈d,y∈j)->((c.zip d).all λp=>Q9 f p.1 p.2||Q9 f p.2 p.1)=((c.zip d).all λp=>Q9 g p.1 p.2||Q9 g p.2 p.1):=by
   intro c d A B;rw[Bool.eq_iff_iff,List.all_eq_true,List.all_eq_true];refine forall_congr' λp=>forall_congr' λk=>?_;have o:=List.of_mem_zip k;have v:=T9 (t:=.nd l m i)<|A _ o.1;have w:=T9 (t:=.nd bk n j)<|B _ o.2;rw[W4 f g p.1 p.2 W W,W4 f g p.2 p.1 W W]
  cases i with
  |nil=>rfl
  |cons x c=>
   cases j with
   |nil=>rfl
   |cons y d=>
    have v:=T9 (t:=.nd l m<|x::c) (x:=x) (by simp[Tr.ks]);have w:=T9 (t:=.nd bk n<|y::d) (x:=y) (by simp[Tr.ks]);simp only;rw[W4 f g x y W W,u c d (λz D=>η) λz D=>η]
termination_by f=>f
def F7(a b:Tr):Bool:=Q9 (sz a+sz b+1) a b
theorem xF(f)(a b)(h:sz a+sz b<f):Q9 f a b=F7 a b:=W4 _ _ _ _ h W
theorem vE(a b):F7 a b=
 if a.k=5\/b.k=5\/b.k=6 then τ
 else if a.k=10 then a.ks.all λx=>F7 x b
 else if b.k=10 then b.ks.any λy=>F7 a y
 else if a.k≠b.k then κ
 else if a.k=7 then (b.ns.zip b.ks).all λp=>match I8 p.1 a.ns a.ks with
  |none=>κ
  |C x=>F7 x p.2
 else if a.k=8 then match a.ks,b.ks with
  |x::_,y::_=>F7 x y
  |_,_=>κ
 else if a.k=9 then match a.ks,b.ks with
  |x::c,y::d=>ê (Q c<=Q d)&&((c.zip d).all λp=>F7 p.1 p.2||F7 p.2 p.1)&&F7 x y
  |_,_=>κ
 else τ:=by
 rw[show F7 a b=Q9 (sz a+sz b+1) a b from K,Q9];have m:a.ks.all (λx=>Q9 (sz a+sz b) x b)=a.ks.all (λx=>F7 x b):=by
  rw[Bool.eq_iff_iff,List.all_eq_true,List.all_eq_true];exact forall_congr' λx=>forall_congr' λt=>by grind[T9,xF]
 have n:b.ks.any (λy=>Q9 (sz a+sz b) a y)=b.ks.any (λy=>F7 a y):=by
  rw[Bool.eq_iff_iff,List.any_eq_true,List.any_eq_true];refine exists_congr λy=>?_;constructor
  .grind[T9,xF,sz]
  .grind[T9,xF,sz]
 have o:((b.ns.zip b.ks).all λp=>match I8 p.1 a.ns a.ks with|none=>κ|C x=>Q9 (sz a+sz b) x p.2)=((b.ns.zip b.ks).all λp=>match I8 p.1 a.ns a.ks with|none=>κ|C x=>F7 x p.2):=by
  rw[Bool.eq_iff_iff,List.all_eq_true,List.all_eq_true];refine forall_congr' λp=>forall_congr' λk=>?_;have A:=T9 (List.of_mem_zip k).2;cases h:I8 p.1 a.ns a.ks with
  |none=>simp
  |some x=>
   have t:=T9<|EK h;grind[xF]
 rw[m,n,o];obtain⟨g,i,e⟩:=a;obtain⟨bk,j,f⟩:=b;simp only[Tr.k,Tr.ns,Tr.ks]at*;have q:∀(c d:List Tr),(∀x∈c,x∈e)->(∀y∈d,y∈f)->((c.zip d).all λp=>Q9 (sz (.nd g i e)+sz (.nd bk j f)) p.1 p.2||Q9 (sz (.nd g i e)+sz (.nd bk j f)) p.2 p.1)=((c.zip d).all λp=>F7 p.1 p.2||F7 p.2 p.1):=by
  intro c d u v;rw[Bool.eq_iff_iff,List.all_eq_true,List.all_eq_true];refine forall_congr' λp=>forall_congr' λk=>?_;have l:=List.of_mem_zip k;have r:=T9 (t:=.nd g i e)<|u _ l.1;have s:=T9 (t:=.nd bk j f)<|v _ l.2;rw[xF _ p.1 p.2 W,xF _ p.2 p.1 W]
 cases e with
 |nil=>rfl
 |cons x c=>
  cases f with
  |nil=>rfl
  |cons y d=>
   have r:=T9 (t:=.nd g i<|x::c) (x:=x) (by simp[Tr.ks]);have s:=T9 (t:=.nd bk j<|y::d) (x:=y) (by simp[Tr.ks]);simp only;rw[xF _ x y W,q c d (λz w=>η) λz w=>η]
def fT(l:List TT)(m:bZ):Bool:=match l with
 |[]=>κ
 |(k,x)::_=>(k==5||k==2)&&has [m] x
def LM(l:List TT):Int:=match l with
 |[]=>6
 |(k,_)::_=>k
def EX(l:List TT):bZ:=match l with
 |[]=>[]
 |(_,x)::_=>x
mutual
def zV:Nat->List TT->Option (Tr×List TT)
 |0,_=>none
 |f+1,l=>Lj f l
def Lj:Nat->List TT->Option (Tr×List TT)
 |0,_=>none
 |f+1,l=>(KZ f l).bind λp=>if fT p.2 [124] then (UN f p.2 [p.1]).bind λq=>C (.nd 10 [] q.1,q.2) else C p
def UN:Nat->List TT->List Tr->Option (List Tr×List TT)
 |0,_,_=>none
 |f+1,l,a=>if fT l [124] then (KZ f l.tail).bind λp=>UN f p.2 (a++[p.1]) else C (a,l)
def KZ:Nat->List TT->Option (Tr×List TT)
 |0,_=>none
 |f+1,l=>
  if fT l [123] then UO f l.tail [] []
  else if fT l [91] then (zV f l.tail).bind λp=>if fT p.2 [93] then C (.nd 8 [] [p.1],p.2.tail) else none
  else if fT l [40] then Ll f l.tail
  else if LM l=2/\I1 (EX l)≠0 then C (.nd (I1<|EX l) [] [],l.tail) else none
def UO:Nat->List TT->List bZ->List Tr->Option (Tr×List TT)
 |0,_,_,_=>none
 |f+1,l,c,b=>
  if fT l [125] then C (.nd 7 c b,l.tail)
  else if LM l=1 then if fT l.tail [58] then (zV f l.tail.tail).bind λp=>if fT p.2 [59] then UO f p.2.tail (c++[EX l]) (b++[p.1]) else none else none else none
def Ll:Nat->List TT->Option (Tr×List TT)
 |0,_=>none
 |f+1,l=>(LC f l []).bind λp=>
  if fT p.2 [61,62] then (zV f p.2.tail).bind λq=>C (.nd 9 []<|q.1::p.1,q.2)
  else match p.1 with
   |[t]=>C (t,p.2)
   |_=>none
def LC:Nat->List TT->List Tr->Option (List Tr×List TT)
 |0,_,_=>none
 |f+1,l,a=>
  if fT l [41] then C (a,l.tail)
  else if Q a=0 then (zV f l).bind λp=>LC f p.2<|a++[p.1]
  else if fT l [44] then (zV f l.tail).bind λp=>LC f p.2 (a++[p.1]) else none
end
def vJ{a:Type}(c:Nat->Option a)(o:a):Prop:=∃b,∀f,b<=f->c f=C o
theorem vJ.one{d}{e}{o c:d}(h:vJ e o)(f:vJ e c):o=c:=by
 obtain⟨a,g⟩:=h;obtain⟨b,i⟩:=f;exact xZ ((g (a+b) W).symm.trans<|i (a+b) W)
def vJ.bind{c d}{e}{k:Nat->c->Option d}{x}{o}(h:vJ e x)(g:vJ (λf=>k f x) o):vJ (λf=>(e f).bind<|k f) o:=by
 obtain⟨a,i⟩:=h;obtain⟨b,j⟩:=g;refine⟨a+b,λf l=>?_⟩;grind
def Ř(r:List TT):Prop:=fT r [124]=κ/\fT r [61,62]=κ
def RmQ(t:Tr)(a:Bool):Prop:=∀r,fT r [61,62]=κ->(a=κ->fT r [124]=κ)->vJ (λf=>KZ f<|fV t++r) (t,r)
def one(t:Tr)(a:Bool):List TT:=if t.k=10\/t.k=9/\a=κ then sg [40]::(fV t++[sg [41]]) else fV t
def eJ(t:Ty)(i:Nat):Prop:=
 (1<=t.x/\t.x<=6/\t.eo=[]/\t.M=[])\/
 (t.x=7/\t.M=[]/\(t.eo.map (·.1)).Nodup/\∀p∈t.eo,S6 p.1/\0<=p.2/\p.2<i)\/
 (t.x=8/\t.eo=[]/\t.M=[]/\0<=t.fh/\t.fh<i)\/
 (t.x=9/\t.eo=[]/\0<=t.fh/\t.fh<i/\∀x∈t.M,0<=x/\x<i)\/
 (t.x=10/\t.eo=[]/\2<=Q t.M/\∀x∈t.M,0<=x/\x<i)
def aX(T:List Ty):Prop:=∀i (h),eJ T[i] i
def eJ.nh{t}{i}(h:eJ t i):∀p∈t.eo,0<=p.2/\p.2<i:=by
 intro p a;obtain⟨_,_,h,_⟩|⟨_,_,_,h⟩|⟨_,h,_⟩|⟨_,h,_⟩|⟨_,h,_⟩:=h
 .grind
 .grind
 .grind
 .grind
 grind
def eJ.lg{t}{i}(h:eJ t i):∀x∈t.M,0<=x/\x<i:=by
 intro p a;obtain⟨_,_,_,h⟩|⟨_,h,_⟩|⟨_,_,h,_⟩|⟨_,_,_,_,h⟩|⟨_,_,_,h⟩:=h
 .grind
 .grind
 .grind
 .grind
 grind
theorem eJ.of{t}{i}(h:eJ t i)(a:t.x=8\/t.x=9):0<=t.fh/\t.fh<i:=by
 obtain h|h|h|h|h:=h
 .omega
 .omega
 .omega
 .omega
 omega
def ty0:Ty:=⟨0,[],[],0⟩
def lO(T:List Ty):Nat->Nat->Tr
 |0,_=>.nd 0 [] []
 |f+1,i=>.nd (T.getD i ty0).x ((T.getD i ty0).eo.map (·.1))<|(if (T.getD i ty0).x=8\/(T.getD i ty0).x=9 then [lO T f (T.getD i ty0).fh.toNat] else [])++((T.getD i ty0).eo.map λp=>lO T f p.2.toNat)++(T.getD i ty0).M.map λx=>lO T f x.toNat
def tr(T:List Ty)(i:Nat):Tr:=lO T (i+1) i
theorem fX{T:List Ty}{i}(h):T.getD i ty0=T[i]:=η
theorem JD{t}{i}(c:eJ t i)(g h:Nat->Tr)(e:∀j,j<i->g j=h j):
 (if t.x=8\/t.x=9 then [g t.fh.toNat] else [])++(t.eo.map λp=>g p.2.toNat)++(t.M.map λx=>g x.toNat)=(if t.x=8\/t.x=9 then [h t.fh.toNat] else [])++(t.eo.map λp=>h p.2.toNat)++(t.M.map λx=>h x.toNat):=by
 have d:t.eo.map (λp=>g p.2.toNat)=t.eo.map (λp=>h p.2.toNat):=List.map_congr_left λp b=>e _ (by have:=c.nh p b;omega);have f:t.M.map (λx=>g x.toNat)=t.M.map (λx=>h x.toNat):=List.map_congr_left λp b=>e _ (by have:=c.lg p b;omega);rw[d,f];by_cases a:t.x=8\/t.x=9
 .rw[yY a,yY a,e _<|by have:=c.of a;omega]
 grind
theorem WR{T}(a:aX T):∀(f g i),i<Q T->i<f->i<g->lO T f i=lO T g i
 |0,_,_,_,h,_=>W
 |_,0,_,_,_,h=>W
 |f+1,g+1,i,b,c,d=>by
  simp only[lO,fX b];rw[JD (a i b) (lO T f) (lO T g) λj e=>WR a f g j W W W]
theorem ZQ{T X}(b:aX T):∀(f i),i<Q T->lO (T++X) f i=lO T f i
 |0,_,_=>K
 |f+1,i,a=>by
  have e:(T++X).getD i ty0=T[i]:=by rw[fX η];exact List.getElem_append_left a
  simp only[lO,fX a,e];rw[JD (b i a) (lO (T++X) f) (lO T f) λj c=>ZQ b f j W]
theorem vA{T}(X){i}(a:aX T)(b:i<Q T):tr (T++X) i=tr T i:=ZQ a _ _ b
theorem X7{T:List Ty}{i}(a:aX T)(b:i<Q T):tr T i=.nd T[i].x (T[i].eo.map (·.1))
 ((if T[i].x=8\/T[i].x=9 then [tr T T[i].fh.toNat] else [])++(T[i].eo.map λp=>tr T p.2.toNat)++T[i].M.map λx=>tr T x.toNat):=by
 rw[tr,lO,fX b];rw[JD (a i b) (lO T i) (tr T) λj c=>WR a _ _ _ W W W]
def BR{T}(f:aX T)(i):i<Q T->Wf (tr T i):=by
 induction i using Nat.strongRecOn with
 |ind i j=>
  intro g;have h:=f i g;rw[X7 f g];have k:=h;obtain⟨a,b,c,d⟩|⟨a,b,c,d⟩|⟨a,b,c,d⟩|⟨a,b,c,d,l⟩|⟨a,b,c,d⟩:=k
  .rw[wY W,c,d];exact Wf.plain _ a b
  .rw[wY W,a,b];simp;refine Wf.obj _ _ θ c (λn m=>?_) λx e=>?_
   .grind
   grind
  .rw[yY<|.inl a,a,b,c];exact Wf.arr _ (j _ W W)
  .rw[yY<|.inr a,a,b];refine Wf.fn _ _ (j _ W W) λx e=>?_;obtain⟨p,o,rfl⟩:=kZ.1 e;grind
  .rw[wY W,a,b];simp;refine Wf.uni _ η λx e=>?_;grind
theorem aX.snoc{T}{t}(a:aX T)(c:eJ t (Q T)):aX (T++[t]):=by
 intro i b;by_cases h:i<Q T
 .rw[List.getElem_append_left h];exact a i h
 grind
theorem wG{T:List Ty}{t}(a:aX T)(b:eJ t (Q T)):tr (T++[t]) (Q T)=.nd t.x (t.eo.map (·.1))
 ((if t.x=8\/t.x=9 then [tr T t.fh.toNat] else [])++(t.eo.map λp=>tr T p.2.toNat)++t.M.map λx=>tr T x.toNat):=by
 rw[X7 (a.snoc b) θ];simp only[List.getElem_concat_length];rw[JD b (tr<|T++[t]) (tr T) λj c=>vA _ a c]
/-!### The reader reads the same -/
def tt(L:List Tk)(i:Nat):List TT:=(L.drop i).map λt=>(t.x,t.text)
theorem UG{L}{i}(h:i<Q L):tt L i=((tk L i).x,(tk L i).text)::tt L (i+1):=by
 grind[tk,List.getD,tt,List.drop_eq_getElem_cons,bY]
theorem QK{L}{i}(h:¬i<Q L):tt L i=[]:=by grind[tt,List.drop_of_length_le]
theorem BS{L}{i}(h:¬i<Q L):tk L i=⟨6,[],0⟩:=by
 simp only[tk,List.getD];grind
def A7e(L)(i):(tt L i).tail=tt L (i+1):=by
 grind[UG,QK]
def Xr(L)(i):LM (tt L i)=(tk L i).x:=by
 by_cases h:i<Q L
 .rw[UG h];rfl
 .rw[QK h,BS h];rfl
def Tf(L)(i):EX (tt L i)=(tk L i).text:=by
 by_cases h:i<Q L
 .rw[UG h];rfl
 .rw[QK h,BS h];rfl
def B9{d e}{x}{k:St->d->Option (Out e)}{s}{b}(h:A8 x k=C (.ok s b)):∃c a,x=C (.ok c a)/\k c a=C (.ok s b):=by
 unfold A8 at h;grind
def J9{L}{s a}{m}{u}(h:aC L s m=C (.ok a u)):aL L s.i [m]=τ/\a=s.nx:=by
 unfold aC at h;grind[bF]
def BU{s a}{t}{x}(h:bQ s t=C (.ok a x)):a=⟨s.i,s.N,s.T++[t]⟩/\x=Q s.T:=by
 grind[bQ,zQ,Out.ok.injEq]
def qR(L:List Tk):Prop:=∀i,(tk L i).x=1->S6 (tk L i).text
def A2b(x)(h:I1 x≠0):1<=I1 x/\I1 x<=6:=by
 grind[I1]
section
variable{L:List Tk}{f:Nat}
end
inductive Nt where
 |nd (k:Int) (tx:bZ) (n:Int) (ps:List Nt)
 |ty (t:Option Tr)
def Nt.k:Nt->Int
 |.nd k _ _ _=>k
 |.ty none=>-1
 |.ty (C _)=>0
def jO(k:Int)(a:bZ):Nat:=if k=13 then 4 else if k=12 then (if a=[42] then 3 else if a=[43]\/a=[45] then 2 else 1) else 5
def uK:Nt->Nat
 |.nd k a _ _=>jO k a
 |.ty _=>5
structure Pc where
 b:Nat
 k:Int
 s:bZ
def wi(a:Nat)(c:Pc):bZ:=if a<=c.b then c.s else [40]++c.s++[41]
def QJ(c:Pc):bZ:=if c.k=-1 then [] else [58,32]++c.s
def CN(a:bZ):List Pc->bZ
 |[]=>[]
 |[c]=>c.s
 |c::r=>c.s++a++CN a r
def mg(d:Nat):bZ:=(List.replicate d [32,32]).flatten
def We(d:Nat)(a:List Pc):bZ:=a.flatMap λc=>mg d++c.s++[10]
def zX:Pc:=⟨5,0,[]⟩
def c0(a:List Pc):Pc:=a.getD 0 zX
def c1(a:List Pc):Pc:=a.getD 1 zX
def c2(a:List Pc):Pc:=a.getD 2 zX
def Lm(k:Int)(b:bZ)(n:Int)(a:List Pc):bZ:=
 if k=1 then Lib.itoa n
 else if k=2 then [34]++b++[34]
 else if k=3 then Lib.formatBool<|n==1
 else if k=4 then [110,117,108,108]
 else if k=5 then b
 else if k=6 then [102,110,40]++CN [44,32] a.dropLast.dropLast++[41]++QJ (a.dropLast.getLastD zX)++[32]++(a.getLastD zX).s
 else if k=7 then wi 5 (c0 a)++([40]++CN [44,32] a.tail++[41])
 else if k=8 then wi 5 (c0 a)++([46]++b)
 else if k=9 then wi 5 (c0 a)++[91]++(c1 a).s++[93]
 else if k=10 then (if Q a=0 then [123,125] else [123,32]++CN [44,32] a++[32,125])
 else if k=11 then [91]++CN [44,32] a++[93]
 else if k=12 then wi (if jO k b=1 then 2 else jO k b) (c0 a)++([32]++b++[32])++wi (jO k b+1) (c1 a)
 else if k=13 then b++(if b=[116,121,112,101,111,102] then [32] else [])++wi 4 (c0 a)
 else if k=14 then wi 5 (c0 a)++[32,97,115,32]++(c1 a).s
 else if k=15 then (b++[58,32])++(c0 a).s
 else b++QJ (c0 a)
def UP(d:Nat)(k:Int)(b:bZ)(a:List Pc):bZ:=
 if k=17 then ([108,101,116,32]++b)++QJ (c0 a)++[32,61,32]++(c1 a).s++[59]
 else if k=18 then (b++[32,61,32])++(c0 a).s++[59]
 else if k=19 then wi 5 (c0 a)++([46]++b)++[32,61,32]++(c1 a).s++[59]
 else if k=20 then wi 5 (c0 a)++[91]++(c1 a).s++[93]++[32,61,32]++(c2 a).s++[59]
 else if k=21 then [112,114,105,110,116,32]++(c0 a).s++[59]
 else if k=22 then [105,102,32,40]++(c0 a).s++[41,32]++(c1 a).s++(if (c2 a).k=-1 then [] else [32,101,108,115,101,32]++(c2 a).s)
 else if k=23 then [119,104,105,108,101,32,40]++(c0 a).s++[41,32]++(c1 a).s
 else if k=24 then [114,101,116,117,114,110,32]++(c0 a).s++[59]
 else if k=25 then (c0 a).s++[59]
 else [123,10]++We (d+1) a++mg d++[125]
mutual
def pr(d:Nat):Nt->bZ
 |.ty none=>[]
 |.ty (C t)=>bU t
 |.nd k b n a=>if k=26 then UP d k b (EU (d+1) a) else if k<=16 then Lm k b n (EU d a) else UP d k b<|EU d a
def EU(d:Nat):List Nt->List Pc
 |[]=>[]
 |p::r=>⟨uK p,p.k,pr d p⟩::EU d r
end
def V9(k:Int)(a:uZ)(n:Nd):Prop:=
 if k=6 then n.M=a.dropLast.dropLast/\n.ty=a.dropLast.getLastD 0/\n.a=a.getLastD 0/\2<=Q a
 else if k=7 then n.a=a.headD 0/\n.M=a.tail/\1<=Q a
 else if k=10\/k=11\/k=26 then n.M=a
 else if k=14 then a=[n.a,n.ty]
 else if k=16 then a=[n.ty]
 else if k=17 then a=[n.ty,n.a]
 else if k=9\/k=12\/k=19\/k=23 then a=[n.a,n.b]
 else if k=20\/k=22 then a=[n.a,n.b,n.c]
 else if k=8\/k=13\/k=15\/k=18\/k=21\/k=24\/k=25 then a=[n.a]
 else a=[]
mutual
def At(N:List Nd)(T:List Ty):Nt->Int->Prop
 |.ty none,i=>i=-1
 |.ty<|C t,i=>∃j:Nat,i=j/\j<Q T/\tr T j=t
 |.nd k d n c,i=>∃j:Nat,i=j/\∃h:j<Q N,N[j].x=k/\N[j].text=d/\N[j].n=n/\∃a,V9 k a N[j]/\kO N T c a
def kO(N:List Nd)(T:List Ty):List Nt->uZ->Prop
 |[],a=>a=[]
 |p::r,a=>∃i b,a=i::b/\At N T p i/\kO N T r b
end
def aP(k:Int):Prop:=1<=k/\k<=14
def jM(k:Int):Prop:=k=-1\/k=0
def bO(k:Int)(a:uZ):Prop:=
 if k=1\/k=2\/k=3\/k=4\/k=5 then a=[]
 else if k=6 then∃b r,a=b++[r,26]/\(∀x∈b,x=16)/\jM r
 else if k=7 then∃x c,a=x::c/\aP x/\∀y∈c,aP y
 else if k=8\/k=13\/k=15\/k=18\/k=21\/k=24\/k=25 then∃x,a=[x]/\aP x
 else if k=9\/k=12\/k=19 then∃x y,a=[x,y]/\aP x/\aP y
 else if k=10 then∀x∈a,x=15
 else if k=11 then∀x∈a,aP x
 else if k=14 then∃x,a=[x,0]/\aP x
 else if k=16 then∃x,a=[x]/\jM x
 else if k=17 then∃x y,a=[x,y]/\jM x/\aP y
 else if k=20 then∃x y z,a=[x,y,z]/\aP x/\aP y/\aP z
 else if k=22 then∃x z,a=[x,26,z]/\aP x/\(z=26\/z=-1)
 else if k=23 then∃x,a=[x,26]/\aP x
 else if k=26 then∀x∈a,17<=x/\x<=25
 else False
mutual
def Gd:Nt->Prop
 |.ty _=>True
 |.nd k _ _ a=>bO k (a.map Nt.k)/\rH a
def rH:List Nt->Prop
 |[]=>True
 |p::r=>Gd p/\rH r
end
mutual
def uD:Nt->Nat
 |.ty _=>1
 |.nd _ _ _ a=>E7 a+1
def E7:List Nt->Nat
 |[]=>0
 |p::r=>uD p+E7 r
end
def tN:∀{b} {p},rH b->p∈b->Gd p
 |q::r,p,h,a=>by
  rw[jW]at a;obtain rfl|a:=a
  .exact h.1
  .exact tN h.2 a
def S9:∀{b} {p},p∈b->uD p<=E7 b
 |q::r,p,a=>by
  rw[jW]at a;rw[E7];obtain rfl|a:=a
  .omega
  .have:=S9 a;omega
theorem MQ{N}{T}:∀{b} {a},kO N T b a->Q a=Q b
 |[],a,h=>by grind[kO]
 |p::r,a,h=>by
  rw[kO]at h;obtain⟨i,d,rfl,_,c⟩:=h;rw[jQ,jQ,MQ c]
theorem k1{b}{x}(h:b.map Nt.k=[x]):∃a,b=[a]/\a.k=x:=ù
theorem k2{c}{x y}(h:c.map Nt.k=[x,y]):∃a b,c=[a,b]/\a.k=x/\b.k=y:=by
 match c,h with
 |[a,b],h=>grind
 |[],h=>grind
 |[_],h=>grind
 |_::_::_::_,h=>grind
def k3{d}{x y z}(h:d.map Nt.k=[x,y,z]):∃a b c,d=[a,b,c]/\a.k=x/\b.k=y/\c.k=z:=by
 match d,h with
 |[a,b,c],h=>grind
 |[],h=>grind
 |[_],h=>grind
 |[_,_],h=>grind
 |_::_::_::_::_,h=>grind
def xV{a}(b:Gd a)(h:jM a.k):∃t,a=.ty t:=by
 cases a with
 |ty t=>simp
 |nd k d n c=>
  exfalso;rw[Gd]at b;obtain h|h:=h<;>(simp only[Nt.k]at h;simp_all[bO])
theorem A8b(t):1<=uD t:=by
 cases t<;>simp[uD]
mutual
def fG:Tr->Nat
 |.nd _ _ a=>S5 a+1
def S5:List Tr->Nat
 |[]=>0
 |t::r=>fG t+S5 r
end
def eW:Nat->List Tr->uZ
 |_,[]=>[]
 |b,t::r=>(((b+fG t:Nat))-1)::eW (b+fG t) r
def kH(k:Int)(b:List bZ)(a:uZ):Ty:=
 if k=7 then ⟨7,b.zip a,[],0⟩ else if k=8 then ⟨8,[],[],a.headD 0⟩ else if k=10 then ⟨10,[],a,0⟩ else ⟨k,[],[],0⟩
mutual
def gN(b:Nat):Tr->List Ty
 |.nd k c a=>if k=9 then oS b a else O9 b a++[kH k c<|eW b a]
def O9(b:Nat):List Tr->List Ty
 |[]=>[]
 |t::r=>gN b t++O9 (b+fG t) r
def oS(b:Nat):List Tr->List Ty
 |[]=>[⟨9,[],[],0⟩]
 |t::r=>O9 b r++gN (b+S5 r) t++[⟨9,[],eW b r,((b+S5 r+fG t:Nat):Int)-1⟩]
end
mutual
def nN:Nt->Nat
 |.ty _=>0
 |.nd _ _ _ a=>aB a+1
def aB:List Nt->Nat
 |[]=>0
 |p::r=>nN p+aB r
end
mutual
def nT:Nt->Nat
 |.ty none=>0
 |.ty (C t)=>fG t
 |.nd _ _ _ a=>cK a
def cK:List Nt->Nat
 |[]=>0
 |p::r=>nT p+cK r
end
def bW(b c:Nat):Nt->Int
 |.ty none=>-1
 |.ty (C t)=>((c+fG t:Nat))-1
 |.nd k d n a=>((b+nN (.nd k d n a):Nat))-1
def bD:Nat->Nat->List Nt->uZ
 |_,_,[]=>[]
 |b,a,p::r=>bW b a p::bD (b+nN p) (a+nT p) r
def bV(k:Int)(b:bZ)(n:Int)(a:uZ):Nd:=
 if k=6 then ⟨6,a.getLastD 0,0,0,a.dropLast.dropLast,b,n,a.dropLast.getLastD 0,0⟩
 else if k=7 then ⟨7,a.headD 0,0,0,a.tail,b,n,-1,0⟩
 else if k=10\/k=11\/k=26 then ⟨k,0,0,0,a,b,n,-1,0⟩
 else if k=14 then ⟨14,a.getD 0 0,0,0,[],b,n,a.getD 1 0,0⟩
 else if k=16 then ⟨16,0,0,0,[],b,n,a.getD 0 0,0⟩
 else if k=17 then ⟨17,a.getD 1 0,0,0,[],b,n,a.getD 0 0,0⟩
 else ⟨k,a.getD 0 0,a.getD 1 0,a.getD 2 0,[],b,n,-1,0⟩
mutual
def iR(b a:Nat):Nt->List Nd
 |.ty _=>[]
 |.nd k d n c=>U2 b a c++[bV k d n<|bD b a c]
def U2(b a:Nat):List Nt->List Nd
 |[]=>[]
 |p::r=>iR b a p++U2 (b+nN p) (a+nT p) r
end
mutual
def gL(a:Nat):Nt->List Ty
 |.ty none=>[]
 |.ty (C t)=>gN a t
 |.nd _ _ _ b=>Y2 a b
def Y2(a:Nat):List Nt->List Ty
 |[]=>[]
 |p::r=>gL a p++Y2 (a+nT p) r
end
mutual
theorem R6(b a:Nat):∀t:Nt,Q (iR b a t)=nN t
 |.ty _=>K
 |.nd k d n c=>by rw[iR,qQ,vM b a c,nN];rfl
theorem vM(b a:Nat):∀c:List Nt,Q (U2 b a c)=aB c
 |[]=>K
 |p::r=>by rw[U2,qQ,R6 b a p,vM _ _ r,aB]
end
mutual
theorem tM(b:Nat):∀t:Tr,Q (gN b t)=fG t
 |.nd k c a=>by
  rw[gN,fG];split
  .exact ć b a
  .rw[qQ,zF b a];rfl
theorem zF(b:Nat):∀l:List Tr,Q (O9 b l)=S5 l
 |[]=>K
 |t::r=>by rw[O9,qQ,tM b t,zF _ r,S5]
theorem ć(b:Nat):∀l:List Tr,Q (oS b l)=S5 l+1
 |[]=>K
 |t::r=>by
  rw[oS,qQ,qQ,zF b r,tM _ t,S5];grind
end
mutual
theorem wM(a:Nat):∀t:Nt,Q (gL a t)=nT t
 |.ty none=>K
 |.ty (C t)=>by rw[gL,tM,nT]
 |.nd k c n b=>by rw[gL,FX a b,nT]
theorem FX(a:Nat):∀b:List Nt,Q (Y2 a b)=cK b
 |[]=>K
 |p::r=>by rw[Y2,qQ,wM a p,FX _ r,cK]
end
theorem yR(t):1<=fG t:=by
 cases t with
 |nd k b a=>grind[fG]
def Nd.fl(n:Nd):Nd:=⟨n.x,n.a,n.b,n.c,n.M,n.text,n.n,n.ty,0⟩
theorem ħ(k)(a)(n):V9 k a n.fl↔V9 k a n:=Iff.rfl
theorem Ī{k}{o}{n}{d e}(hs:bO k d)(p:Q d=Q e):V9 k e (bV k o n e):=by
 have m:k=1\/k=2\/k=3\/k=4\/k=5\/k=6\/k=7\/k=8\/k=9\/k=10\/k=11\/k=12\/k=13\/k=14\/k=15\/k=16\/k=17\/k=18\/k=19\/k=20\/k=21\/k=22\/k=23\/k=24\/k=25\/k=26:=by
  refine Classical.byContradiction λh=>?_;rw[bO,wY W,wY W,wY W,wY W,wY W,wY W,wY W,wY W,wY W,wY W,wY W,wY W,wY W,wY W]at hs;exact hs
 have f:∀{l:uZ},Q l=1->l=[l.getD 0 0]:=λ{l} h=>by match l,h with|[a],_=>rfl
 have g:∀{l:uZ},Q l=2->l=[l.getD 0 0,l.getD 1 0]:=λ{l} h=>by match l,h with|[a,b],_=>rfl
 have j:∀{l:uZ},Q l=3->l=[l.getD 0 0,l.getD 1 0,l.getD 2 0]:=λ{l} h=>by match l,h with|[a,b,c],_=>rfl
 obtain rfl|rfl|rfl|rfl|rfl|rfl|rfl|rfl|rfl|rfl|rfl|rfl|rfl|rfl|rfl|rfl|rfl|rfl|rfl|rfl|rfl|rfl|rfl|rfl|rfl|rfl:=m
 .have h:d=[]:=by simpa[bO]using hs
  show e=[];grind
 .have h:d=[]:=by simpa[bO]using hs
  show e=[];grind
 .have h:d=[]:=by simpa[bO]using hs
  show e=[];grind
 .have h:d=[]:=by simpa[bO]using hs
  show e=[];grind
 .have h:d=[]:=by simpa[bO]using hs
  show e=[];grind
 .obtain⟨a,r,h,_⟩:∃a r,d=a++[r,26]/\(∀x∈a,x=16)/\jM r:=by simpa[bO]using hs
  exact⟨K,K,K,η⟩
 .obtain⟨x,i,h,_⟩:∃x i,d=x::i/\aP x/\∀y∈i,aP y:=by grind[bO]
  exact⟨K,K,η⟩
 .obtain⟨x,h,_⟩:∃x,d=[x]/\aP x:=by grind[bO]
  exact f η
 .obtain⟨x,y,h,_⟩:∃x y,d=[x,y]/\aP x/\aP y:=by grind[bO]
  exact g η
 .rfl
 .rfl
 .obtain⟨x,y,h,_⟩:∃x y,d=[x,y]/\aP x/\aP y:=by grind[bO]
  exact g η
 .obtain⟨x,h,_⟩:∃x,d=[x]/\aP x:=by grind[bO]
  exact f η
 .obtain⟨x,h,_⟩:∃x,d=[x,0]/\aP x:=by grind[bO]
  exact g η
 .obtain⟨x,h,_⟩:∃x,d=[x]/\aP x:=by grind[bO]
  exact f η
 .obtain⟨x,h,_⟩:∃x,d=[x]/\jM x:=by grind[bO]
  exact f η
 .obtain⟨x,y,h,_⟩:∃x y,d=[x,y]/\jM x/\aP y:=by grind[bO]
  exact g η
 .obtain⟨x,h,_⟩:∃x,d=[x]/\aP x:=by grind[bO]
  exact f η
 .obtain⟨x,y,h,_⟩:∃x y,d=[x,y]/\aP x/\aP y:=by grind[bO]
  exact g η
 .obtain⟨x,y,z,h,_⟩:∃x y z,d=[x,y,z]/\aP x/\aP y/\aP z:=by grind[bO]
  exact j η
 .obtain⟨x,h,_⟩:∃x,d=[x]/\aP x:=by grind[bO]
  exact f η
 .obtain⟨x,z,h,_⟩:∃x z,d=[x,26,z]/\aP x/\(z=26\/z=-1):=by grind[bO]
  exact j η
 .obtain⟨x,h,_⟩:∃x,d=[x,26]/\aP x:=by grind[bO]
  exact g η
 .obtain⟨x,h,_⟩:∃x,d=[x]/\aP x:=by grind[bO]
  exact f η
 .obtain⟨x,h,_⟩:∃x,d=[x]/\aP x:=by grind[bO]
  exact f η
 .rfl
theorem Vj(l)(h:(aY l).1=1):S6 (aY l).2.1:=by
 unfold aY at h⊢;cases b:l.head? with
 |none=>grind
 |some c=>
  rw[b]at h;simp only at h⊢;cases g:fP c.toNat
  .rw[g]at h;cases f:iP c.toNat
   .grind[text,rK]
   .rw[f]at h;simp at h⊢;unfold name at h⊢;split at h
    .omega
    .rename_i i;rw[wY i];cases m:tX<|l.take<|sp iA l
     .cases l with
      |nil=>grind
      |cons e r=>
       simp at b;subst b;have k:iA e.toNat=τ:=by simp[iA,f]
       have hs:sp iA (e::r)=sp iA r+1:=by simp[sp,k]
       refine⟨η,?_,m,λd a=>?_,λd a=>?_⟩
       .grind
       .simp only at a;obtain⟨j,n,rfl⟩:=List.mem_iff_getElem.1 a;grind[List.length_take,IJ,iA]
       grind
     grind
  grind[qD]
theorem WB:∀(f) (l) (a) (b),(∀t∈b,t.x=1->S6 t.text)->∀t∈(J3 f l a b).1,t.x=1->S6 t.text
 |0,l,a,b,_=>by simp[J3]
 |f+1,l,a,b,h=>by
  simp only[J3];split
  .grind
  split
  .simp
  split
  .simp
  refine WB f l _ _ λt d c=>?_;grind[Vj]
def uu(l):qR (O8 l).1:=by
 intro i a;grind[O8,tk,List.getD,mQ,WB,BS]
def lB(d:Nat)(s:St)(r:Sp):Option (Out Int):=A8 (r.jd d s []) λa l=>aE a ⟨26,0,0,0,l,[],0,-1,0⟩
def dZ(l:bZ):(Int×Int) ⊕ (List Nd×List Ty)->Prop
 |.inl (b,p)=>b≠0/\(((O8 l).2.1=b/\((O8 l).2.2)=p)\/((O8 l).2.1=0/\(Ev (O8 l).1 (lB 0 ⟨0,[],[]⟩) (.fail b p)\/∃a x,Ev (O8 l).1 (lB 0 ⟨0,[],[]⟩) (.ok a x)/\(1200<Q a.N\/300<Q a.T)/\b=2/\p=0)))
 |.inr (N,T)=>(O8 l).2.1=0/\∃a x,Ev (O8 l).1 (lB 0 ⟨0,[],[]⟩) (.ok a x)/\Q a.N<=1200/\Q a.T<=300/\a.N=N/\a.T=T
theorem Bt{l}{a}{b}(h:dZ l<|.inl a)(k:dZ l<|.inr b):False:=by
 obtain⟨d,p⟩:=a;obtain⟨N,T⟩:=b;obtain⟨e,h⟩:=h;obtain⟨k1,i,j,k,k3,g,_⟩:=k;obtain⟨c,f⟩|⟨c,h⟩:=h
 .omega
 .obtain h|⟨s,x,h,h3,_⟩:=h
  .cases h.one k
  .have:=h.one k;grind
theorem dZ.one{l}{a b}(h:dZ l a)(k:dZ l b):a=b:=by
 obtain⟨i,p⟩|⟨N,T⟩:=a<;>obtain⟨j,q⟩|⟨f,g⟩:=b
 .obtain⟨m,h⟩:=h;obtain⟨o,k⟩:=k;obtain⟨c,n⟩|⟨c,h⟩:=h<;>obtain⟨k1,k2⟩|⟨k1,k⟩:=k
  .grind
  .omega
  .omega
  .obtain h|⟨s,x,h,h3,rfl,rfl⟩:=h<;>obtain k|⟨d,e,k,k3,rfl,rfl⟩:=k
   .have:=h.one k;grind
   .cases h.one k
   .cases h.one k
   .rfl
 .grind[absurd,Bt]
 .grind[absurd,Bt]
 .obtain⟨_,s,x,h,_,_,rfl,rfl⟩:=h;obtain⟨_,d,e,k,_,_,rfl,rfl⟩:=k;have:=h.one k;grind
theorem Er(L):∀f d s a b l,(gW L f).jd d s a=C (.ok b l)->(tk L b.i).x=6
 |0,_,_,_,_,_,h=>by cases h
 |f+1,d,s,a,b,l,h=>by
  change (if (tk L s.i).x=6 then C (.ok s a) else A8 ((gW L f).gy d s) λs x=>(gW L f).jd d s<|a++[x])=_ at h;split at h
  .grind
  .unfold A8 at h;split at h
   .grind
   .grind
   .exact Er L f _ _ _ _ _ h
def D0e{L}{d}{s a}{x}(h:Ev L (lB d s)<|.ok a x):(tk L a.i).x=6:=by
 obtain⟨f,b⟩:=h;have h:=b f<|vQ _;unfold lB A8 at h;grind[Er,aE,zQ,Out.ok.injEq]
def BI(x:bZ):Prop:=x≠[]/\Q x<=9/\∀c∈x,fP c.toNat=τ
def IV(L:List Tk):Prop:=∀i,(tk L i).x=3->BI (tk L i).text
theorem Vm(l)(h:(aY l).1=3):BI (aY l).2.1:=by
 unfold aY at h⊢;cases b:l.head? with
 |none=>grind
 |some c=>
  rw[b]at h;simp only at h⊢;cases d:fP c.toNat with
  |true=>
   rw[d]at h;simp at h⊢;unfold qD at h⊢;split at h
   .omega
   .rename_i e;rw[wY e];cases l with
    |nil=>grind
    |cons a r=>
     simp at b;subst b;have i:1<=sp fP (a::r):=by have:=yA fP (a::r) 0 θ (wQ _) d;omega
     refine⟨?_,?_,?_⟩
     .grind[List.length_take]
     .grind
     .intro x f;obtain⟨k,g,rfl⟩:=List.getElem_of_mem f;rw[List.getElem_take];grind[IJ]
  |false=>
   grind[name,text,rK]
theorem WD:∀(f) (l) (a) (b),(∀t∈b,t.x=3->BI t.text)->∀t∈(J3 f l a b).1,t.x=3->BI t.text
 |0,l,a,b,_=>by simp[J3]
 |f+1,l,a,b,h=>by
  simp only[J3];split
  .grind
  split
  .simp
  split
  .simp
  refine WD f l _ _ λt d c=>?_;grind[Vm]
def VD(l):IV (O8 l).1:=by
 intro i a;grind[O8,tk,List.getD,mQ,WD,BS]
def Jn:∀(l:bZ) (a),(∀c∈l,fP c.toNat=τ)->∃n,Lib.decFrom a l=C n/\(l.foldl (λn c=>10*n+(c.toNat:Int)-48) a)=n
 |[],a,_=>⟨a,K,K⟩
 |c::r,a,h=>by
  have b:=h c θ;have f:48<=c.toNat/\c.toNat<=57:=by
   unfold fP at b;simpa using b
  obtain⟨n,d,e⟩:=Jn r (a*10+(c.toNat-48)) (λx g=>h x η);grind[Lib.decFrom,Lib.digitVal]
def Zq(x)(h:BI x):Lib.atoi x=C (qA x):=by
 obtain⟨e,_,d⟩:=h;cases x with
 |nil=>grind
 |cons c r=>
  obtain⟨n,f,g⟩:=Jn (c::r) 0 d;have a:=d c θ;unfold fP at a;have b:48<=c.toNat/\c.toNat<=57:=by simpa using a
  have i:(c==45)=κ:=by
   rw[beq_eq_false_iff_ne];rintro rfl;simp at b
  have j:(c==43)=κ:=by
   rw[beq_eq_false_iff_ne];rintro rfl;simp at b
  grind[qA,Lib.atoi,Lib.decNat]
/-!### Behind others -/
def kK(b:Int)(t:Ty):Ty:=⟨t.x,t.eo.map λp=>(p.1,p.2+b),t.M.map λx=>x+b,t.fh+b⟩
def eJ.mv{t}{i}(h:eJ t i)(b:Nat):eJ (kK b t) (b+i):=by
 obtain⟨a,c,d,e⟩|⟨a,c,d,e⟩|⟨a,c,d,e,j⟩|⟨a,c,d,e,j⟩|⟨a,c,d,e⟩:=h
 .exact .inl ⟨a,c,by grind[kK],by grind[kK]⟩
 .refine .inr<|.inl ⟨a,by grind[kK],?_,λp k=>?_⟩
  .grind[kK]
  .obtain⟨q,g,rfl⟩:=kZ.1 k;grind
 .exact .inr (.inr<|.inl ⟨a,by grind[kK],by grind[kK],by show 0<=t.fh+b;omega,by show t.fh+(b:Int)<((b+i:Nat):Int);omega⟩)
 .refine .inr (.inr<|.inr<|.inl ⟨a,by grind[kK],by show 0<=t.fh+b;omega,by show t.fh+(b:Int)<((b+i:Nat):Int);omega,λx f=>?_⟩);obtain⟨q,g,rfl⟩:=kZ.1 f;grind
 .refine .inr (.inr<|.inr<|.inr ⟨a,by grind[kK],by grind[kK],λx f=>?_⟩);obtain⟨q,g,rfl⟩:=kZ.1 f;grind
def nU(T X:List Ty):List Ty:=T++X.map (kK (Q T))
def EW(a b:bZ):Bool:=ê<|É a b<0
theorem Cf:∀a:bZ,É a a=0
 |[]=>K
 |a::b=>by
  unfold É;rw[wY<|UInt8.lt_irrefl a,wY<|UInt8.lt_irrefl a];exact Cf b
theorem XC:∀a b:bZ,É a b=0->a=b
 |[],[],_=>K
 |[],_::_,h=>by grind[É]
 |_::_,[],h=>by grind[É]
 |a::c,b::d,h=>by
  unfold É at h;split at h
  .omega
  split at h
  .omega
  rename_i e f;have:=UInt8.le_antisymm (UInt8.not_lt.1 f)<|UInt8.not_lt.1 e;rw[this,XC c d h]
theorem xE:∀a b:bZ,É b a=-É a b
 |[],[]=>K
 |[],_::_=>K
 |_::_,[]=>K
 |a::c,b::d=>by
  unfold É;by_cases e:a<b
  .grind
  .by_cases f:b<a
   .grind
   .simp only[e,f,if_false];exact xE c d
theorem JC:∀a b c:bZ,É a b<=0->É b c<=0->É a c<=0/\(É a b<0\/É b c<0->É a c<0)
 |[],[],c,_,h=>by
  grind[É]
 |[],_::_,[],_,h=>by grind[É]
 |[],_::_,_::_,_,_=>by simp[É]
 |_::_,[],_,h,_=>by grind[É]
 |_::_,_::_,[],_,h=>by grind[É]
 |a::d,b::e,c::f,g,i=>by
  have j:=JC d e f;grind[É]
theorem ġ(n c)(x y)(a b):F7 (.nd 9 n<|x::a) (.nd 9 c<|y::b)=(ê (Q a<=Q b)&&((a.zip b).all λp=>F7 p.1 p.2||F7 p.2 p.1)&&F7 x y):=by rw[vE];rfl
def mR{c:Type}(a b:bZ×c):Bool:=!EW b.1 a.1
def nA{a}(l:List<|bZ×a):List (bZ×a):=l.mergeSort mR
def A1d{d}(a b c:bZ×d)(e:mR a b=τ)(f:mR b c=τ):mR a c=τ:=by
 grind[mR,EW,Bool.not_eq_true',decide_eq_false_iff_not,Int.not_lt,xE,JC]
def A2d{c}(a b:bZ×c):(mR a b||mR b a)=τ:=by
 simp only[mR,EW,Bool.or_eq_true,Bool.not_eq_true',decide_eq_false_iff_not,Int.not_lt];grind[xE]
theorem Y3{a}(l:List<|bZ×a):(nA l).Perm l:=List.mergeSort_perm l mR
def QZ{c}(l:List<|bZ×c):(nA l).Pairwise (λa b=>mR a b=τ):=List.pairwise_mergeSort A1d A2d l
theorem QH{n}:∀(l c:List<|bZ×n),l.Perm c->(l.map (·.1)).Nodup->l.Pairwise (λa b=>mR a b=τ)->c.Pairwise (λa b=>mR a b=τ)->l=c
 |[],c,d,_,_,_=>(List.nil_perm.1 d).symm
 |x::l,[],d,_,_,_=>ù
 |x::l,y::c,d,p,f,g=>by
  have j:x∈y::c:=d.subset θ;have m:y∈x::l:=d.symm.subset θ;have k:x=y:=by
   obtain h|h:=jW.1 j
   .omega
   .obtain e|e:=jW.1 m
    .grind
    .have a1:=(List.pairwise_cons.1 f).1 y e;have i:=(List.pairwise_cons.1 g).1 x h;simp only[mR,EW,Bool.not_eq_true',decide_eq_false_iff_not,Int.not_lt]at a1 i;have o:=xE x.1 y.1;grind[XC]
  subst k;rw[QH l c (List.perm_cons x|>.1 d) η (List.pairwise_cons.1 f).2 (List.pairwise_cons.1 g).2]
mutual
def iO:Tr->Tr
 |.nd k b a=>if k=7 then .nd 7 ((nA<|b.zip<|uQ a).map (·.1)) ((nA<|b.zip<|uQ a).map (·.2)) else .nd k b<|uQ a
def uQ:List Tr->List Tr
 |[]=>[]
 |t::r=>iO t::uQ r
end
theorem CK:∀a,uQ a=a.map iO
 |[]=>K
 |t::r=>by rw[uQ,CK r];rfl
def key(t:Tr):bZ:=bU<|iO t
theorem D5f(t):(iO t).k=t.k:=by
 obtain⟨k,b,a⟩:=t;rw[iO];split
 .rename_i h;rw[h];rfl
 .rfl
theorem yC{k}{b}{a}(h:k≠7):iO (.nd k b a)=.nd k b (a.map iO):=by rw[iO,wY h,CK]
/-!### Unions -/
mutual
def flat:Tr->List Tr
 |.nd k b a=>if k=10 then J8 a else [.nd k b a]
def J8:List Tr->List Tr
 |[]=>[]
 |t::r=>flat t++J8 r
end
def dd:List Tr->List Tr->List Tr
 |a,[]=>a
 |a,t::r=>if a.any (λu=>key u==key t) then dd a r else dd (a++[t]) r
def mE(l:List Tr):Tr:=
 if (J8 l).any (λt=>t.k==5) then .nd 5 [] []
 else match dd [] (J8 l) with
  |[]=>.nd 5 [] []
  |[t]=>t
  |t::u::r=>.nd 10 []<|t::u::r
theorem QQ:∀(l a) (x),x∈a->x∈dd a l
 |[],a,x,h=>h
 |t::r,a,x,h=>by
  rw[dd];split
  .exact QQ r a x h
  .exact QQ r _ x η
def FY:∀(l a) (x),x∈l->∃u∈dd a l,key u=key x
 |t::r,a,x,h=>by
  rw[dd];obtain rfl|h:=jW.1 h
  .grind[QQ]
  .split
   .exact FY r a x h
   .exact FY r _ x h
def GA:∀(l a) (x),x∈dd a l->x∈a\/x∈l
 |[],a,x,h=>.inl h
 |t::r,a,x,h=>by
  rw[dd]at h;split at h
  .obtain h|h:=GA r a x h<;>grind
  .obtain h|h:=GA r _ x h<;>grind
theorem MD:∀{l} {x},x∈J8 l->∃t∈l,x∈flat t
 |t::r,x,h=>by
  rw[J8,qW]at h;obtain h|h:=h
  .grind
  .obtain⟨u,a,b⟩:=MD h;grind
theorem ĥ(t)(h:Wf t):∀x∈flat t,Wf x/\x.k≠10:=by
 induction h with
 |plain k g i=>
  intro x e;rw[flat,wY W]at e;simp at e;subst e;exact⟨Wf.plain k g i,by grind[Tr.k]⟩
 |obj j f a b c d _=>
  intro x e;rw[flat,wY ζ]at e;simp at e;subst e;exact⟨Wf.obj j f a b c d,by simp[Tr.k]⟩
 |arr t a _=>
  intro x e;rw[flat,wY ζ]at e;simp at e;subst e;exact⟨Wf.arr t a,by simp[Tr.k]⟩
 |fn t l a b _ _=>
  intro x e;rw[flat,wY ζ]at e;simp at e;subst e;exact⟨Wf.fn t l a b,by simp[Tr.k]⟩
 |uni f _ _ m=>
  intro x e;rw[flat,yY K]at e;grind[MD]
def Iq:Wf (.nd 5 [] []):=Wf.plain 5 ζ ζ
def Ŧ(l)(h:∀t∈l,Wf t):Wf (mE l):=by
 have b:∀x∈dd [] (J8 l),Wf x:=by
  intro x a;obtain a|a:=GA _ _ x a
  .grind
  .grind[MD,ĥ]
 unfold mE;split
 .exact Iq
 .split
  .exact Iq
  .grind
  .rename_i t u r e;exact Wf.uni _ θ (λx a=>b x η)
/-!### Tags -/
mutual
theorem KK:∀t:Tr,jJ t<128
 |.nd k b a=>by
  rw[jJ];split
  .exact TU a
  grind[uO]
theorem TU:∀l:List Tr,lN l<128
 |[]=>by simp[lN]
 |t::r=>by
  rw[lN];exact Nat.or_lt_two_pow (n:=7) (KK t)<|TU r
end
theorem WS:∀a:List<|bZ×Tr,vK (a.map (·.1)) (a.map (·.2))=a.flatMap λp=>[32]++p.1++[58,32]++bU p.2++[59]
 |[]=>K
 |p::r=>by
  rw[bY,bY,vK,List.headD_cons,List.tail_cons,WS r,List.flatMap_cons]
theorem Ĩ{a b}(g:a->b)(l:List<|bZ×a)(c:(l.map (·.1)).Nodup):nA (l.map λp=>(p.1,g p.2))=(nA l).map λp=>(p.1,g p.2):=by
 refine(QH _ _ (((Y3 l).map _).trans (Y3 _).symm) ?_ ?_<|QZ _).symm
 .grind[Y3]
 .rw[List.pairwise_map];exact QZ l
theorem B3e(a:List<|bZ×Int)(f:Int->Tr)(b:(a.map (·.1)).Nodup):iO (.nd 7 (a.map (·.1))<|a.map λp=>f p.2)=.nd 7 ((nA a).map (·.1)) ((nA a).map λp=>iO<|f p.2):=by
 have e:(a.map (·.1)).zip (uQ<|a.map λp=>f p.2)=a.map λp=>(p.1,(λz=>iO<|f z) p.2):=by
  rw[CK,List.map_map];induction a with
  |nil=>rfl
  |cons p r c=>
   grind
 rw[iO,yY K,e,Ĩ (λz=>iO<|f z) a b,List.map_map,List.map_map];rfl
theorem ZR(a:List<|bZ×Int)(f:Int->Tr):bU (.nd 7 (a.map (·.1))<|a.map λp=>f p.2)=[123]++(a.flatMap λp=>[32]++p.1++[58,32]++bU (f p.2)++[59])++(if Q a=0 then [] else [32])++[125]:=by
 have e:=WS<|a.map λp=>(p.1,f p.2);rw[List.map_map,List.map_map]at e;have b:vK (a.map (·.1)) (a.map λp=>f p.2)=a.flatMap λp=>[32]++p.1++[58,32]++bU (f p.2)++[59]:=by
  refine Eq.trans e ?_;rw[List.flatMap_map]
 grind[bU]
theorem JG{a}(l:List<|bZ×a):Q (nA l)=Q l:=(Y3 l).length_eq
def ϊ(L:List Tk)(t:Ty):Prop:=Q t.eo<=Q L/\Q t.M<=Q L/\(t.x=8\/t.x=9\/t.fh=0)
def Qs(L:List Tk)(s:St):Prop:=s.i<=Q L/\∀t∈s.T,ϊ L t
structure QF(L:List Tk)(f:Nat):Prop where
 typ:∀d s s' x,Qs L s->(gW L f).typ d s=C (.ok s' x)->Qs L s'/\s.i<s'.i
 union:∀d s s' x,Qs L s->(gW L f).union d s=C (.ok s' x)->Qs L s'/\s.i<s'.i
 gp:∀d s acc s' l,Qs L s->Q acc<=s.i->(gW L f).gp d s acc=C (.ok s' l)->Qs L s'/\s.i<=s'.i/\Q l<=s'.i
 gd:∀d s s' x,Qs L s->(gW L f).gd d s=C (.ok s' x)->Qs L s'/\s.i<s'.i
 jl:∀d s fs s' x,Qs L s->Q fs<=s.i->(gW L f).jl d s fs=C (.ok s' x)->Qs L s'/\s.i<s'.i
 kv:∀d s s' x,Qs L s->(gW L f).kv d s=C (.ok s' x)->Qs L s'/\s.i<s'.i
 M:∀d s nm acc s' l,Qs L s->Q acc<=s.i->(gW L f).M .typ [41] d s nm acc=C (.ok s' l)->Qs L s'/\s.i<s'.i/\Q l<=s'.i
def lP(a:List bZ):Nat:=(a.map λn=>Q n+8).sum
mutual
def wg:Tr->Nat
 |.nd _ b a=>16+lP b+dW a
def dW:List Tr->Nat
 |[]=>0
 |t::r=>wg t+5+dW r
end
theorem TM:∀l,dW l=(l.map λt=>wg t+5).sum
 |[]=>K
 |t::r=>by rw[dW,TM r,bY,List.sum_cons]
theorem Aa(l a):dW (l++a)=dW l+dW a:=by grind[TM,zY]
theorem A1e(t):dW [t]=wg t+5:=Ω
def QL:∀{l} {x},x∈l->wg x+5<=dW l
 |t::r,x,h=>by
  rw[dW];obtain rfl|h:=jW.1 h
  .omega
  .have:=QL h;omega
theorem WL{l a:List Nat}(h:l.Perm a):l.sum=a.sum:=η
theorem ż{l a}(h:l.Perm a):dW l=dW a:=by grind[TM,WL]
theorem vo{l a}(h:l.Perm a):lP l=lP a:=WL<|h.map _
theorem Kg:∀(r) (b),(∀x∈r,Q (bU x)<=wg x)->Q (qV b r)<=dW r
 |[],_,_=>by simp[qV]
 |t::r,b,h=>by
  have a:=h t θ;have c:=Kg r κ (λx d=>h x η);rw[qV,dW];grind
theorem Kk:∀(r) (b),(∀x∈r,Q (bU x)<=wg x)->Q (pP b r)<=dW r
 |[],_,_=>by simp[pP]
 |t::r,b,h=>by
  have a:=h t θ;have c:=Kk r κ (λx d=>h x η);rw[pP,dW];grind
def Kh:∀(r) (a),(∀x∈r,Q (bU x)<=wg x)->Q (vK a r)<=lP a+dW r
 |[],_,_=>by simp[vK]
 |t::r,a,h=>by
  have b:=h t θ;have c:=Kh r a.tail (λx d=>h x η);rw[vK,dW];simp;cases a<;>grind[List.headD_nil,List.tail_nil,xQ,lP,List.headD_cons,List.tail_cons]
theorem Yh(k):Q (Z6 k)<=7:=by
 unfold Z6;split
 .simp
 split
 .simp
 split
 .simp
 split
 .simp
 split<;>simp
def Ye(t):Q (bU t)<=wg t:=by
 induction t using Tr.ind with
 |h k c a b=>
  rw[bU,wg];split
  .have d:=Kh a c b;grind
  split
  .cases a<;>grind[UF,qQ,jQ,xQ,dW]
  split
  .cases a<;>grind[JH,Kg,qQ,jQ,xQ,dW]
  grind[Kk,Yh]
theorem XI:∀(a:List bZ) (l:List Tr),lP ((a.zip l).map (·.1))<=lP a
 |[],_=>θ
 |_::_,[]=>by simp[lP]
 |n::a,t::l=>by
  have:=XI a l;unfold lP at*;simp_all
theorem XJ:∀(a:List bZ) (l:List Tr),dW ((a.zip l).map (·.2))<=dW l
 |[],_=>by simp[dW]
 |_::_,[]=>θ
 |n::a,t::l=>by
  have:=XJ a l;grind[List.zip_cons_cons,bY,dW]
def Ai:∀(l),(∀x∈l,wg (iO x)<=wg x)->dW (l.map iO)<=dW l
 |[],_=>θ
 |t::r,h=>by
  have a:=h t θ;have b:=Ai r (λx c=>h x η);grind[bY,dW]
def Yo(t):wg (iO t)<=wg t:=by
 induction t using Tr.ind with
 |h k e c b=>
  have d:=Ai c b;by_cases a:k=7
  .subst a;rw[iO,yY K,wg,wg];grind[Y3,uQ,vo,ż,XI,XJ,CK]
  grind[yC,wg]
theorem GQ:∀(l),(∀x∈l,dW (flat x)<=wg x+5)->dW (J8 l)<=dW l
 |[],_=>by grind[J8,dW]
 |t::r,h=>by
  have a:=h t θ;have b:=GQ r (λx c=>h x η);grind[J8,Aa,dW]
def Am(t):dW (flat t)<=wg t+5:=by
 induction t using Tr.ind with
 |h k c b a=>
  grind[flat,GQ,wg,A1e]
def eZ(t:Tr)(a:Bool):Bool:=ê (t.k=10)||(ê (t.k=9)&&!a)
mutual
def kD:Tr->Nat
 |.nd k _ a=>if k=10 then wL a else nJ a
def nJ:List Tr->Nat
 |[]=>0
 |t::r=>max (kD t+1)<|nJ r
def wL:List Tr->Nat
 |[]=>0
 |t::r=>max (kD t+(eZ t<|ê<|Q r=0).toNat)<|wL r
end
def yS(t)(a):Q (one t a)=Q (fV t)+2*(eZ t a).toNat:=by
 grind[one,eZ]
theorem WQ(a)(t)(r):Q (tY a<|t::r)=(if a then 0 else 1)+Q (one t<|ê<|Q r=0)+Q (tY κ r):=by
 grind[tY,sg,one,ê,qQ]
def jD(s:St)(t:Tr)(a:St)(x:Int):Prop:=a.N=s.N/\a.T=s.T++gN (Q s.T) t/\x=((Q s.T+fG t:Nat))-1
def fC(s:St)(a:List Tr)(b:St)(l:uZ):Prop:=b.N=s.N/\b.T=s.T++O9 (Q s.T) a/\l=eW (Q s.T) a
theorem fC.nil(s):fC s [] s []:=⟨K,by simp[O9],K⟩
def fC.cons{s a d}{t}{x}{c}{l}(h:jD s t a x)(k:fC a c d l):fC s (t::c) d (x::l):=by
 have b:Q a.T=Q s.T+fG t:=by rw[h.2.1,qQ,tM]
 refine⟨k.1.trans h.1,?_,?_⟩
 .rw[k.2.1,b,h.2.1,O9,qZ]
 .rw[k.2.2,b,h.2.2,eW]
def jD.mh{s b c}{t}{x}{a}{l}(h:jD s t b x)(k:fC b a c l):fC s (t::a) c (x::l):=fC.cons h k
theorem fC.len{s b}{a}{l}(h:fC s a b l):Q b.T=Q s.T+S5 a:=by rw[h.2.1,qQ,zF]
theorem jD.len{s a}{t}{x}(h:jD s t a x):Q a.T=Q s.T+fG t:=by rw[h.2.1,qQ,tM]
theorem JU:∀(a) (b),Q (eW b a)=Q a
 |[],_=>K
 |t::r,b=>by rw[eW,jQ,jQ,JU r]
theorem UA(b)(k)(c)(a)(h:k≠9):gN b (.nd k c a)=O9 b a++[kH k c<|eW b a]:=by grind[gN]
def fC.row{s a}{b}{l}(h:fC s b a l)(k)(c)(d:k≠9)(t)(e:t=kH k c l):jD s (.nd k c b) ⟨a.i,a.N,a.T++[t]⟩ (Q a.T):=by
 refine⟨h.1,?_,?_⟩
 .show a.T++[t]=_;rw[UA _ _ _ _ d,<-h.2.2,e,h.2.1,qZ]
 .rw[h.len,fG];omega
structure YF(L:List Tk)(r:Sp):Prop where
 typ:∀d s s' x,r.typ d s=C (.ok s' x)->∃t,Wf t/\jD s t s' x/\Q (fV t)+s.i<=s'.i/\kD t+1<=20-d/\aL L s'.i [[124]]=κ
 union:∀d s s' x,r.union d s=C (.ok s' x)->∃t,Wf t/\jD s t s' x/\Q (fV t)+s.i<=s'.i/\kD t<=20-d/\aL L s'.i [[124]]=κ
 gp:∀d s acc s' l,r.gp d s acc=C (.ok s' l)->∃ks l',l=acc++l'/\(∀x∈ks,Wf x)/\fC s ks s' l'/\Q (tY κ ks)+s.i<=s'.i/\wL ks<=20-d/\aL L s'.i [[124]]=κ/\(aL L s.i [[124]]=τ↔ks≠[])
 gd:∀d s s' x,r.gd d s=C (.ok s' x)->∃t,Wf t/\jD s t s' x/\Q (one t<|!(aL L s'.i [[124]]))+s.i<=s'.i/\kD t+(eZ t<|!(aL L s'.i [[124]])).toNat<=20-d
 jl:∀d s fs s' x,(fs.map (·.1)).Nodup->r.jl d s fs=C (.ok s' x)->∃ns ks,Q ns=Q ks/\(fs.map (·.1)++ns).Nodup/\(∀n∈ns,S6 n)/\(∀x∈ks,Wf x)/\s'.N=s.N/\
  s'.T=s.T++O9 (Q s.T) ks++[⟨7,fs++ns.zip (eW (Q s.T) ks),[],0⟩]/\x=((Q s.T+S5 ks:Nat):Int)/\Q (qU ns ks)+1+s.i<=s'.i/\nJ ks<=20-d
 kv:∀d s s' x,r.kv d s=C (.ok s' x)->∃t,Wf t/\jD s t s' x/\Q (one t<|!(aL L s'.i [[124]]))+s.i<=s'.i+1/\kD t+(eZ t<|!(aL L s'.i [[124]])).toNat<=20-d
 M:∀d s nm acc s' l,r.M .typ [41] d s nm acc=C (.ok s' l)->∃ks l',l=acc++l'/\(∀x∈ks,Wf x)/\fC s ks s' l'/\Q (Z8 (ê<|Q acc=0) ks)+1+s.i<=s'.i/\nJ ks<=20-d
def fW{L}{s c}{b}{a}(h:aO L s b=C (.ok c a)):(tk L s.i).x=1/\a=(tk L s.i).text/\a ∉ b/\c=s.nx:=by
 unfold aO at h;grind[bF,has]
def IU{L}{b}{d}{s a}{x}{p}(h:aS L b d s p=C (.ok a x)):b=τ/\d<20/\p (d+1) s=C (.ok a x):=by
 grind[aS,bF]
def S7{d}{s c}{a b:d}(h:C (Out.ok s a)=C (.ok c b)):s=c/\a=b:=η
section
variable{L:List Tk}{r:Sp}
def Zh(i:YF L r):∀d s a x,(step L r).typ d s=C (.ok a x)->∃t,Wf t/\jD s t a x/\Q (fV t)+s.i<=a.i/\kD t+1<=20-d/\aL L a.i [[124]]=κ:=by
 intro d s a x h;obtain⟨_,j,h⟩:=IU h;obtain⟨t,b,c,e,f,g⟩:=i.union _ _ _ _ h;grind
def D4d(i:YF L r):∀d s b x,(step L r).union d s=C (.ok b x)->∃t,Wf t/\jD s t b x/\Q (fV t)+s.i<=b.i/\kD t<=20-d/\aL L b.i [[124]]=κ:=by
 intro d s b x h;obtain⟨q,y,m,f⟩:=B9 h;obtain⟨t,w1,u,g,c⟩:=i.gd _ _ _ _ m;have A:=yS t<|!(aL L q.i [[124]]);split at f
 .rename_i p;obtain⟨H,l,n,o⟩:=B9 f;obtain⟨rfl,rfl⟩:=BU o;obtain⟨a,D,rfl,w2,v,F,w,j,G⟩:=i.gp _ _ _ _ _ n;have z:1<=Q a:=by
   cases a with
   |nil=>grind
   |cons _ _=>simp
  have k:ê (Q a=0)=κ:=decide_eq_false W;rw[p]at g c;simp at g c;refine⟨.nd 10 []<|t::a,Wf.uni _ η λx B=>?_,(u.mh v).row 10 [] ζ _ K,?_,?_,j⟩
  .grind
  .have e:fV (.nd 10 []<|t::a)=tY τ (t::a):=by simp[fV]
   grind[WQ]
  .rw[kD,yY K,wL,k];omega
 grind
def Ti(i:YF L r):∀d s c b l,(step L r).gp d s c=C (.ok b l)->∃a e,l=c++e/\(∀x∈a,Wf x)/\fC s a b e/\Q (tY κ a)+s.i<=b.i/\wL a<=20-d/\aL L b.i [[124]]=κ/\(aL L s.i [[124]]=τ↔a≠[]):=by
 intro d s c b l h;have h:(if aL L s.i [[124]] then A8 (r.gd d s.nx) λs x=>r.gp d s (c++[x]) else C<|.ok s c)=C (.ok b l):=h;split at h
 .rename_i k;obtain⟨g,y,o,p⟩:=B9 h;obtain⟨t,w1,j,f,m⟩:=i.gd _ _ _ _ o;obtain⟨a,e,rfl,w2,v,B,w,n,D⟩:=i.gp _ _ _ _ _ p;have j:=j;have q:(!(aL L g.i [[124]]))=ê (Q a=0):=by
   cases z:aL L g.i [[124]]
   .grind
   .grind
  rw[q]at f m;have f:Q (one t<|ê<|Q a=0)+(s.i+1)<=g.i:=f;refine⟨t::a,y::e,θ,λx A=>?_,j.mh v,?_,?_,n,η⟩
  .grind
  .grind[WQ]
  grind[wL]
 .rename_i k;obtain⟨rfl,rfl⟩:=S7 h;have u:aL L s.i [[124]]=κ:=by simpa using k
  exact⟨[],[],θ,θ,fC.nil s,by simp[tY],by simp[wL],u,η⟩
def Td(i:YF L r):∀d s a x,(step L r).gd d s=C (.ok a x)->∃t,Wf t/\jD s t a x/\Q (one t<|!(aL L a.i [[124]]))+s.i<=a.i/\kD t+(eZ t<|!(aL L a.i [[124]])).toNat<=20-d:=by
 intro d s a x h;have h:(if aL L s.i [[123]] then r.jl d s.nx []
  else if aL L s.i [[91]] then A8 (r.typ d s.nx) λs x=>A8 (aC L s [93]) λs _=>bQ s ⟨8,[],[],x⟩
  else if aL L s.i [[40]] then r.kv d s.nx
  else if (tk L s.i).x=2/\I1 (tk L s.i).text≠0 then bQ s.nx ⟨I1 (tk L s.i).text,[],[],0⟩ else bF L s.i 1)=C (.ok a x):=h;split at h
 .obtain⟨c,b,D,S,F,H,z,A,M,p,R⟩:=i.jl _ _ _ _ _ θ h;have p:Q (qU c b)+1+(s.i+1)<=a.i:=p;have q:=yS (.nd 7 c b)<|!(aL L a.i [[124]]);have o:eZ (.nd 7 c b) (!(aL L a.i [[124]]))=κ:=by simp[eZ,Tr.k]
  have u:Q (fV<|.nd 7 c b)=Q (qU c b)+2:=by simp[fV]
  refine⟨.nd 7 c b,Wf.obj c b D η F H,⟨z,?_,?_⟩,?_,?_⟩
  .rw[A,UA _ _ _ _ ζ,qZ];rfl
  .rw[M,fG];show ((Q s.T+S5 b:Nat):Int)=_;omega
  .grind
  simp_all[kD,wY]
 split at h
 .obtain⟨e,y,j,l⟩:=B9 h;obtain⟨T,_,v,w⟩:=B9 l;obtain⟨_,rfl⟩:=J9 v;obtain⟨rfl,rfl⟩:=BU w;obtain⟨t,w1,g,f,n,P⟩:=i.typ _ _ _ _ j;have g:=g;have f:Q (fV t)+(s.i+1)<=e.i:=f;have q:=yS (.nd 8 [] [t])<|!(aL L (e.i+1) [[124]]);have o:eZ (.nd 8 [] [t]) (!(aL L (e.i+1) [[124]]))=κ:=by simp[eZ,Tr.k]
  have u:Q (fV<|.nd 8 [] [t])=Q (fV t)+2:=by simp[fV,Kc]
  have N:=g.mh<|fC.nil e;refine⟨.nd 8 [] [t],Wf.arr t w1,N.row 8 [] ζ _ K,?_,?_⟩
  .show Q (one (.nd 8 [] [t])<|!(aL L (e.i+1) [[124]]))+s.i<=e.i+1;grind
  .show kD (.nd 8 [] [t])+(eZ (.nd 8 [] [t])<|!(aL L (e.i+1) [[124]])).toNat<=_;simp_all[kD,wY,nJ,Bool.toNat_false]
 split at h
 .obtain⟨t,w1,g,f,n⟩:=i.kv _ _ _ _ h;have f:Q (one t<|!(aL L a.i [[124]]))+(s.i+1)<=a.i+1:=f;exact⟨t,w1,g,W,n⟩
 split at h
 .rename_i B;obtain⟨rfl,rfl⟩:=BU h;have m:=A2b _ B.2;generalize I1 (tk L s.i).text=k at m;have q:=yS (.nd k [] [])<|!(aL L (s.i+1) [[124]]);have o:eZ (.nd k [] []) (!(aL L (s.i+1) [[124]]))=κ:=by
   have j:¬k=10:=W;have l:¬k=9:=W;simp[eZ,Tr.k,j,l]
  have u:Q (fV<|.nd k [] [])=1:=by
   rw[fV,wY W,wY W,wY W,wY W];rfl
  have G:(⟨k,[],[],0⟩:Ty)=kH k [] []:=by rw[kH,wY W,wY W,wY W]
  refine⟨.nd k [] [],Wf.plain k m.1 m.2,(fC.nil s).row k [] W _ G,?_,?_⟩
  .show Q (one (.nd k [] [])<|!(aL L (s.i+1) [[124]]))+s.i<=s.i+1;grind
  .show kD (.nd k [] [])+(eZ (.nd k [] [])<|!(aL L (s.i+1) [[124]])).toNat<=_;grind[kD,nJ]
 grind[bF]
def On(D:qR L)(i:YF L r):∀d s e g x,(e.map (·.1)).Nodup->(step L r).jl d s e=C (.ok g x)->∃f c,Q f=Q c/\(e.map (·.1)++f).Nodup/\(∀n∈f,S6 n)/\(∀x∈c,Wf x)/\g.N=s.N/\
 g.T=s.T++O9 (Q s.T) c++[⟨7,e++f.zip (eW (Q s.T) c),[],0⟩]/\x=((Q s.T+S5 c:Nat))/\Q (qU f c)+1+s.i<=g.i/\nJ c<=20-d:=by
 intro d s e g x G h;have h:(if aL L s.i [[125]] then bQ s.nx ⟨7,e,[],0⟩
  else A8 (aO L s (e.map (·.1))) λs l=>A8 (aC L s [58]) λs _=>A8 (r.typ d s) λs x=>A8 (aC L s [59]) λs _=>r.jl d s<|e++[(l,x)])=C (.ok g x):=h;split at h
 .obtain⟨rfl,rfl⟩:=BU h;refine⟨[],[],K,η,θ,θ,K,by simp[O9,St.nx],Ω,?_,by simp[nJ]⟩;show Q (qU [] [])+1+s.i<=s.i+1;grind[qU]
 .obtain⟨s1,l,w,h⟩:=B9 h;obtain⟨F,M,a2,rfl⟩:=fW w;obtain⟨s2,_,z,h⟩:=B9 h;obtain⟨_,rfl⟩:=J9 z;obtain⟨j,y,A,h⟩:=B9 h;obtain⟨s4,_,B,h⟩:=B9 h;obtain⟨_,rfl⟩:=J9 B;obtain⟨t,w1,k,v,N,P⟩:=i.typ _ _ _ _ A;have k:jD s t j y:=k;have v:Q (fV t)+(s.i+1+1)<=j.i:=v;have H:((e++[(l,y)]).map (·.1)).Nodup:=by
   rw[zY,List.nodup_append];exact⟨G,θ,λa R b S=>η⟩
  obtain⟨f,c,Z,nd,hn,hw,m,o,p,q,T⟩:=i.jl _ _ _ _ _ H h;have q:Q (qU f c)+1+(j.i+1)<=g.i:=q;have m:=m;have o:g.T=j.T++O9 (Q j.T) c++[⟨7,e++[(l,y)]++f.zip (eW (Q j.T) c),[],0⟩]:=o;have p:x=((Q j.T+S5 c:Nat):Int):=p;refine⟨l::f,t::c,η,η,λn u=>?_,λa3 hz=>?_,m.trans k.1,?_,?_,?_,?_⟩
  .obtain rfl|u:=jW.1 u
   .rw[M];exact D _ F
   grind
  .grind
  .rw[o,k.len,k.2.1,k.2.2,O9,eW];simp
  .rw[p,k.len,S5,þ]
  .grind[qU,jQ,qQ,List.tail_cons]
  grind[nJ]
def Ze(i:YF L r):∀d s c x,(step L r).kv d s=C (.ok c x)->∃t,Wf t/\jD s t c x/\Q (one t<|!(aL L c.i [[124]]))+s.i<=c.i+1/\kD t+(eZ t<|!(aL L c.i [[124]])).toNat<=20-d:=by
 intro d s c x h;obtain⟨f,l,q,h⟩:=B9 h;obtain⟨b,j,n,w1,a,k,p⟩:=i.M _ _ _ _ _ _ q;rw[uY]at n;rw[n]at h;split at h
 .obtain⟨m,y,v,h⟩:=B9 h;obtain⟨rfl,rfl⟩:=BU h;obtain⟨t,w2,g,o,A,B⟩:=i.typ _ _ _ _ v;have g:jD f t m y:=g;have o:Q (fV t)+(f.i+1)<=m.i:=o;have w:eZ (.nd 9 []<|t::b) τ=κ:=by simp[eZ,Tr.k]
  have z:=yS (.nd 9 []<|t::b) τ;have F:Q (fV<|.nd 9 []<|t::b)=Q (Z8 τ b)+Q (fV t)+3:=by simp[fV,Kb];omega
  have k:=k;refine⟨.nd 9 []<|t::b,Wf.fn t b w2 w1,⟨g.1.trans a.1,?_,?_⟩,?_,?_⟩
  .show m.T++[_]=_;have e:gN (Q s.T) (.nd 9 []<|t::b)=oS (Q s.T) (t::b):=by rw[gN,yY K]
   rw[e,oS,g.2.1,g.2.2,a.len,a.2.1,a.2.2];simp
  .rw[g.len,a.len,fG,S5];omega
  .grind
  grind[eZ,aL,kD,nJ]
 .match b,j,a,h with
  |[],j,a,h=>rw[a.2.2]at h;grind[eW,bF]
  |[t],j,a,h=>
   rw[a.2.2,eW,eW]at h;obtain⟨rfl,rfl⟩:=S7 h;have z:=yS t<|!(aL L f.i [[124]]);have w:(eZ t<|!(aL L f.i [[124]])).toNat<=1:=by cases eZ t (!(aL L f.i [[124]]))<;>simp
   have k:Q (Z8 τ [t])+1+s.i<=f.i:=k;have D:Q (Z8 τ [t])=Q (fV t):=by simp[Z8]
   rw[nJ]at p;refine⟨t,w1 t θ,⟨a.1,?_,K⟩,W,W⟩;rw[a.2.1,O9,O9,iY]
  |t::u::b,j,a,h=>rw[a.2.2]at h;grind[eW,bF]
def Oj(i:YF L r):∀d s k e g l,(step L r).M .typ [41] d s k e=C (.ok g l)->∃f j,l=e++j/\(∀x∈f,Wf x)/\fC s f g j/\Q (Z8 (ê<|Q e=0) f)+1+s.i<=g.i/\nJ f<=20-d:=by
 intro d s k e g l h;have h:(if aL L s.i [[41]] then C<|.ok s.nx e
  else A8 (if Q e=0 then C (.ok s ()) else aC L s [44]) λs _=>A8 (part L r d s k .typ) λs x=>r.M .typ [41] d s x.2<|e++[x.1])=C (.ok g l):=h;split at h
 .obtain⟨rfl,rfl⟩:=S7 h;refine⟨[],[],θ,θ,fC.nil s,?_,by simp[nJ]⟩;show Q (Z8 _ [])+1+s.i<=s.i+1;grind[Z8]
 .obtain⟨m,_,p,h⟩:=B9 h;have o:m.N=s.N/\m.T=s.T/\m.i=s.i+(if Q e=0 then 0 else 1):=by
   split at p
   .grind
   .rename_i q;obtain⟨_,rfl⟩:=J9 p;exact⟨K,K,by rw[wY q];rfl⟩
  obtain⟨N,x,u,h⟩:=B9 h;obtain⟨B,y,v,w⟩:=B9 u;obtain⟨rfl,rfl⟩:=S7 w;obtain⟨t,w1,n,M,F,_⟩:=i.typ _ _ _ _ v;have n:jD s t B y:=by
   obtain⟨a,b,c⟩:=n;rw[o.1]at a;rw[o.2.1]at b c;exact⟨a,b,c⟩
  obtain⟨f,j,rfl,w2,D,A,G⟩:=i.M _ _ _ _ _ _ h;refine⟨t::f,y::j,θ,λx H=>?_,n.mh D,?_,?_⟩
  .grind
  .have z:ê (Q (e++[y])=0)=κ:=θ;rw[z]at A;simp only[Z8,qQ];grind
  grind[nJ]
end
def vC{L}(a:qR L):∀f,YF L<|gW L f
 |0=>by constructor<;>(intros;contradiction)
 |f+1=>⟨Zh<|vC a f,D4d<|vC a f,Ti<|vC a f,Td<|vC a f,On a<|vC a f,Ze<|vC a f,Oj<|vC a f⟩
structure Pt where
 b:Nat
 k:Int
 ts:List TT
 d:Nat
def vW:Pt:=⟨5,0,[],0⟩
def p0(a:List Pt):Pt:=a.getD 0 vW
def p1(a:List Pt):Pt:=a.getD 1 vW
def p2(a:List Pt):Pt:=a.getD 2 vW
def wt(a:Nat)(c:Pt):List TT:=if a<=c.b then c.ts else sg [40]::(c.ts++[sg [41]])
def wd(a:Nat)(c:Pt):Nat:=if a<=c.b then c.d else c.d+1
def oV(c:Pt):List TT:=if c.k=-1 then [] else sg [58]::c.ts
def M8:Bool->List Pt->List TT
 |_,[]=>[]
 |a,c::r=>(if a then [] else [sg [44]])++c.ts++M8 κ r
def oP:List Pt->List TT
 |[]=>[]
 |c::r=>c.ts++oP r
def mx(a:Nat):List Pt->Nat
 |[]=>0
 |c::r=>max (c.d+a)<|mx a r
def UM(a:bZ):TT:=if a=[116,121,112,101,111,102] then (2,a) else sg a
def lv(a:bZ):Nat:=if jO 12 a=1 then 2 else jO 12 a
def Lh(k:Int)(b:bZ)(n:Int)(a:List Pt):List TT:=
 if k=1 then [(3,Lib.itoa n)]
 else if k=2 then [(4,b)]
 else if k=3 then [(2,if n=1 then [116,114,117,101] else [102,97,108,115,101])]
 else if k=4 then [(2,[110,117,108,108])]
 else if k=5 then [(1,b)]
 else if k=6 then (2,[102,110])::sg [40]::(M8 τ a.dropLast.dropLast++sg [41]::(oV (a.dropLast.getLastD vW)++(a.getLastD vW).ts))
 else if k=7 then wt 5 (p0 a)++sg [40]::(M8 τ a.tail++[sg [41]])
 else if k=8 then wt 5 (p0 a)++[sg [46],(1,b)]
 else if k=9 then wt 5 (p0 a)++sg [91]::((p1 a).ts++[sg [93]])
 else if k=10 then sg [123]::(M8 τ a++[sg [125]])
 else if k=11 then sg [91]::(M8 τ a++[sg [93]])
 else if k=12 then wt (lv b) (p0 a)++sg b::wt (jO 12 b+1) (p1 a)
 else if k=13 then UM b::wt 4 (p0 a)
 else if k=14 then wt 5 (p0 a)++(2,[97,115])::(p1 a).ts
 else if k=15 then (1,b)::sg [58]::(p0 a).ts
 else if k=16 then (1,b)::oV (p0 a)
 else if k=17 then (2,[108,101,116])::(1,b)::(oV (p0 a)++sg [61]::((p1 a).ts++[sg [59]]))
 else if k=18 then (1,b)::sg [61]::((p0 a).ts++[sg [59]])
 else if k=19 then wt 5 (p0 a)++sg [46]::(1,b)::sg [61]::((p1 a).ts++[sg [59]])
 else if k=20 then wt 5 (p0 a)++sg [91]::((p1 a).ts++sg [93]::sg [61]::((p2 a).ts++[sg [59]]))
 else if k=21 then (2,[112,114,105,110,116])::((p0 a).ts++[sg [59]])
 else if k=22 then (2,[105,102])::sg [40]::((p0 a).ts++sg [41]::((p1 a).ts++(if (p2 a).k=-1 then [] else (2,[101,108,115,101])::(p2 a).ts)))
 else if k=23 then (2,[119,104,105,108,101])::sg [40]::((p0 a).ts++sg [41]::(p1 a).ts)
 else if k=24 then (2,[114,101,116,117,114,110])::((p0 a).ts++[sg [59]])
 else if k=25 then (p0 a).ts++[sg [59]]
 else sg [123]::(oP a++[sg [125]])
def dK(k:Int)(b:bZ)(a:List Pt):Nat:=
 if k=6\/k=10\/k=16 then mx 0 a
 else if k=7 then max (wd 5<|p0 a)<|mx 1 a.tail
 else if k=8 then wd 5<|p0 a
 else if k=9 then max (wd 5<|p0 a)<|(p1 a).d+1
 else if k=12 then max (wd (lv b)<|p0 a)<|wd (jO 12 b+1)<|p1 a
 else if k=13 then wd 4 (p0 a)+1
 else if k=14 then max (wd 5<|p0 a) (p1 a).d
 else if k=17 then max (p0 a).d<|(p1 a).d+1
 else if k=19 then max (wd 5 (p0 a)+1)<|(p1 a).d+1
 else if k=20 then max (wd 5 (p0 a)+1)<|max ((p1 a).d+2)<|(p2 a).d+1
 else if k=22 then max ((p0 a).d+1)<|max (p1 a).d (p2 a).d
 else if k=23 then max ((p0 a).d+1) (p1 a).d
 else mx 1 a
mutual
def me:Nt->List TT×Nat
 |.ty none=>([],0)
 |.ty (C t)=>(fV t,kD t+1)
 |.nd k b n a=>(Lh k b n<|eG a,dK k b<|eG a)
def eG:List Nt->List Pt
 |[]=>[]
 |p::r=>⟨uK p,p.k,(me p).1,(me p).2⟩::eG r
end
def pt(t:Nt):Pt:=⟨uK t,t.k,(me t).1,(me t).2⟩
theorem YG:∀a,eG a=a.map pt
 |[]=>K
 |p::r=>by rw[eG,YG r];rfl
theorem J5(p)(r):eG (p::r)=pt p::eG r:=rfl
def Nt.tx:Nt->bZ
 |.nd _ a _ _=>a
 |.ty _=>[]
def own(k:Int)(a:bZ)(n:Int)(b:List Nt):Prop:=
 if k=1 then a=[]/\0<=n/\n<=999999999
 else if k=2 then (Q a<=30/\∀c∈a,iF c.toNat=τ)/\n=0
 else if k=3 then a=[]/\(n=0\/n=1)
 else if k=5\/k=8\/k=15\/k=16\/k=17\/k=18\/k=19 then S6 a/\n=0
 else if k=12 then a∈[[61,61],[60],[43],[45],[42]]/\n=0
 else if k=13 then a∈[[33],[45],[116,121,112,101,111,102]]/\n=0
 else a=[]/\n=0/\(k=6->(b.dropLast.dropLast.map Nt.tx).Nodup)/\(k=10->(b.map Nt.tx).Nodup)
mutual
def Wn:Nt->Prop
 |.ty none=>True
 |.ty (C t)=>Wf t
 |.nd k b n a=>bO k (a.map Nt.k)/\own k b n a/\dP a
def dP:List Nt->Prop
 |[]=>True
 |p::r=>Wn p/\dP r
end
theorem T7:∀a,dP a↔∀p∈a,Wn p
 |[]=>by simp[dP]
 |p::r=>by simp[dP,T7 r]
/-!### What has come nU what was there -/
def fE(s:St)(t:Nt)(a:St)(x:Int):Prop:=a.N.map Nd.fl=s.N.map Nd.fl++iR (Q s.N) (Q s.T) t/\a.T=s.T++gL (Q s.T) t/\x=bW (Q s.N) (Q s.T) t
def cX(s:St)(a:List Nt)(b:St)(l:uZ):Prop:=b.N.map Nd.fl=s.N.map Nd.fl++U2 (Q s.N) (Q s.T) a/\b.T=s.T++Y2 (Q s.T) a/\l=bD (Q s.N) (Q s.T) a
theorem fE.fp{s a}{t}{x}(h:fE s t a x):Q a.N=Q s.N+nN t:=by
 have:=congrArg Q h.1;grind[R6]
theorem fE.jz{s a}{t}{x}(h:fE s t a x):Q a.T=Q s.T+nT t:=by
 have:=congrArg Q h.2.1;grind[wM]
theorem cX.fp{s b}{a}{l}(h:cX s a b l):Q b.N=Q s.N+aB a:=by
 have:=congrArg Q h.1;grind[vM]
theorem cX.jz{s b}{a}{l}(h:cX s a b l):Q b.T=Q s.T+cK a:=by
 have:=congrArg Q h.2.1;grind[FX]
theorem cX.nil(s):cX s [] s []:=⟨by simp[U2],by simp[Y2],K⟩
def fE.cons{s b c}{t}{x}{a}{l}(h:fE s t b x)(k:cX b a c l):cX s (t::a) c (x::l):=by
 refine⟨?_,?_,?_⟩
 .rw[k.1,h.fp,h.jz,h.1,U2,qZ]
 .rw[k.2.1,h.jz,h.2.1,Y2,qZ]
 .rw[k.2.2,h.fp,h.jz,h.2.2,bD]
theorem SB:∀(c d) (b a),U2 b a (c++d)=U2 b a c++U2 (b+aB c) (a+cK c) d
 |[],d,b,a=>Ω
 |p::r,d,b,a=>by rw[jZ,U2,U2,SB r,aB,cK,qZ,þ,þ]
theorem Jq:∀(c b) (a),Y2 a (c++b)=Y2 a c++Y2 (a+cK c) b
 |[],b,a=>Ω
 |p::r,b,a=>by rw[jZ,Y2,Y2,Jq r,cK,qZ,þ]
theorem vG:∀(c d) (b a),bD b a (c++d)=bD b a c++bD (b+aB c) (a+cK c) d
 |[],d,b,a=>Ω
 |p::r,d,b,a=>by rw[jZ,bD,bD,vG r,aB,cK,jZ,þ,þ]
theorem cX.app{s d e}{b c}{l a}(h:cX s b d l)(k:cX d c e a):cX s (b++c) e (l++a):=by
 refine⟨?_,?_,?_⟩
 .rw[k.1,h.fp,h.jz,h.1,SB,qZ]
 .rw[k.2.1,h.jz,h.2.1,Jq,qZ]
 .rw[k.2.2,h.fp,h.jz,h.2.2,vG]
theorem fE.l{s a}{t}{x}(h:fE s t a x):cX s [t] a [x]:=h.cons<|cX.nil a
def cX.node{s a}{b}{l}(h:cX s b a l)(i)(k)(c)(m)(n)(d:n.fl=bV k c m l):fE s (.nd k c m b) ⟨i,a.N++[n],a.T⟩ (Q a.N):=by
 refine⟨?_,?_,?_⟩
 .show (a.N++[n]).map Nd.fl=_;rw[zY,h.1,iR,<-h.2.2,bY,List.map_nil,d,qZ]
 .show a.T=_;rw[h.2.1,gL]
 .rw[h.fp,bW,nN];omega
theorem fE.none(s):fE s (.ty none) s (-1):=⟨by simp[iR],by simp[gL],K⟩
theorem jD.n{s a}{t}{x}(h:jD s t a x):fE s (.ty<|C t) a x:=⟨by simp[iR,h.1],by rw[h.2.1,gL],h.2.2⟩
def I3{s a}{n}{x}(h:aE s n=C (.ok a x)):a=⟨s.i,s.N++[n],s.T⟩/\x=Q s.N:=by
 grind[aE,zQ,Out.ok.injEq]
theorem EY{c:Type}(l)(a b:c):(l++[a,b]).dropLast.dropLast=l:=θ
theorem UY{c:Type}(l)(a b x:c):(l++[a,b]).dropLast.getLastD x=a:=θ
theorem UX{c:Type}(l)(a b x:c):(l++[a,b]).getLastD x=b:=θ
def IK(a b)(c)(h:a<=b):Q (wt a c)<=Q (wt b c):=by
 grind[wt]
def II(a b)(c)(h:a<=b):wd a c<=wd b c:=by
 grind[wd]
theorem qC(a)(c)(h:a<=c.b):wt a c=c.ts:=by grind[wt]
theorem qB(a)(c)(h:a<=c.b):wd a c=c.d:=by grind[wd]
def C2f(a)(c):Q (wt a c)<=Q c.ts+2:=by
 grind[wt]
def C7f(a)(c):wd a c<=c.d+1:=by
 grind[wd]
theorem Lx(a)(n):me (.nd 5 a n [])=([(1,a)],0):=rfl
theorem Cn(a):∀c b,mx a (c++b)=max (mx a c) (mx a b)
 |[],b=>Ω
 |x::c,b=>by rw[jZ,mx,Cn a c b,mx];omega
theorem UV(d)(n)(c)(a b):me (.nd 6 d n<|c++[a,b])=((2,[102,110])::sg [40]::(M8 τ (eG c)++sg [41]::(oV (pt a)++(me b).1)),max (mx 0<|eG c)<|max (me a).2 (me b).2):=by
 have e:eG (c++[a,b])=eG c++[pt a,pt b]:=by simp[YG]
 rw[me,e];show ((2,[102,110])::sg [40]::(M8 τ (eG c++[pt a,pt b]).dropLast.dropLast++sg [41]::(oV ((eG c++[pt a,pt b]).dropLast.getLastD vW)++((eG c++[pt a,pt b]).getLastD vW).ts)),mx 0<|eG c++[pt a,pt b])=_;grind[EY,UY,UX,Cn,mx,pt]
theorem Lw(c)(n)(a)(b):me (.nd 7 c n<|a::b)=(wt 5 (pt a)++sg [40]::(M8 τ (eG b)++[sg [41]]),max (wd 5<|pt a)<|mx 1<|eG b):=rfl
theorem UU(b)(n)(a):me (.nd 8 b n [a])=(wt 5 (pt a)++[sg [46],(1,b)],wd 5<|pt a):=rfl
theorem UT(c)(n)(a b):me (.nd 9 c n [a,b])=(wt 5 (pt a)++sg [91]::((me b).1++[sg [93]]),max (wd 5<|pt a)<|(me b).2+1):=rfl
theorem ZX(b)(n)(a):me (.nd 10 b n a)=(sg [123]::(M8 τ (eG a)++[sg [125]]),mx 0<|eG a):=rfl
theorem ZZ(b)(n)(a):me (.nd 11 b n a)=(sg [91]::(M8 τ (eG a)++[sg [93]]),mx 1<|eG a):=rfl
theorem ZE(c)(n)(a b):me (.nd 12 c n [a,b])=(wt (lv c) (pt a)++sg c::wt (jO 12 c+1) (pt b),max (wd (lv c)<|pt a)<|wd (jO 12 c+1)<|pt b):=rfl
theorem VC(b)(n)(a):me (.nd 13 b n [a])=(UM b::wt 4 (pt a),wd 4 (pt a)+1):=rfl
theorem Za(c)(n)(a b):me (.nd 14 c n [a,b])=(wt 5 (pt a)++(2,[97,115])::(me b).1,max (wd 5<|pt a) (me b).2):=rfl
theorem Ie(b)(n)(a):me (.nd 15 b n [a])=((1,b)::sg [58]::(me a).1,(me a).2+1):=Ω
theorem Ig(b)(n)(a):me (.nd 16 b n [a])=((1,b)::oV (pt a),(me a).2):=by rw[me];show (_,max (me a).2 0)=_;simp;rfl
theorem Ae(c)(n)(a b):me (.nd 17 c n [a,b])=((2,[108,101,116])::(1,c)::(oV (pt a)++sg [61]::((me b).1++[sg [59]])),max (me a).2<|(me b).2+1):=rfl
theorem Ah(b)(n)(a):me (.nd 18 b n [a])=((1,b)::sg [61]::((me a).1++[sg [59]]),(me a).2+1):=Ω
theorem Ak(c)(n)(a b):me (.nd 19 c n [a,b])=(wt 5 (pt a)++sg [46]::(1,c)::sg [61]::((me b).1++[sg [59]]),max (wd 5 (pt a)+1)<|(me b).2+1):=rfl
theorem Ao(d)(n)(a b c):me (.nd 20 d n [a,b,c])=(wt 5 (pt a)++sg [91]::((me b).1++sg [93]::sg [61]::((me c).1++[sg [59]])),max (wd 5 (pt a)+1)<|max ((me b).2+2)<|(me c).2+1):=rfl
theorem Au(b)(n)(a):me (.nd 21 b n [a])=((2,[112,114,105,110,116])::((me a).1++[sg [59]]),(me a).2+1):=Ω
theorem Ax(d)(n)(a b c):me (.nd 22 d n [a,b,c])=((2,[105,102])::sg [40]::((me a).1++sg [41]::((me b).1++(if c.k=-1 then [] else (2,[101,108,115,101])::(me c).1))),max ((me a).2+1)<|max (me b).2 (me c).2):=rfl
theorem Ba(c)(n)(a b):me (.nd 23 c n [a,b])=((2,[119,104,105,108,101])::sg [40]::((me a).1++sg [41]::(me b).1),max ((me a).2+1) (me b).2):=rfl
theorem Bc(b)(n)(a):me (.nd 24 b n [a])=((2,[114,101,116,117,114,110])::((me a).1++[sg [59]]),(me a).2+1):=Ω
theorem Bh(b)(n)(a):me (.nd 25 b n [a])=((me a).1++[sg [59]],(me a).2+1):=Ω
theorem Ij(b)(n)(a):me (.nd 26 b n a)=(sg [123]::(oP (eG a)++[sg [125]]),mx 1<|eG a):=rfl
theorem w1{n}(h:0<=n/\n<=999999999):Wn (.nd 1 [] n []):=by grind[Wn,dP,bO,own]
theorem w2{a}(h:Q a<=30/\∀c∈a,iF c.toNat=τ):Wn (.nd 2 a 0 []):=by grind[Wn,dP,bO,own]
def w3{n}(h:n=0\/n=1):Wn (.nd 3 [] n []):=by grind[Wn,dP,bO,own]
theorem w4:Wn (.nd 4 [] 0 []):=by grind[Wn,dP,bO,own]
theorem w5{a}(h:S6 a):Wn (.nd 5 a 0 []):=by grind[Wn,dP,bO,own]
theorem w6{ps}{a b}(h:∀p∈ps,Wn p/\p.k=16)(e:(ps.map Nt.tx).Nodup)(c:Wn a)(f:jM a.k)(d:Wn b)(g:b.k=26):Wn (.nd 6 [] 0<|ps++[a,b]):=by
 rw[Wn];refine⟨?_,?_,?_⟩
 .grind[bO]
 .grind[Nt.tx,EY,own]
 grind[T7]
def w7{a}{b}(c:Wn a)(d:aP a.k)(h:∀p∈b,Wn p/\aP p.k):Wn (.nd 7 [] 0<|a::b):=by
 rw[Wn];refine⟨?_,by simp[own],?_⟩
 .grind[bO]
 grind[T7]
def w8{b}{a}(h:S6 b)(c:Wn a)(d:aP a.k):Wn (.nd 8 b 0 [a]):=by grind[Wn,dP,bO,own]
def w9{a b}(c:Wn a)(e:aP a.k)(d:Wn b)(f:aP b.k):Wn (.nd 9 [] 0 [a,b]):=by simp[Wn,dP,bO,own];grind
def Ld{a}(h:∀p∈a,Wn p/\p.k=15)(c:(a.map Nt.tx).Nodup):Wn (.nd 10 [] 0 a):=by
 rw[Wn];refine⟨?_,by grind[own],(T7 a).2 λp b=>(h p b).1⟩;grind[bO]
def Lc{a}(h:∀p∈a,Wn p/\aP p.k):Wn (.nd 11 [] 0 a):=by
 rw[Wn];refine⟨?_,by simp[own],(T7 a).2 λp b=>(h p b).1⟩;grind[bO]
theorem KS{c:bZ}{a b}(h:c∈[[61,61],[60],[43],[45],[42]])(d:Wn a)(f:aP a.k)(e:Wn b)(g:aP b.k):Wn (.nd 12 c 0 [a,b]):=by
 rw[Wn];refine⟨?_,⟨h,K⟩,d,e,trivial⟩;grind[bO]
theorem UL{b:bZ}{a}(h:b∈[[33],[45],[116,121,112,101,111,102]])(c:Wn a)(d:aP a.k):Wn (.nd 13 b 0 [a]):=by
 rw[Wn];refine⟨?_,⟨h,K⟩,c,trivial⟩;grind[bO]
def Lb{a}{t}(b:Wn a)(d:aP a.k)(c:Wf t):Wn (.nd 14 [] 0 [a,.ty<|C t]):=by grind[Wn,dP,bO,own,Nt.k]
def Kz{b}{a}(h:S6 b)(c:Wn a)(d:aP a.k):Wn (.nd 15 b 0 [a]):=by grind[Wn,dP,bO,own]
def UK{b}{a}(h:S6 b)(c:Wn a)(d:jM a.k):Wn (.nd 16 b 0 [a]):=by grind[Wn,dP,bO,own]
def UJ{c}{a b}(h:S6 c)(d:Wn a)(f:jM a.k)(e:Wn b)(g:aP b.k):Wn (.nd 17 c 0 [a,b]):=by simp[Wn,dP,bO,own];grind
def Ky{b}{a}(h:S6 b)(c:Wn a)(d:aP a.k):Wn (.nd 18 b 0 [a]):=by grind[Wn,dP,bO,own]
def Kx{c}{a b}(h:S6 c)(d:Wn a)(f:aP a.k)(e:Wn b)(g:aP b.k):Wn (.nd 19 c 0 [a,b]):=by simp[Wn,dP,bO,own];grind
def Kw{a b c}(d:Wn a)(g:aP a.k)(e:Wn b)(h:aP b.k)(f:Wn c)(i:aP c.k):Wn (.nd 20 [] 0 [a,b,c]):=by simp[Wn,dP,bO,own];grind
theorem ER{a}(b:Wn a)(c:aP a.k):Wn (.nd 21 [] 0 [a]):=by grind[Wn,dP,bO,own]
def Ku{a b c}(d:Wn a)(g:aP a.k)(e:Wn b)(h:b.k=26)(f:Wn c)(i:c.k=26\/c.k=-1):Wn (.nd 22 [] 0 [a,b,c]):=by simp[Wn,dP,bO,own];grind
def Kt{a b}(c:Wn a)(e:aP a.k)(d:Wn b)(f:b.k=26):Wn (.nd 23 [] 0 [a,b]):=by simp[Wn,dP,bO,own];grind
def Kq{a}(b:Wn a)(c:aP a.k):Wn (.nd 24 [] 0 [a]):=by grind[Wn,dP,bO,own]
def Km{a}(b:Wn a)(c:aP a.k):Wn (.nd 25 [] 0 [a]):=by grind[Wn,dP,bO,own]
def mM{a}(h:∀p∈a,Wn p/\17<=p.k/\p.k<=25):Wn (.nd 26 [] 0 a):=by
 rw[Wn];refine⟨?_,by simp[own],(T7 a).2 λp b=>(h p b).1⟩;grind[bO]
def Lv(l d:Nat)(s a:St)(x:Int):Prop:=∃t,Wn t/\aP t.k/\fE s t a x/\Q (wt l<|pt t)+s.i<=a.i/\wd l (pt t)<=20-d
def Gw(l d:Nat)(s:St)(x:Int)(b:St)(y:Int):Prop:=∀c a,Wn a->aP a.k->fE c a s x->wd l (pt a)<=20-d->
 ∃t,Wn t/\aP t.k/\fE c t b y/\Q (wt l<|pt t)+s.i<=Q (wt l<|pt a)+b.i/\wd l (pt t)<=20-d
def Li(f a d:Nat)(ϊ:Nt->Prop)(s g:St)(c l:uZ):Prop:=∃b e,l=c++e/\(∀p∈b,Wn p/\ϊ p)/\cX s b g e/\Q (M8 (ê<|Q c=0)<|eG b)+f+s.i<=g.i/\mx a (eG b)<=20-d
def Fl(f d:Nat)(s c:St)(e l:uZ):Prop:=∃a b,l=e++b/\(∀p∈a,Wn p/\17<=p.k/\p.k<=25)/\cX s a c b/\Q (oP<|eG a)+f+s.i<=c.i/\mx 1 (eG a)<=20-d
def rQ(b:Bool):Nat:=if b then 2 else 3
structure NF(L:List Tk)(r:Sp):Prop where
 expr:∀d s s' x,r.expr d s=C (.ok s' x)->d<20/\Lv 1 (d+1) s s' x
 comp:∀d s s' x,r.comp d s=C (.ok s' x)->Lv 1 d s s' x
 sum:∀d s s' x,r.sum d s=C (.ok s' x)->Lv 2 d s s' x
 prod:∀d s s' x,r.prod d s=C (.ok s' x)->Lv 3 d s s' x
 row:∀b d s x s' y,r.row b d s x=C (.ok s' y)->Gw (rQ b) d s x s' y
 oper:∀d s s' x,r.oper d s=C (.ok s' x)->Lv 4 d s s' x
 tail:∀d s x s' y,r.tail d s x=C (.ok s' y)->Gw 5 d s x s' y
 simple:∀d s s' x,r.simple d s=C (.ok s' x)->Lv 5 d s s' x
 oq:∀e d s nm acc s' l,r.M .expr e d s nm acc=C (.ok s' l)->Li 1 1 d (λp=>aP p.k) s s' acc l
 rp:∀e d s nm acc s' l,nm.Nodup->r.M .obj e d s nm acc=C (.ok s' l)->∃ps l',l=acc++l'/\(nm++ps.map Nt.tx).Nodup/\(∀p∈ps,Wn p/\p.k=15)/\cX s ps s' l'/\Q (M8 (ê<|Q acc=0)<|eG ps)+1+s.i<=s'.i/\mx 0 (eG ps)<=20-d
 rm:∀e d s nm acc s' l,nm.Nodup->r.M .par e d s nm acc=C (.ok s' l)->∃ps l',l=acc++l'/\(nm++ps.map Nt.tx).Nodup/\(∀p∈ps,Wn p/\p.k=16)/\cX s ps s' l'/\Q (M8 (ê<|Q acc=0)<|eG ps)+1+s.i<=s'.i/\mx 0 (eG ps)<=20-d
 block:∀d s s' x,r.block d s=C (.ok s' x)->∃t,Wn t/\t.k=26/\fE s t s' x/\Q (me t).1+s.i<=s'.i/\(me t).2<=20-d
 gj:∀d s acc s' l,r.gj d s acc=C (.ok s' l)->Fl 1 d s s' acc l
 gy:∀d s s' x,r.gy d s=C (.ok s' x)->∃t,Wn t/\(17<=t.k/\t.k<=25)/\fE s t s' x/\Q (me t).1+s.i<=s'.i/\(me t).2+1<=20-d
 any:∀d s s' x,r.any d s=C (.ok s' x)->∃t,Wn t/\(17<=t.k/\t.k<=25)/\fE s t s' x/\Q (me t).1+s.i<=s'.i/\(me t).2<=20-d
 jd:∀d s acc s' l,r.jd d s acc=C (.ok s' l)->Fl 0 d s s' acc l
def NP{L}{i}{a}(h:aL L i a=τ):(tk L i).text∈a:=by
 simp_all[aL,has,Bool.and_eq_true,List.contains_iff_mem]
theorem uC(t):(pt t).ts=(me t).1:=rfl
theorem pN(t):(pt t).d=(me t).2:=rfl
theorem oK(t)(h:aP t.k):wt 1 (pt t)=(me t).1:=by
 refine qC _ _ ?_;show 1<=uK t;cases t<;>grind[uK,jO]
theorem oL(t)(h:aP t.k):wd 1 (pt t)=(me t).2:=by
 refine qB _ _ ?_;show 1<=uK t;cases t<;>grind[uK,jO]
section
variable{L:List Tk}{r:Sp}
theorem Gw.one{l d}{s i}{x y}{g}{t}(h:Gw l d g x i y)(n:Wn t)(k:aP t.k)(m:fE s t g x)(p:Q (wt l<|pt t)+s.i<=g.i)(j:wd l (pt t)<=20-d):Lv l d s i y:=by
 obtain⟨o,a,b,c,e,f⟩:=h s t n k m j;exact⟨o,a,b,c,W,f⟩
def Ż(i:NF L r):∀d s a x,(step L r).expr d s=C (.ok a x)->d<20/\Lv 1 (d+1) s a x:=by
 intro d s a x h;obtain⟨_,b,h⟩:=IU h;exact⟨b,i.comp _ _ _ _ h⟩
def Hw{s g i}{x y}{part}(h:iN L g x part=C (.ok i y)){j d}(o:∀s i x,part s=C (.ok i x)->Lv j d s i x){t}(p:Wn t)(m:aP t.k)(n:fE s t g x)
 (hs:(tk L g.i).text∈[[61,61],[60],[43],[45],[42]]):∃u,Wn u/\aP u.k/\fE s (.nd 12 (tk L g.i).text 0 [t,u]) i y/\Q (wt j<|pt u)+g.i+1<=i.i/\wd j (pt u)<=20-d/\Wn (.nd 12 (tk L g.i).text 0 [t,u]):=by
 obtain⟨q,z,k,l⟩:=B9 h;obtain⟨rfl,rfl⟩:=I3 l;obtain⟨u,a,b,c,e,f⟩:=o _ _ _ k;have c:=c;have e:Q (wt j<|pt u)+(g.i+1)<=q.i:=e;refine⟨u,a,b,(n.cons c.l).node _ 12 _ 0 _ K,?_,f,KS hs p m a b⟩;omega
def Ź(i:NF L r):∀d s k x,(step L r).comp d s=C (.ok k x)->Lv 1 d s k x:=by
 intro d s k x h;obtain⟨l,y,m,j⟩:=B9 h;obtain⟨t,a,b,c,e,f⟩:=i.sum _ _ _ _ m;split at j
 .rename_i g;have g:=NP g;have hs:(tk L l.i).text∈[[61,61],[60],[43],[45],[42]]:=by
   simp at g;obtain h|h:=g<;>rw[h]<;>decide
  obtain⟨u,o,p,c2,q,f2,w2⟩:=Hw j (i.sum d) a b c hs;have n:jO 12 (tk L l.i).text=1:=by
   simp at g;obtain h|h:=g<;>rw[h]<;>rfl
  have v:lv (tk L l.i).text=2:=by rw[lv,n];rfl
  refine⟨_,w2,by grind[aP,Nt.k],c2,?_,?_⟩<;>grind[oK,aP,Nt.k,ZE,qQ,jQ,Nat.reduceAdd,oL]
 .obtain⟨rfl,rfl⟩:=S7 j;have m:=IK 1 2 (pt t) ζ;have j:=II 1 2 (pt t) ζ;exact⟨t,a,b,c,W,W⟩
def Vk(i:NF L r):∀d s g x,(step L r).sum d s=C (.ok g x)->Lv 2 d s g x:=by
 intro d s g x h;obtain⟨n,y,j,k⟩:=B9 h;obtain⟨t,a,b,c,e,f⟩:=i.prod _ _ _ _ j;have l:=IK 2 3 (pt t) ζ;have m:=II 2 3 (pt t) ζ;exact Gw.one (i.row _ _ _ _ _ _ k) a b c W W
def E3e(i:NF L r):∀d s g x,(step L r).prod d s=C (.ok g x)->Lv 3 d s g x:=by
 intro d s g x h;obtain⟨n,y,j,k⟩:=B9 h;obtain⟨t,a,b,c,e,f⟩:=i.oper _ _ _ _ j;have l:=IK 3 4 (pt t) ζ;have m:=II 3 4 (pt t) ζ;exact Gw.one (i.row _ _ _ _ _ _ k) a b c W W
def Ve(i:NF L r):∀b d s x a y,(step L r).row b d s x=C (.ok a y)->Gw (rQ b) d s x a y:=by
 intro b d s x a y h q e p m n G;have h:(if aL L s.i (J4 b) then A8 (iN L s x<|if b then r.prod d else r.oper d) λs y=>r.row b d s y else C<|.ok s x)=C (.ok a y):=h;split at h
 .rename_i c;have c:=NP c;have hs:(tk L s.i).text∈[[61,61],[60],[43],[45],[42]]:=by
   cases b
   .simp_all[J4,jW,rZ,or_false]
   .grind[J4]
  obtain⟨H,z,k,l⟩:=B9 h;have o:∀s a x,(if b then r.prod d else r.oper d) s=C (.ok a x)->Lv (rQ b+1) d s a x:=by
   cases b
   .exact i.oper d
   .exact i.prod d
  obtain⟨u,t,w,c2,D,f2,w2⟩:=Hw k o p m n hs;have f:jO 12 (tk L s.i).text=rQ b/\lv (tk L s.i).text=rQ b:=by
   cases b
   .simp only[J4,jW,rZ,or_false]at c;rw[c];exact⟨K,K⟩
   .simp only[J4,jW,rZ,or_false]at c;obtain h|h:=c<;>rw[h]<;>exact⟨K,K⟩
  have g:wt (rQ b) (pt<|.nd 12 (tk L s.i).text 0 [e,u])=(me<|.nd 12 (tk L s.i).text 0 [e,u]).1:=qC _ _ (by show rQ b<=jO 12 _;omega);have j:wd (rQ b) (pt<|.nd 12 (tk L s.i).text 0 [e,u])=(me<|.nd 12 (tk L s.i).text 0 [e,u]).2:=qB _ _ (by show rQ b<=jO 12 _;omega);rw[ZE,f.1,f.2]at g j;simp only at g j;obtain⟨M,v,A,B,F,f3⟩:=i.row _ _ _ _ _ _ l q _ w2 (by grind[aP,Nt.k]) c2 W;grind
 grind
def E4e(i:NF L r):∀d s g x,(step L r).oper d s=C (.ok g x)->Lv 4 d s g x:=by
 intro d s g x h;have h:(if aL L s.i [[33],[45],[116,121,112,101,111,102]] then A8 (aS L (lY L<|s.i+1) d s.nx r.oper) λg x=>aE g ⟨13,x,0,0,[],(tk L s.i).text,0,-1,(tk L s.i).at'⟩
  else A8 (r.simple d s) λs x=>r.tail d s x)=C (.ok g x):=h;split at h
 .rename_i l;have l:=NP l;obtain⟨n,y,j,k⟩:=B9 h;obtain⟨_,q,j⟩:=IU j;obtain⟨rfl,rfl⟩:=I3 k;obtain⟨t,a,b,c,e,f⟩:=i.oper _ _ _ _ j;have c:=c;have e:Q (wt 4<|pt t)+(s.i+1)<=n.i:=e;refine⟨.nd 13 (tk L s.i).text 0 [t],UL l a b,by grind[aP,Nt.k],c.l.node _ 13 _ 0 _ K,?_,?_⟩
  .rw[qC _ _<|by exact vQ _,uC,VC];grind
  .rw[qB _ _<|by exact vQ _,pN,VC];omega
 .obtain⟨n,y,j,k⟩:=B9 h;obtain⟨t,a,b,c,e,f⟩:=i.simple _ _ _ _ j;obtain⟨m,a,b,c,e,f⟩:=Gw.one (i.tail _ _ _ _ _ k) a b c e f;have o:=IK 4 5 (pt m) ζ;have p:=II 4 5 (pt m) ζ;exact⟨m,a,b,c,W,W⟩
def E1e(R:qR L)(y:YF L r)(i:NF L r):∀d s x k y,(step L r).tail d s x=C (.ok k y)->Gw 5 d s x k y:=by
 intro d s x k z h M g H F G hd;have h:(if aL L s.i [[40]] then A8 (r.M .expr [41] d s.nx [] []) λk l=>A8 (aE k ⟨7,x,0,0,l,[],0,-1,iC s x⟩) λs x=>r.tail d s x
  else if aL L s.i [[46]] then
   if (tk L<|s.i+1).x=1 then A8 (aE s.nx.nx ⟨8,x,0,0,[],(tk L<|s.i+1).text,0,-1,iC s x⟩) λs x=>r.tail d s x else bF L (s.i+1) 1
  else if aL L s.i [[91]] then A8 (r.expr d s.nx) λk y=>A8 (aC L k [93]) λk _=>A8 (aE k ⟨9,x,y,0,[],[],0,-1,iC s x⟩) λs x=>r.tail d s x
  else if aL L s.i [[97,115]] then A8 (r.typ d s.nx) λk t=>A8 (aE k ⟨14,x,0,0,[],[],0,t,iC s x⟩) λs x=>r.tail d s x
  else C<|.ok s x)=C (.ok k z):=h;split at h
 .obtain⟨o,l,w,h⟩:=B9 h;obtain⟨P,u,A,h⟩:=B9 h;obtain⟨rfl,rfl⟩:=I3 A;obtain⟨B,l',rfl,a,c,e,f⟩:=i.oq _ _ _ _ _ _ _ w;have c:=c;have e:Q (M8 τ<|eG B)+1+(s.i+1)<=o.i:=e;have j:wt 5 (pt<|.nd 7 [] 0<|g::B)=(me<|.nd 7 [] 0<|g::B).1:=qC _ _ (by exact vQ _);have m:wd 5 (pt<|.nd 7 [] 0<|g::B)=(me<|.nd 7 [] 0<|g::B).2:=qB _ _ (by exact vQ _);rw[Lw]at j m;simp only at j m;obtain⟨D,p,q,v,n,f3⟩:=i.tail _ _ _ _ _ h M _ (w7 H F a) (by grind[aP,Nt.k]) ((G.cons c).node _ 7 [] 0 _ K) W;grind
 split at h
 .split at h
  .rename_i S;obtain⟨P,u,A,h⟩:=B9 h;obtain⟨rfl,rfl⟩:=I3 A;have j:wt 5 (pt<|.nd 8 (tk L<|s.i+1).text 0 [g])=(me<|.nd 8 (tk L<|s.i+1).text 0 [g]).1:=qC _ _ (by exact vQ _);have m:wd 5 (pt<|.nd 8 (tk L<|s.i+1).text 0 [g])=(me<|.nd 8 (tk L<|s.i+1).text 0 [g]).2:=qB _ _ (by exact vQ _);rw[UU]at j m;simp only at j m;obtain⟨D,p,q,v,n,f3⟩:=i.tail _ _ _ _ _ h M _ (w8 (R _ S) H F) (by grind[aP,Nt.k]) (cX.node G.l _ 8 _ 0 _ K) W;refine⟨D,p,q,v,?_,f3⟩;rw[j]at n;have n:_+(s.i+1+1)<=_:=n;grind
  grind[bF]
 split at h
 .obtain⟨o,Z,w,h⟩:=B9 h;obtain⟨P,_,A,h⟩:=B9 h;obtain⟨_,rfl⟩:=J9 A;obtain⟨T,u,N,h⟩:=B9 h;obtain⟨rfl,rfl⟩:=I3 N;obtain⟨a2,t,a,b,c,e,f⟩:=i.expr _ _ _ _ w;rw[oK _ b]at e;rw[oL _ b]at f;have c:=c;have e:Q (me t).1+(s.i+1)<=o.i:=e;have j:wt 5 (pt<|.nd 9 [] 0 [g,t])=(me<|.nd 9 [] 0 [g,t]).1:=qC _ _ (by exact vQ _);have m:wd 5 (pt<|.nd 9 [] 0 [g,t])=(me<|.nd 9 [] 0 [g,t]).2:=qB _ _ (by exact vQ _);rw[UT]at j m;simp only at j m;obtain⟨D,p,q,v,n,f3⟩:=i.tail _ _ _ _ _ h M _ (w9 H F a b) (by grind[aP,Nt.k]) ((G.cons c.l).node _ 9 [] 0 _ K) W;refine⟨D,p,q,v,?_,f3⟩;rw[j]at n;have n:_+(o.i+1)<=_:=n;grind
 split at h
 .obtain⟨o,Z,w,h⟩:=B9 h;obtain⟨T,u,N,h⟩:=B9 h;obtain⟨rfl,rfl⟩:=I3 N;obtain⟨t,a,c,e,f,_⟩:=y.typ _ _ _ _ w;have c:=jD.n c;have e:Q (fV t)+(s.i+1)<=o.i:=e;have j:wt 5 (pt<|.nd 14 [] 0 [g,.ty<|C t])=(me<|.nd 14 [] 0 [g,.ty<|C t]).1:=qC _ _ (by exact vQ _);have m:wd 5 (pt<|.nd 14 [] 0 [g,.ty<|C t])=(me<|.nd 14 [] 0 [g,.ty<|C t]).2:=qB _ _ (by exact vQ _);rw[Za,me]at j m;simp only at j m;obtain⟨D,p,q,v,n,f3⟩:=i.tail _ _ _ _ _ h M _ (Lb H F a) (by grind[aP,Nt.k]) ((G.cons c.l).node _ 14 [] 0 _ K) W;grind
 grind
def FG(L:List Tk):Prop:=∀i,(tk L i).x=3->0<=qA (tk L i).text/\qA (tk L i).text<=999999999
def FZ(L:List Tk):Prop:=∀i,(tk L i).x=4->Q (tk L i).text<=30/\∀c∈(tk L i).text,iF c.toNat=τ
def MR(y:YF L r){d}{s b}{x}(h:bC L r d s=C (.ok b x)):∃t,Wn t/\jM t.k/\fE s t b x/\Q (oV<|pt t)+s.i<=b.i/\(me t).2<=20-d:=by
 unfold bC at h;split at h
 .obtain⟨t,a,c,e,f,_⟩:=y.typ _ _ _ _ h;have c:=jD.n c;have e:Q (fV t)+(s.i+1)<=b.i:=e;refine⟨.ty<|C t,a,.inr K,c,?_,f⟩;have:oV (pt<|.ty<|C t)=sg [58]::fV t:=K;grind
 .obtain⟨rfl,rfl⟩:=S7 h;exact⟨.ty none,trivial,.inl K,fE.none s,by grind[oV,pt,Nt.k],wQ _⟩
def zP{d}{s}(k)(a)(n)(c)(g:Wn<|.nd k a n [])(e:aP k)(h:jO k a=5)(b:Q (me<|.nd k a n []).1=1/\(me<|.nd k a n []).2=0)(f:bV k a n []=⟨k,0,0,0,[],a,n,-1,0⟩):
 Lv 5 d s ⟨s.nx.i,s.nx.N++[⟨k,0,0,0,[],a,n,-1,c⟩],s.nx.T⟩ (Q s.nx.N):=by
 refine⟨_,g,e,cX.node (cX.nil s) _ k a n _<|by rw[f];rfl,?_,?_⟩
 .rw[qC _ _<|by show 5<=jO k a;omega,uC,b.1];show 1+s.i<=s.i+1;omega
 .rw[qB _ _<|by show 5<=jO k a;omega,pN,b.2];omega
def Ol(G:qR L)(H:FG L)(M:FZ L)(y:YF L r)(i:NF L r):∀d s k x,(step L r).simple d s=C (.ok k x)->Lv 5 d s k x:=by
 intro d s k x h;have h:(if (tk L s.i).x=3 then aE s.nx ⟨1,0,0,0,[],[],qA (tk L s.i).text,-1,(tk L s.i).at'⟩
  else if (tk L s.i).x=4 then aE s.nx ⟨2,0,0,0,[],(tk L s.i).text,0,-1,(tk L s.i).at'⟩
  else if (tk L s.i).x=1 then aE s.nx ⟨5,0,0,0,[],(tk L s.i).text,0,-1,(tk L s.i).at'⟩
  else if aL L s.i [[116,114,117,101]] then aE s.nx ⟨3,0,0,0,[],[],1,-1,(tk L s.i).at'⟩
  else if aL L s.i [[102,97,108,115,101]] then aE s.nx ⟨3,0,0,0,[],[],0,-1,(tk L s.i).at'⟩
  else if aL L s.i [[110,117,108,108]] then aE s.nx ⟨4,0,0,0,[],[],0,-1,(tk L s.i).at'⟩
  else if aL L s.i [[102,110]] then A8 (aC L s.nx [40]) λm _=>A8 (r.M .par [41] d m [] []) λn l=>A8 (bC L r d n) λu t=>A8 (r.block d u) λz x=>
   aE z ⟨6,x,0,0,l,[],0,t,(tk L s.i).at'⟩
  else if aL L s.i [[91]] then A8 (r.M .expr [93] d s.nx [] []) λk l=>aE k ⟨11,0,0,0,l,[],0,-1,(tk L s.i).at'⟩
  else if aL L s.i [[123]] then A8 (r.M .obj [125] d s.nx [] []) λk l=>aE k ⟨10,0,0,0,l,[],0,-1,(tk L s.i).at'⟩
  else A8 (aC L s [40]) λs _=>A8 (r.expr d s) λs x=>A8 (aC L s [41]) λs _=>C<|.ok s x)=C (.ok k x):=h;split at h
 .rename_i p;obtain⟨rfl,rfl⟩:=I3 h;exact zP 1 [] _ _ (w1<|H _ p) (by simp[aP]) K ⟨K,K⟩ K
 split at h
 .rename_i p;obtain⟨rfl,rfl⟩:=I3 h;exact zP 2 _ 0 _ (w2<|M _ p) (by simp[aP]) K ⟨K,K⟩ K
 split at h
 .rename_i p;obtain⟨rfl,rfl⟩:=I3 h;exact zP 5 _ 0 _ (w5<|G _ p) (by simp[aP]) K ⟨K,K⟩ K
 split at h
 .obtain⟨rfl,rfl⟩:=I3 h;exact zP 3 [] 1 _ (w3<|.inr K) (by simp[aP]) K ⟨K,K⟩ K
 split at h
 .obtain⟨rfl,rfl⟩:=I3 h;exact zP 3 [] 0 _ (w3<|.inl K) (by simp[aP]) K ⟨K,K⟩ K
 split at h
 .obtain⟨rfl,rfl⟩:=I3 h;exact zP 4 [] 0 _ w4 (by simp[aP]) K ⟨K,K⟩ K
 split at h
 .obtain⟨m,_,g,h⟩:=B9 h;obtain⟨_,rfl⟩:=J9 g;obtain⟨n,l,o,h⟩:=B9 h;obtain⟨u,t,q,h⟩:=B9 h;obtain⟨z,b,F,h⟩:=B9 h;obtain⟨rfl,rfl⟩:=I3 h;obtain⟨j,w,rfl,S,a1,c1,v,f1⟩:=i.rm _ _ _ _ _ _ _ θ o;obtain⟨T,A,P,c2,e2,f2⟩:=MR y q;obtain⟨Z,B,R,D,e3,f3⟩:=i.block _ _ _ _ F;have c1:=c1;have v:Q (M8 τ<|eG j)+1+(s.i+1+1)<=n.i:=v;have N:=c1.app<|c2.cons D.l;refine⟨.nd 6 [] 0<|j++[T,Z],w6 a1 η A P B R,by grind[aP,Nt.k],N.node _ 6 [] 0 _ ?_,?_,?_⟩
  .show _=(⟨6,(l++[t,b]).getLastD 0,0,0,(l++[t,b]).dropLast.dropLast,[],0,(l++[t,b]).dropLast.getLastD 0,0⟩:Nd);rw[EY,UY,UX];rfl
  .rw[qC _ _<|by exact vQ _,uC,UV];grind
  .rw[qB _ _<|by exact vQ _,pN,UV];omega
 split at h
 .obtain⟨m,l,g,h⟩:=B9 h;obtain⟨rfl,rfl⟩:=I3 h;obtain⟨j,w,rfl,a,c,e,f⟩:=i.oq _ _ _ _ _ _ _ g;have c:=c;have e:Q (M8 τ<|eG j)+1+(s.i+1)<=m.i:=e;refine⟨.nd 11 [] 0 j,Lc a,by grind[aP,Nt.k],c.node _ 11 [] 0 _ K,?_,?_⟩
  .rw[qC _ _<|by exact vQ _,uC,ZZ];grind
  .rw[qB _ _<|by exact vQ _,pN,ZZ];omega
 split at h
 .obtain⟨m,l,g,h⟩:=B9 h;obtain⟨rfl,rfl⟩:=I3 h;obtain⟨j,w,rfl,S,a,c,e,f⟩:=i.rp _ _ _ _ _ _ _ θ g;have c:=c;have e:Q (M8 τ<|eG j)+1+(s.i+1)<=m.i:=e;refine⟨.nd 10 [] 0 j,Ld a η,by grind[aP,Nt.k],c.node _ 10 [] 0 _ K,?_,?_⟩
  .rw[qC _ _<|by show 5<=jO 10 [];exact vQ _,uC,ZX];grind
  .rw[qB _ _<|by show 5<=jO 10 [];exact vQ _,pN,ZX];omega
 .obtain⟨m,_,g,h⟩:=B9 h;obtain⟨_,rfl⟩:=J9 g;obtain⟨n,a4,o,h⟩:=B9 h;obtain⟨u,_,q,h⟩:=B9 h;obtain⟨_,rfl⟩:=J9 q;obtain⟨rfl,rfl⟩:=S7 h;obtain⟨hd,t,a,b,c,e,f⟩:=i.expr _ _ _ _ o;rw[oK _ b]at e;rw[oL _ b]at f;have c:fE s t n.nx a4:=c;have e:Q (me t).1+(s.i+1)<=n.i:=e;have g:=C2f 5<|pt t;have o:=C7f 5<|pt t;rw[uC]at g;rw[pN]at o;refine⟨t,a,b,c,?_,W⟩;show _<=n.i+1;omega
def SK{s a}{b:uZ}{u}(h:(if Q b=0 then C (.ok s ()) else aC L s [44])=C (.ok a u)):a.N=s.N/\a.T=s.T/\a.i=s.i+(if Q b=0 then 0 else 1):=by
 split at h
 .grind
 .rename_i c;obtain⟨_,rfl⟩:=J9 h;exact⟨K,K,by rw[wY c];rfl⟩
def fE.base{s d e}{t}{x}(h:fE d t e x)(f:d.N=s.N)(g:d.T=s.T):fE s t e x:=by
 obtain⟨a,b,c⟩:=h;rw[f,g]at*;exact⟨a,b,c⟩
def NY(a:uZ)(y)(t)(d){i b c j}(g:b=i+(if Q a=0 then 0 else 1))(h:Q (me t).1+b<=c)(e:Q (M8 (ê<|Q (a++[y])=0)<|eG d)+1+c<=j):Q (M8 (ê<|Q a=0)<|eG<|t::d)+1+i<=j:=by
 have f:ê (Q (a++[y])=0)=κ:=θ;rw[f]at e;simp only[J5,M8,qQ,uC];grind
def ik(i:NF L r):∀e d s m g j l,(step L r).M .expr e d s m g=C (.ok j l)->Li 1 1 d (λp=>aP p.k) s j g l:=by
 intro e d s m g j l h;have h:(if aL L s.i [e] then C<|.ok s.nx g
  else A8 (if Q g=0 then C (.ok s ()) else aC L s [44]) λs _=>A8 (part L r d s m .expr) λs x=>r.M .expr e d s x.2<|g++[x.1])=C (.ok j l):=h;split at h
 .obtain⟨rfl,rfl⟩:=S7 h;refine⟨[],[],θ,θ,cX.nil s,?_,by grind[mx,eG]⟩;show Q (M8 _ [])+1+s.i<=s.i+1;grind[M8]
 .obtain⟨G,_,o,h⟩:=B9 h;have k:=SK o;obtain⟨H,x,q,h⟩:=B9 h;obtain⟨M,y,u,v⟩:=B9 q;obtain⟨rfl,rfl⟩:=S7 v;obtain⟨D,t,a,b,c,e,f⟩:=i.expr _ _ _ _ u;rw[oK _ b]at e;rw[oL _ b]at f;have c:=c.base k.1 k.2.1;obtain⟨n,w,rfl,w2,A,z,B⟩:=i.oq _ _ _ _ _ _ _ h;refine⟨t::n,y::w,θ,λp F=>?_,c.cons A,NY g y t n k.2.2 e z,?_⟩
  .grind
  grind[J5,mx,pN]
def YI{a}{x:bZ}(h:a.Nodup)(b:x ∉ a):(a++[x]).Nodup:=η
def iq(M:qR L)(i:NF L r):∀e d s m j o l,m.Nodup->(step L r).M .obj e d s m j=C (.ok o l)->∃k q,l=j++q/\(m++k.map Nt.tx).Nodup/\(∀p∈k,Wn p/\p.k=15)/\cX s k o q/\Q (M8 (ê<|Q j=0)<|eG k)+1+s.i<=o.i/\mx 0 (eG k)<=20-d:=by
 intro e d s m j o l R h;have h:(if aL L s.i [e] then C<|.ok s.nx j
  else A8 (if Q j=0 then C (.ok s ()) else aC L s [44]) λs _=>A8 (part L r d s m .obj) λs x=>r.M .obj e d s x.2<|j++[x.1])=C (.ok o l):=h;split at h
 .obtain⟨rfl,rfl⟩:=S7 h;refine⟨[],[],θ,η,θ,cX.nil s,?_,by grind[mx,eG]⟩;show Q (M8 _ [])+1+s.i<=s.i+1;grind[M8]
 .obtain⟨w,_,B,h⟩:=B9 h;have u:=SK B;obtain⟨s2,x,g,h⟩:=B9 h;obtain⟨s3,n,D,g⟩:=B9 g;obtain⟨N,P,S,rfl⟩:=fW D;obtain⟨s4,_,F,g⟩:=B9 g;obtain⟨_,rfl⟩:=J9 F;obtain⟨z,y,G,g⟩:=B9 g;obtain⟨s6,a2,H,g⟩:=B9 g;obtain⟨rfl,rfl⟩:=I3 H;obtain⟨rfl,rfl⟩:=S7 g;obtain⟨hd,t,a,b,c,e,f⟩:=i.expr _ _ _ _ G;rw[oK _ b]at e;rw[oL _ b]at f;have c:=fE.base c u.1 u.2.1;have e:Q (me t).1+(w.i+1+1)<=z.i:=e;obtain⟨k,q,rfl,nd,w2,Z,T,d2⟩:=i.rp _ _ _ _ _ _ _ (YI R S) h;have A:=c.l.node z.i 15 n 0 ⟨15,y,0,0,[],n,0,-1,(tk L w.i).at'⟩ K;refine⟨.nd 15 n 0 [t]::k,_::q,θ,by grind[Nt.tx],λp v=>?_,A.cons Z,NY j _ _ k u.2.2 ?_ T,?_⟩
  .obtain rfl|v:=jW.1 v
   .exact⟨Kz (by rw[P];exact M _ N) a b,K⟩
   grind
  .rw[Ie];grind
  grind[J5,mx,pN,Ie]
def iy(H:qR L)(y:YF L r)(i:NF L r):∀e d s k f m l,k.Nodup->(step L r).M .par e d s k f=C (.ok m l)->∃g o,l=f++o/\(k++g.map Nt.tx).Nodup/\(∀p∈g,Wn p/\p.k=16)/\cX s g m o/\Q (M8 (ê<|Q f=0)<|eG g)+1+s.i<=m.i/\mx 0 (eG g)<=20-d:=by
 intro e d s k f m l P h;have h:(if aL L s.i [e] then C<|.ok s.nx f
  else A8 (if Q f=0 then C (.ok s ()) else aC L s [44]) λs _=>A8 (part L r d s k .par) λs x=>r.M .par e d s x.2<|f++[x.1])=C (.ok m l):=h;split at h
 .obtain⟨rfl,rfl⟩:=S7 h;refine⟨[],[],θ,η,θ,cX.nil s,?_,by grind[mx,eG]⟩;show Q (M8 _ [])+1+s.i<=s.i+1;grind[M8]
 .obtain⟨v,_,B,h⟩:=B9 h;have q:=SK B;obtain⟨s2,x,j,h⟩:=B9 h;obtain⟨s3,n,D,j⟩:=B9 j;obtain⟨M,N,R,rfl⟩:=fW D;obtain⟨w,z,F,j⟩:=B9 j;obtain⟨s6,a3,G,j⟩:=B9 j;obtain⟨rfl,rfl⟩:=I3 G;obtain⟨rfl,rfl⟩:=S7 j;obtain⟨t,a,b,c,e,a2⟩:=MR y F;have c:=fE.base c q.1 q.2.1;have e:Q (oV<|pt t)+(v.i+1)<=w.i:=e;obtain⟨g,o,rfl,nd,w2,T,S,Z⟩:=i.rm _ _ _ _ _ _ _ (YI P R) h;have A:=c.l.node w.i 16 n 0 ⟨16,0,0,0,[],n,0,z,(tk L v.i).at'⟩ K;refine⟨.nd 16 n 0 [t]::g,_::o,θ,by grind[Nt.tx],λp u=>?_,A.cons T,NY f _ _ g q.2.2 ?_ S,?_⟩
  .obtain rfl|u:=jW.1 u
   .exact⟨UK (by rw[N];exact H _ M) a b,K⟩
   grind
  .rw[Ig];grind
  grind[J5,mx,pN,Ig]
def Zz(i:NF L r):∀d s b x,(step L r).block d s=C (.ok b x)->∃t,Wn t/\t.k=26/\fE s t b x/\Q (me t).1+s.i<=b.i/\(me t).2<=20-d:=by
 intro d s b x h;obtain⟨o,_,j,h⟩:=B9 h;obtain⟨_,rfl⟩:=J9 j;obtain⟨m,l,k,h⟩:=B9 h;obtain⟨rfl,rfl⟩:=I3 h;obtain⟨g,n,rfl,a,c,e,f⟩:=i.gj _ _ _ _ _ k;have c:=c;have e:Q (oP<|eG g)+1+(s.i+1)<=m.i:=e;refine⟨.nd 26 [] 0 g,mM a,K,c.node _ 26 [] 0 _ K,?_,?_⟩
 .rw[Ij];grind
 .grind[Ij]
def Og(i:NF L r):∀d s g j l,(step L r).gj d s g=C (.ok j l)->Fl 1 d s j g l:=by
 intro d s g j l h;have h:(if aL L s.i [[125]] then C (.ok s.nx g) else A8 (r.gy d s) λs x=>r.gj d s<|g++[x])=C (.ok j l):=h;split at h
 .obtain⟨rfl,rfl⟩:=S7 h;refine⟨[],[],θ,θ,cX.nil s,?_,by grind[mx,eG]⟩;show Q (oP [])+1+s.i<=s.i+1;grind[oP]
 .obtain⟨w,x,k,h⟩:=B9 h;obtain⟨t,a,b,c,e,f⟩:=i.gy _ _ _ _ k;obtain⟨n,m,rfl,w2,o,v,q⟩:=i.gj _ _ _ _ _ h;refine⟨t::n,x::m,θ,λp u=>?_,c.cons o,?_,?_⟩
  .grind
  .grind[J5,oP,qQ,uC]
  grind[J5,mx,pN]
def iz(i:NF L r):∀d s g j l,(step L r).jd d s g=C (.ok j l)->Fl 0 d s j g l:=by
 intro d s g j l h;have h:(if (tk L s.i).x=6 then C (.ok s g) else A8 (r.gy d s) λs x=>r.jd d s<|g++[x])=C (.ok j l):=h;split at h
 .obtain⟨rfl,rfl⟩:=S7 h;refine⟨[],[],θ,θ,cX.nil s,?_,by grind[mx,eG]⟩;grind[oP,eG]
 .obtain⟨w,x,k,h⟩:=B9 h;obtain⟨t,a,b,c,e,f⟩:=i.gy _ _ _ _ k;obtain⟨n,m,rfl,w2,o,v,q⟩:=i.jd _ _ _ _ _ h;refine⟨t::n,x::m,θ,λp u=>?_,c.cons o,?_,?_⟩
  .grind
  .grind[J5,oP,qQ,uC]
  grind[J5,mx,pN]
def E2e(i:NF L r):∀d s g x,(step L r).gy d s=C (.ok g x)->∃t,Wn t/\(17<=t.k/\t.k<=25)/\fE s t g x/\Q (me t).1+s.i<=g.i/\(me t).2+1<=20-d:=by
 intro d s g x h;obtain⟨_,j,h⟩:=IU h;obtain⟨t,a,b,c,e,f⟩:=i.any _ _ _ _ h;grind
end
theorem J7(k)(a)(n)(l):(bV k a n l).x=k:=by
 grind[bV]
def fE.split{s a}{k}{c}{n}{b}{x}(h:fE s (.nd k c n b) a x)(i):
 ∃l,(a.N.getD x.toNat kB).fl=bV k c n l/\cX s b ⟨i,a.N.take x.toNat,a.T⟩ l:=by
 have m:=h.fp;obtain⟨d,g,j⟩:=h;rw[bW,nN]at j;rw[nN]at m;have f:x.toNat<Q a.N:=W;have e:a.N=a.N.take x.toNat++[a.N.getD x.toNat kB]:=by
  have:a.N.getD x.toNat kB=a.N[x.toNat]:=by simp[f]
  rw[this,<-nQ f,List.take_of_length_le W]
 rw[e,iR,zY,bY,List.map_nil,<-ľ]at d;have o:(a.N.take x.toNat).map Nd.fl=s.N.map Nd.fl++U2 (Q s.N) (Q s.T) b/\[(a.N.getD x.toNat kB).fl]=[bV k c n<|bD (Q s.N) (Q s.T) b]:=by
  refine List.append_inj d ?_;rw[lZ,List.length_take,qQ,lZ,vM];omega
 exact⟨_,η,o.1,g,K⟩
def Tt{t:Nt}(h:aP t.k):∃k b n a,t=.nd k b n a:=by
 cases t with
 |nd k b n a=>simp
 |ty o=>cases o<;>simp[aP,Nt.k]at h
section
variable{L:List Tk}{r:Sp}
theorem Vh(a3:NF L r){d}{s g T}{x a4}(h1:r.expr d s=C (.ok g x))(n:lX (g.N.getD x.toNat kB).x≠0)
 (h:(A8 (r.expr d ⟨g.i+1,g.N.take x.toNat,g.T⟩) λi v=>A8 (aC L i [59]) λs3 _=>aE s3<|kJ (g.N.getD x.toNat kB) v)=C (.ok T a4)):
 ∃t,Wn t/\(17<=t.k/\t.k<=25)/\fE s t T a4/\Q (me t).1+s.i<=T.i/\(me t).2<=20-d:=by
 obtain⟨hd,t,a,b,a5,e,f⟩:=a3.expr _ _ _ _ h1;rw[oK _ b]at e;rw[oL _ b]at f;obtain⟨i,v,h2,h⟩:=B9 h;obtain⟨s3,_,h3,h⟩:=B9 h;obtain⟨_,rfl⟩:=J9 h3;obtain⟨rfl,rfl⟩:=I3 h;obtain⟨k,tx,ab,R,rfl⟩:=Tt b;obtain⟨aa,j,B⟩:=a5.split<|g.i+1;obtain⟨_,u,F,o,c2,G,f2⟩:=a3.expr _ _ _ _ h2;rw[oK _ o]at G;rw[oL _ o]at f2;have G:Q (me u).1+(g.i+1)<=i.i:=G;have w:=B.app c2.l;generalize g.N.getD x.toNat kB=m at j n;have a7:m.x=k:=by
  have:=congrArg Nd.x j;rw[J7]at this;exact this
 rw[a7]at n;rw[Wn]at a;obtain⟨sh,c,Z⟩:=a;have a6:k=5\/k=8\/k=9:=by
  unfold lX at n;split at n
  .omega
  split at n
  .omega
  split at n
  .omega
  .omega
 have w:=w;obtain rfl|rfl|rfl:=a6
 .have a8:R=[]:=by simpa[bO]using sh
  subst a8;have y:=B.2.2;subst y;have c:=c;obtain⟨mk,N,P,mc,ml,l,D,my,A⟩:=m;simp[Nd.fl,bV]at j;obtain⟨rfl,rfl,rfl,rfl,rfl,rfl,rfl,rfl⟩:=j;rw[Lx]at e f;have z:=w.node i.nx.i 18 l 0 (kJ ⟨5,0,0,0,[],l,D,-1,A⟩ v) (by rw[c.2];rfl);refine⟨.nd 18 l 0 [u],Ky c.1 F o,by simp[Nt.k],z,?_,?_⟩
  .rw[Ah];simp at e⊢;show _<=i.i+1;omega
  grind[Ah]
 .obtain⟨q,H,M⟩:∃q,R.map Nt.k=[q]/\aP q:=by grind[bO]
  obtain⟨p,rfl,rfl⟩:=k1 H;have c:=c;have y:=B.2.2;subst y;obtain⟨mk,N,P,mc,ml,l,D,my,A⟩:=m;simp[Nd.fl,bV]at j;obtain⟨rfl,rfl,rfl,rfl,rfl,rfl,rfl,rfl⟩:=j;rw[UU]at e f;have z:=w.node i.nx.i 19 l 0 (kJ ⟨8,bW (Q s.N) (Q s.T) p,0,0,[],l,D,-1,A⟩ v) (by rw[c.2];rfl);refine⟨.nd 19 l 0 [p,u],Kx c.1 Z.1 M F o,by simp[Nt.k],z,?_,?_⟩
  .rw[Ak];simp at e⊢;show _<=i.i+1;omega
  grind[Ak]
 .obtain⟨q,S,H,M,a9⟩:∃q S,R.map Nt.k=[q,S]/\aP q/\aP S:=by grind[bO]
  obtain⟨p,p2,rfl,rfl,rfl⟩:=k2 H;have c:tx=[]/\ab=0:=by simpa[own]using c
  obtain⟨rfl,rfl⟩:=c;obtain⟨p',ac,y⟩:∃a b,aa=[a,b]:=⟨_,_,B.2.2⟩;subst y;obtain⟨mk,N,P,mc,ml,l,D,my,A⟩:=m;simp[Nd.fl,bV]at j;obtain⟨rfl,rfl,rfl,rfl,rfl,rfl,rfl,rfl⟩:=j;rw[UT]at e f;have z:=w.node i.nx.i 20 [] 0 (kJ ⟨9,N,P,0,[],[],0,-1,A⟩ v) K;refine⟨.nd 20 [] 0 [p,p2,u],Kw Z.1 M Z.2.1 a9 F o,by simp[Nt.k],z,?_,?_⟩
  .rw[Ao];simp at e⊢;show _<=i.i+1;omega
  grind[Ao]
def Do(i:NF L r)(k)(p:k=21\/k=24){d}{s j}{x}{m}(h:(A8 (r.expr d s.nx) λg x=>A8 (aC L g [59]) λl _=>aE l ⟨k,x,0,0,[],[],0,-1,m⟩)=C (.ok j x)):
 ∃t,Wn t/\(17<=t.k/\t.k<=25)/\fE s t j x/\Q (me t).1+s.i<=j.i/\(me t).2<=20-d:=by
 obtain⟨g,y,n,h⟩:=B9 h;obtain⟨l,_,o,h⟩:=B9 h;obtain⟨_,rfl⟩:=J9 o;obtain⟨rfl,rfl⟩:=I3 h;obtain⟨q,t,a,b,c,e,f⟩:=i.expr _ _ _ _ n;rw[oK _ b]at e;rw[oL _ b]at f;have c:=c;have e:Q (me t).1+(s.i+1)<=g.i:=e;obtain rfl|rfl:=p
 .refine⟨.nd 21 [] 0 [t],ER a b,by simp[Nt.k],c.l.node _ 21 [] 0 _ K,?_,?_⟩
  .rw[Au];simp;show _<=g.i+1;omega
  grind[Au]
 .refine⟨.nd 24 [] 0 [t],Kq a b,by simp[Nt.k],c.l.node _ 24 [] 0 _ K,?_,?_⟩
  .rw[Bc];simp;show _<=g.i+1;omega
  grind[Bc]
def Vc(hL:qR L)(y:YF L r)(i:NF L r):∀d s B x,(step L r).any d s=C (.ok B x)->∃t,Wn t/\(17<=t.k/\t.k<=25)/\fE s t B x/\Q (me t).1+s.i<=B.i/\(me t).2<=20-d:=by
 intro d s B x h;have h:(if aL L s.i [[108,101,116]] then
  if (tk L<|s.i+1).x=1 then A8 (bC L r d s.nx.nx) λf t=>A8 (aC L f [61]) λg _=>A8 (r.expr d g) λm x=>A8 (aC L m [59]) λk _=>
   aE k ⟨17,x,0,0,[],(tk L<|s.i+1).text,0,t,(tk L s.i).at'⟩
  else bF L (s.i+1) 1
  else if aL L s.i [[112,114,105,110,116]] then A8 (r.expr d s.nx) λf x=>A8 (aC L f [59]) λg _=>aE g ⟨21,x,0,0,[],[],0,-1,(tk L s.i).at'⟩
  else if aL L s.i [[114,101,116,117,114,110]] then A8 (r.expr d s.nx) λf x=>A8 (aC L f [59]) λg _=>aE g ⟨24,x,0,0,[],[],0,-1,(tk L s.i).at'⟩
  else if aL L s.i [[105,102]] then A8 (aC L s.nx [40]) λf _=>A8 (r.expr d f) λg x=>A8 (aC L g [41]) λm _=>A8 (r.block d m) λk y=>
   A8 (if aL L k.i [[101,108,115,101]] then r.block d k.nx else C<|.ok k<|-1) λD z=>aE D ⟨22,x,y,z,[],[],0,-1,(tk L s.i).at'⟩
  else if aL L s.i [[119,104,105,108,101]] then A8 (aC L s.nx [40]) λf _=>A8 (r.expr d f) λg x=>A8 (aC L g [41]) λm _=>A8 (r.block d m) λk y=>
   aE k ⟨23,x,y,0,[],[],0,-1,(tk L s.i).at'⟩
  else A8 (r.expr d s) λf x=>
   if aL L f.i [[61]] then
    if lX (f.N.getD x.toNat kB).x=0 then bF L f.i 1
    else A8 (r.expr d ⟨f.i+1,f.N.take x.toNat,f.T⟩) λg v=>A8 (aC L g [59]) λm _=>aE m<|kJ (f.N.getD x.toNat kB) v
   else A8 (aC L f [59]) λg _=>aE g ⟨25,x,0,0,[],[],0,-1,iC f x⟩)=C (.ok B x):=h;split at h
 .split at h
  .rename_i a6;obtain⟨f,z,o,h⟩:=B9 h;obtain⟨g,_,p,h⟩:=B9 h;obtain⟨_,rfl⟩:=J9 p;obtain⟨m,v,w,h⟩:=B9 h;obtain⟨k,_,A,h⟩:=B9 h;obtain⟨_,rfl⟩:=J9 A;obtain⟨rfl,rfl⟩:=I3 h;obtain⟨S,a1,Z,c1,R,f1⟩:=MR y o;obtain⟨N,u,n,j,c2,l,f2⟩:=i.expr _ _ _ _ w;rw[oK _ j]at l;rw[oL _ j]at f2;have c1:=c1;have c2:=c2;have R:Q (oV<|pt S)+(s.i+1+1)<=f.i:=R;have l:Q (me u).1+(f.i+1)<=m.i:=l;refine⟨.nd 17 (tk L<|s.i+1).text 0 [S,u],UJ (hL _ a6) a1 Z n j,by simp[Nt.k],(c1.cons c2.l).node _ 17 _ 0 _ K,?_,?_⟩
   .rw[Ae];simp;show _<=m.i+1;omega
   grind[Ae]
  grind[bF]
 split at h
 .exact Do i 21 (.inl K) h
 split at h
 .exact Do i 24 (.inr K) h
 split at h
 .obtain⟨f,_,o,h⟩:=B9 h;obtain⟨_,rfl⟩:=J9 o;obtain⟨g,v,p,h⟩:=B9 h;obtain⟨m,_,w,h⟩:=B9 h;obtain⟨_,rfl⟩:=J9 w;obtain⟨k,b,A,h⟩:=B9 h;obtain⟨D,z,M,h⟩:=B9 h;obtain⟨rfl,rfl⟩:=I3 h;obtain⟨N,u,n,j,c2,l,f2⟩:=i.expr _ _ _ _ p;rw[oK _ j]at l;rw[oL _ j]at f2;obtain⟨F,G,P,H,q,f3⟩:=i.block _ _ _ _ A;have c2:=c2;have l:Q (me u).1+(s.i+1+1)<=g.i:=l;have q:Q (me F).1+(g.i+1)<=k.i:=q;obtain⟨te,T,i4,c4,e4,f4⟩:∃t,Wn t/\(t.k=26\/t.k=-1)/\fE k t D z/\Q (if t.k=-1 then [] else (2,[101,108,115,101])::(me t).1)+k.i<=D.i/\(me t).2<=20-d:=by
   split at M
   .obtain⟨t,a,a7,c,e,a5⟩:=i.block _ _ _ _ M;have e:Q (me t).1+(k.i+1)<=D.i:=e;refine⟨t,a,.inl a7,c,?_,a5⟩;grind
   .obtain⟨rfl,rfl⟩:=S7 M;exact⟨.ty none,trivial,.inr K,fE.none _,by simp[Nt.k],wQ _⟩
  refine⟨.nd 22 [] 0 [u,F,te],Ku n j G P T i4,by simp[Nt.k],(c2.cons<|H.cons c4.l).node _ 22 [] 0 _ K,?_,?_⟩
  .rw[Ax];grind
  .grind[Ax]
 split at h
 .obtain⟨f,_,o,h⟩:=B9 h;obtain⟨_,rfl⟩:=J9 o;obtain⟨g,v,p,h⟩:=B9 h;obtain⟨m,_,w,h⟩:=B9 h;obtain⟨_,rfl⟩:=J9 w;obtain⟨k,b,A,h⟩:=B9 h;obtain⟨rfl,rfl⟩:=I3 h;obtain⟨N,u,n,j,c2,l,f2⟩:=i.expr _ _ _ _ p;rw[oK _ j]at l;rw[oL _ j]at f2;obtain⟨F,G,P,H,q,f3⟩:=i.block _ _ _ _ A;have c2:=c2;have l:Q (me u).1+(s.i+1+1)<=g.i:=l;have q:Q (me F).1+(g.i+1)<=k.i:=q;refine⟨.nd 23 [] 0 [u,F],Kt n j G P,by simp[Nt.k],(c2.cons H.l).node _ 23 [] 0 _ K,?_,?_⟩
  .rw[Ba];grind
  .grind[Ba]
 .obtain⟨f,v,o,h⟩:=B9 h;split at h
  .grind[bF,Vh]
  .obtain⟨g,_,p,h⟩:=B9 h;obtain⟨_,rfl⟩:=J9 p;obtain⟨rfl,rfl⟩:=I3 h;obtain⟨N,u,n,j,c2,l,f2⟩:=i.expr _ _ _ _ o;rw[oK _ j]at l;rw[oL _ j]at f2;have c2:=c2;refine⟨.nd 25 [] 0 [u],Km n j,by simp[Nt.k],c2.l.node _ 25 [] 0 _ K,?_,?_⟩
   .rw[Bh];simp;show _<=f.i+1;omega
   grind[Bh]
end
def Dd{L}(a:qR L)(b:FG L)(c:FZ L):∀f,NF L<|gW L f
 |0=>by constructor<;>(intros;contradiction)
 |f+1=>
  have i:=Dd a b c f;have y:=vC a f;⟨Ż i,Ź i,Vk i,E3e i,Ve i,E4e i,E1e a y i,Ol a b c y i,ik i,iq a i,iy a y i,Zz i,Og i,E2e i,Vc a y i,iz i⟩
def Qf{L}(k:qR L)(m:FG L)(n:FZ L){d}{x}(h:Ev L (lB 0 ⟨0,[],[]⟩)<|.ok d x):
 ∃b,(∀p∈b,Wn p/\17<=p.k/\p.k<=25)/\d.N.map Nd.fl=iR 0 0 (.nd 26 [] 0 b)/\d.T=Y2 0 b/\Q (oP<|eG b)<=d.i/\mx 1 (eG b)<=20:=by
 obtain⟨f,o⟩:=h;have h:=o f<|vQ _;obtain⟨q,l,j,h⟩:=B9 h;obtain⟨rfl,rfl⟩:=I3 h;obtain⟨b,r,g,a,c,e,f⟩:=(Dd k m n f).jd _ _ _ _ _ j;rw[uY]at g;subst g;have i:=c.node q.i 26 [] 0 ⟨26,0,0,0,l,[],0,-1,0⟩ K;refine⟨b,a,by simpa using i.1,by simpa[gL]using i.2.1,W,W⟩
def Eo(t:Tr):Prop:=∀a,aX a->aX (a++gN (Q a) t)/\tr (a++gN (Q a) t) (Q a+fG t-1)=t
def yM:∀(b),(∀x∈b,Eo x)->∀a,aX a->aX (a++O9 (Q a) b)/\(∀x∈eW (Q a) b,0<=x/\x<(Q (a++O9 (Q a) b)))/\(eW (Q a) b).map (λx=>tr (a++O9 (Q a) b) x.toNat)=b
 |[],_,a,h=>by grind[O9,eW]
 |t::r,c,a,h=>by
  obtain⟨d,k⟩:=c t θ a h;have j:Q (a++gN (Q a) t)=Q a+fG t:=by rw[qQ,tM]
  obtain⟨f,g,i⟩:=yM r (λx m=>c x η) (a++gN (Q a) t) d;rw[j]at f g i;have e:a++O9 (Q a) (t::r)=a++gN (Q a) t++O9 (Q a+fG t) r:=by rw[O9,qZ]
  rw[e,eW];have l:=yR t;grind[vA]
theorem QM{c d:Type}:∀(a:List c) (b:List d),Q a=Q b->(a.zip b).map (·.1)=a
 |[],_,_=>K
 |x::a,[],h=>η
 |x::a,y::b,h=>by simp only[List.zip_cons_cons,bY];rw[QM a b η]
theorem Bj{d c e:Type}(f:c->e):∀(a:List d) (b),Q a=Q b->(a.zip b).map (λp=>f p.2)=b.map f
 |[],[],_=>K
 |[],_::_,h=>η
 |x::a,[],h=>Ω
 |x::a,y::b,h=>by simp only[List.zip_cons_cons,bY];rw[Bj f a b η]
def GB{a}{b}{k}{c:List bZ}(e:k≠9)(d:aX<|a++O9 (Q a) b)(f:eJ (kH k c<|eW (Q a) b) (Q (a++O9 (Q a) b)))
 (g:Tr.nd (kH k c<|eW (Q a) b).x ((kH k c<|eW (Q a) b).eo.map (·.1)) ((if (kH k c<|eW (Q a) b).x=8\/(kH k c<|eW (Q a) b).x=9 then [tr (a++O9 (Q a) b) (kH k c<|eW (Q a) b).fh.toNat] else [])++((kH k c<|eW (Q a) b).eo.map λp=>tr (a++O9 (Q a) b) p.2.toNat)++(kH k c<|eW (Q a) b).M.map λx=>tr (a++O9 (Q a) b) x.toNat)=.nd k c b):
 aX (a++gN (Q a) (.nd k c b))/\tr (a++gN (Q a) (.nd k c b)) (Q a+fG (.nd k c b)-1)=.nd k c b:=by
 rw[UA _ _ _ _ e,<-ľ];refine⟨d.snoc f,?_⟩;grind[fG,O9,qQ,zF,wG]
def MN(t)(h:Wf t):Eo t:=by
 induction h with
 |plain k z r=>
  intro d g;obtain⟨a,b,c⟩:=yM [] θ d g;have i:kH k [] (eW (Q d) [])=⟨k,[],[],0⟩:=by rw[kH,wY W,wY W,wY W]
  refine GB W a ?_ ?_
  .rw[i];exact .inl ⟨z,r,K,K⟩
  grind
 |obj q j l nd H o m=>
  intro d g;obtain⟨a,b,c⟩:=yM j m d g;have i:kH 7 q (eW (Q d) j)=⟨7,q.zip<|eW (Q d) j,[],0⟩:=K;have s:Q q=Q (eW (Q d) j):=by rw[JU,l]
  refine GB W a ?_ ?_
  .rw[i];refine .inr<|.inl ⟨K,K,?_,λp u=>?_⟩
   .grind[QM]
   .have:=List.of_mem_zip u;grind
  .rw[i];simp only[List.map_nil,iY];rw[QM _ _ s,Bj (λx:Int=>tr (d++O9 (Q d) j) x.toNat) _ _ s,c,wY ζ];rfl
 |arr t o m=>
  intro d g;obtain⟨a,b,c⟩:=yM [t] η d g;have i:kH 8 [] (eW (Q d) [t])=⟨8,[],[],(eW (Q d) [t]).headD 0⟩:=K;rw[eW,eW]at b c;simp at c;refine GB W a ?_ ?_
  .rw[i,eW];exact .inr (.inr<|.inl ⟨K,K,K,b _ θ⟩)
  .rw[i,eW];grind
 |uni j r o m=>
  intro d g;obtain⟨a,b,c⟩:=yM j m d g;have i:kH 10 [] (eW (Q d) j)=⟨10,[],eW (Q d) j,0⟩:=K;refine GB W a ?_ ?_
  .rw[i];exact .inr (.inr<|.inr<|.inr ⟨K,K,η,b⟩)
  grind
 |fn t f o u F D=>
  intro d g;obtain⟨a,b,c⟩:=yM f D d g;have l:Q (d++O9 (Q d) f)=Q d+S5 f:=by rw[qQ,zF]
  obtain⟨n,c2⟩:=F _ a;rw[l]at n c2;have A:Q (d++O9 (Q d) f++gN (Q d+S5 f) t)=Q d+S5 f+fG t:=by rw[qQ,l,tM]
  have L:=yR t;have e:d++gN (Q d) (.nd 9 []<|t::f)=d++O9 (Q d) f++gN (Q d+S5 f) t++[⟨9,[],eW (Q d) f,((Q d+S5 f+fG t:Nat):Int)-1⟩]:=by
   rw[gN,yY K,oS];simp
  rw[e];have v:eJ ⟨9,[],eW (Q d) f,((Q d+S5 f+fG t:Nat):Int)-1⟩ (Q (d++O9 (Q d) f++gN (Q d+S5 f) t)):=by
   refine .inr<|.inr<|.inr<|.inl ⟨K,K,?_,?_,λx B=>?_⟩
   .grind
   .grind
   .grind
  refine⟨n.snoc v,?_⟩;have w:Q d+fG (.nd 9 []<|t::f)-1=Q (d++O9 (Q d) f++gN (Q d+S5 f) t):=by rw[A,fG,S5];omega
  rw[w,wG n v];simp only[List.map_nil,iY];rw[yY<|.inr trivial];have y:(((Q d+S5 f+fG t:Nat):Int)-1).toNat=Q d+S5 f+fG t-1:=W;rw[y,c2];have G:(eW (Q d) f).map (λx=>tr (d++O9 (Q d) f++gN (Q d+S5 f) t) x.toNat)=f:=by
   refine Eq.trans (List.map_congr_left λx B=>?_) c;exact vA _ a η
  grind
mutual
theorem RD:∀(t:Nt),Wn t->∀a,aX a->aX (a++gL (Q a) t)
 |.ty none,_,a,h=>by grind[gL]
 |.ty<|C t,b,a,h=>by rw[gL];exact(MN t b a h).1
 |.nd k f n c,b,a,h=>by rw[gL];rw[Wn]at b;exact RQ c b.2.2 a h
theorem RQ:∀(c:List Nt),dP c->∀a,aX a->aX (a++Y2 (Q a) c)
 |[],_,a,h=>by grind[Y2]
 |p::r,b,a,h=>by
  rw[dP]at b;have d:=RD p b.1 a h;have e:=RQ r b.2 _ d;rw[qQ,wM]at e;grind[Y2]
end
theorem DI(k)(a)(n)(l):(bV k a n l).text=a/\(bV k a n l).n=n:=by
 grind[bV]
theorem NU:∀(a) (b c),Q (bD b c a)=Q a
 |[],_,_=>K
 |p::r,b,c=>by rw[bD,jQ,jQ,NU r]
mutual
theorem Bq:∀(t:Nt),Wn t->∀(N:List Nd) (T:List Ty) (b d:List Nd) (a e:List Ty),N.map Nd.fl=b++iR (Q b) (Q a) t++d->T=a++gL (Q a) t++e->aX a->At N T t (bW (Q b) (Q a) t)
 |.ty none,_,N,T,b,d,a,e,_,_,_=>Ω
 |.ty<|C t,f,N,T,b,d,a,e,_,h,g=>by
  rw[At,bW];obtain⟨l,w⟩:=MN t f a g;have y:=yR t;have x:Q (a++gN (Q a) t)=Q a+fG t:=by rw[qQ,tM]
  rw[gL]at h;grind[vA]
 |.nd k m n c,f,N,T,b,d,a,e,i,h,g=>by
  rw[Wn]at f;rw[At,bW];rw[gL]at h;rw[iR]at i;have s:=congrArg Q i;simp only[lZ,qQ,vM,jQ,xQ]at s;have o:Q b+aB c<Q N:=W;have j:(N[Q b+aB c]).fl=bV k m n (bD (Q b) (Q a) c):=by
   have l:(N.map Nd.fl)[Q b+aB c]'η=(N[Q b+aB c]).fl:=θ;rw[<-l];simp only[i];rw[List.getElem_append_left η,List.getElem_append_right W];rw[List.getElem_append_right η];simp[vM]
  have q:=(congrArg Nd.x j).trans<|J7 _ _ _ _;have v:=(congrArg Nd.text j).trans (DI _ _ _ _).1;have u:=(congrArg Nd.n j).trans (DI _ _ _ _).2;refine⟨Q b+aB c,by grind[nN],o,q,v,u,bD (Q b) (Q a) c,?_,?_⟩
  .grind[ħ,Ī,lZ,NU]
  .exact WC c f.2.2 N T b ([bV k m n<|bD (Q b) (Q a) c]++d) a e η h g
theorem WC:∀(c:List Nt),dP c->∀(N:List Nd) (T:List Ty) (b d:List Nd) (a e:List Ty),N.map Nd.fl=b++U2 (Q b) (Q a) c++d->T=a++Y2 (Q a) c++e->aX a->kO N T c (bD (Q b) (Q a) c)
 |[],_,_,_,_,_,_,_,_,_,_=>Ω
 |p::r,f,N,T,b,d,a,e,i,h,g=>by
  rw[dP]at f;rw[U2]at i;rw[Y2]at h;rw[kO,bD];refine⟨_,_,K,Bq p f.1 N T b (U2 (Q b+nN p) (Q a+nT p) r++d) a (Y2 (Q a+nT p) r++e) η η g,?_⟩;have:=WC r f.2 N T (b++iR (Q b) (Q a) p) d (a++gL (Q a) p) e (by grind[qQ,R6,wM]) (by grind[qQ,wM])<|RD p f.1 a g;grind[qQ,R6,wM]
end
/-!### How much it is -/
mutual
theorem Y7:∀t:Nt,Wn t->Gd t
 |.ty _,_=>by simp[Gd]
 |.nd k b n a,h=>by rw[Wn]at h;rw[Gd];exact⟨h.1,YQ a h.2.2⟩
theorem YQ:∀a:List Nt,dP a->rH a
 |[],_=>trivial
 |p::r,h=>⟨Y7 p h.1,YQ r h.2⟩
end
def iI:List Nt->Nat
 |[]=>0
 |.ty _::r=>iI r+1
 |.nd _ _ _ _::r=>iI r
theorem MX:∀b a,iI (b++a)=iI b+iI a
 |[],a=>by simp[iI]
 |.ty _::r,a=>by rw[jZ,iI,iI,MX r];omega
 |.nd _ _ _ _::r,a=>by rw[jZ,iI,iI,MX r]
theorem Jj:∀a,(∀p∈a,1<=p.k)->iI a=0
 |[],_=>K
 |.ty o::r,h=>by
  have:=h (.ty o) θ;cases o<;>simp[Nt.k]at this
 |.nd _ _ _ _::r,h=>by rw[iI];exact Jj r λp b=>h p η
theorem tJ{a:List Nt}{l:uZ}(h:a.map Nt.k=l)(b:∀x∈l,1<=x):iI a=0:=by
 grind[Jj,List.mem_map_of_mem]
theorem xS:∀a,iI a<=Q a
 |[]=>vQ _
 |.ty o::r=>by have:=xS r;grind[iI,jQ]
 |.nd _ _ _ _::r=>by have:=xS r;grind[iI,jQ]
theorem DN{p}(h:1<=p.k)(r):iI (p::r)=iI r:=by
 cases p with
 |nd k b n a=>rfl
 |ty o=>cases o<;>simp[Nt.k]at h
def G8{c A B}[Decidable c](h:if c then A else B):(c/\A)\/(¬c/\B):=η
theorem B4e{k}{g}(h:bO k<|g.map Nt.k):iI g<=1:=by
 unfold bO at h;obtain⟨_,h⟩|⟨_,h⟩:=G8 h
 .simp_all[tJ]
 obtain⟨_,h⟩|⟨_,h⟩:=G8 h
 .obtain⟨j,r,h,t,D⟩:=h;have B:Q g=Q j+2:=by have:=congrArg Q h;simpa using this
  have e:g=g.take (Q j)++g.drop (Q j):=(List.take_append_drop _ _).symm;have n:(g.take (Q j)).map Nt.k=j:=by rw[List.map_take,h];simp
  have p:(g.drop (Q j)).map Nt.k=[r,26]:=by rw[List.map_drop,h];simp
  obtain⟨a,b,q,v,w⟩:=k2 p;rw[e,MX,tJ n λx d=>η,q];have:iI [b]=0:=DN W [];cases a<;>(grind[iI])
 obtain⟨_,h⟩|⟨_,h⟩:=G8 h
 .obtain⟨x,j,h,d,s⟩:=h;rw[tJ h (λy f=>by obtain rfl|f:=jW.1 f;exact d.1;exact(s y f).1)];omega
 obtain⟨_,h⟩|⟨_,h⟩:=G8 h
 .obtain⟨x,h,_⟩:=h;obtain⟨a,rfl,_⟩:=k1 h;grind[xS]
 obtain⟨_,h⟩|⟨_,h⟩:=G8 h
 .obtain⟨x,y,h,d,f⟩:=h;rw[tJ h (λz i=>by simp at i;obtain rfl|rfl:=i;exact d.1;exact f.1)];omega
 obtain⟨_,h⟩|⟨_,h⟩:=G8 h
 .rw[tJ K λy f=>η];omega
 obtain⟨_,h⟩|⟨_,h⟩:=G8 h
 .rw[tJ K λy f=>(h y f).1];omega
 obtain⟨_,h⟩|⟨_,h⟩:=G8 h
 .obtain⟨x,h,d⟩:=h;obtain⟨a,b,rfl,l,m⟩:=k2 h;rw[DN<|by rw[l];exact d.1];grind[xS]
 obtain⟨_,h⟩|⟨_,h⟩:=G8 h
 .obtain⟨x,h,_⟩:=h;obtain⟨a,rfl,_⟩:=k1 h;grind[xS]
 obtain⟨_,h⟩|⟨_,h⟩:=G8 h
 .obtain⟨x,y,h,d,f⟩:=h;obtain⟨a,b,rfl,l,m⟩:=k2 h;have n:iI [b]=0:=DN (by rw[m];exact f.1) [];cases a<;>(grind[iI])
 obtain⟨_,h⟩|⟨_,h⟩:=G8 h
 .obtain⟨x,y,z,h,d,f,i⟩:=h;rw[tJ h (λu o=>by simp at o;obtain rfl|rfl|rfl:=o;exact d.1;exact f.1;exact i.1)];omega
 obtain⟨_,h⟩|⟨_,h⟩:=G8 h
 .obtain⟨x,z,h,d,_⟩:=h;obtain⟨a,b,c,rfl,l,m,A⟩:=k3 h;rw[DN<|by rw[l];exact d.1,DN W];grind[xS]
 obtain⟨_,h⟩|⟨_,h⟩:=G8 h
 .obtain⟨x,h,d⟩:=h;rw[tJ h (λz i=>by simp at i;obtain rfl|rfl:=i;exact d.1;omega)];omega
 obtain⟨_,h⟩|⟨_,h⟩:=G8 h
 .rw[tJ K λy f=>η];omega
 grind
/-!### The rows of types are short -/
theorem Ot{c d:Type}(a:List c)(b:List d):Q (a.zip b)<=Q b:=η
theorem OE:∀a,Q a<=S5 a
 |[]=>vQ _
 |t::r=>by have:=OE r;have:=yR t;grind[S5]
mutual
theorem MJ:∀(t:Tr) (b:Nat),∀y∈gN b t,Q y.M<=fG t/\Q y.eo<=fG t
 |.nd k d c,b,y,a=>by
  rw[fG];rw[gN]at a;split at a
  .exact Qy c b y a
  .rw[qW,zW]at a;obtain a|rfl:=a
   .have:=QT c b y a;omega
   grind[OE,Ot,eW,JU,kH,xQ]
theorem QT:∀(c:List Tr) (b:Nat),∀y∈O9 b c,Q y.M<=S5 c/\Q y.eo<=S5 c
 |[],b,y,a=>by grind[O9]
 |t::r,b,y,a=>by
  rw[O9,qW]at a;rw[S5];obtain a|a:=a
  .have:=MJ t b y a;omega
  .have:=QT r _ y a;omega
theorem Qy:∀(c:List Tr) (b:Nat),∀y∈oS b c,Q y.M<=S5 c+1/\Q y.eo<=S5 c+1
 |[],b,y,a=>by
  grind[oS,zW]
 |t::r,b,y,a=>by
  rw[oS,qW,qW,zW]at a;rw[S5];obtain (a|a)|rfl:=a
  .have:=QT r _ y a;omega
  .have:=MJ t _ y a;omega
  grind[OE,JU,xQ]
end
mutual
theorem Ri:∀(t:Nt) (b:Nat),∀y∈gL b t,Q y.M<=nT t/\Q y.eo<=nT t
 |.ty none,b,y,a=>by grind[gL]
 |.ty<|C t,b,y,a=>by rw[gL]at a;rw[nT];exact MJ t b y a
 |.nd k d n c,b,y,a=>by rw[gL]at a;rw[nT];exact MY c b y a
theorem MY:∀(c:List Nt) (b:Nat),∀y∈Y2 b c,Q y.M<=cK c/\Q y.eo<=cK c
 |[],b,y,a=>by grind[Y2]
 |p::r,b,y,a=>by
  rw[Y2,qW]at a;rw[cK];obtain a|a:=a
  .have:=Ri p b y a;omega
  .have:=MY r _ y a;omega
end
/-!### The lengths -/
def SL:List Tr->Nat
 |[]=>0
 |t::r=>Q (bU t)+30+SL r
def Wu{k}{a}{n}{b}(h:own k a n b):Q a<=30/\0<=n/\n<=999999999:=by
 unfold own at h;obtain⟨_,h⟩|⟨_,h⟩:=G8 h
 .grind
 obtain⟨_,h⟩|⟨_,h⟩:=G8 h
 .omega
 obtain⟨_,h⟩|⟨_,h⟩:=G8 h
 .grind
 obtain⟨_,h⟩|⟨_,h⟩:=G8 h
 .have:=h.1.2.1;omega
 obtain⟨_,h⟩|⟨_,h⟩:=G8 h
 .grind
 obtain⟨_,h⟩|⟨_,h⟩:=G8 h
 .refine⟨?_,W⟩;have:=h.1;simp at this;obtain rfl|rfl|rfl:=this<;>decide
 grind
inductive Sh:Nt->Prop
 |ty0:Sh<|.ty none
 |ty1 (t:Tr):Wf t->Sh (.ty<|C t)
 |n1 (n:Int):0<=n/\n<=999999999->Sh (.nd 1 [] n [])
 |n2 (tx:bZ):(Q tx<=30/\∀c∈tx,iF c.toNat=τ)->Sh (.nd 2 tx 0 [])
 |n3 (n:Int):n=0\/n=1->Sh (.nd 3 [] n [])
 |n4:Sh<|.nd 4 [] 0 []
 |n5 (tx:bZ):S6 tx->Sh (.nd 5 tx 0 [])
 |n6 (ps:List Nt) (a b:Nt):(∀p∈ps,Wn p/\p.k=16)->(ps.map Nt.tx).Nodup->Wn a->jM a.k->Wn b->b.k=26->Sh (.nd 6 [] 0<|ps++[a,b])
 |n7 (a:Nt) (ps:List Nt):Wn a->aP a.k->(∀p∈ps,Wn p/\aP p.k)->Sh (.nd 7 [] 0<|a::ps)
 |n8 (tx:bZ) (a:Nt):S6 tx->Wn a->aP a.k->Sh (.nd 8 tx 0 [a])
 |n9 (a b:Nt):Wn a->aP a.k->Wn b->aP b.k->Sh (.nd 9 [] 0 [a,b])
 |n10 (ps:List Nt):(∀p∈ps,Wn p/\p.k=15)->(ps.map Nt.tx).Nodup->Sh (.nd 10 [] 0 ps)
 |n11 (ps:List Nt):(∀p∈ps,Wn p/\aP p.k)->Sh (.nd 11 [] 0 ps)
 |n12 (tx:bZ) (a b:Nt):tx∈[[61,61],[60],[43],[45],[42]]->Wn a->aP a.k->Wn b->aP b.k->Sh (.nd 12 tx 0 [a,b])
 |n13 (tx:bZ) (a:Nt):tx∈[[33],[45],[116,121,112,101,111,102]]->Wn a->aP a.k->Sh (.nd 13 tx 0 [a])
 |n14 (a:Nt) (t:Tr):Wn a->aP a.k->Wf t->Sh (.nd 14 [] 0 [a,.ty<|C t])
 |n15 (tx:bZ) (a:Nt):S6 tx->Wn a->aP a.k->Sh (.nd 15 tx 0 [a])
 |n16 (tx:bZ) (a:Nt):S6 tx->Wn a->jM a.k->Sh (.nd 16 tx 0 [a])
 |n17 (tx:bZ) (a b:Nt):S6 tx->Wn a->jM a.k->Wn b->aP b.k->Sh (.nd 17 tx 0 [a,b])
 |n18 (tx:bZ) (a:Nt):S6 tx->Wn a->aP a.k->Sh (.nd 18 tx 0 [a])
 |n19 (tx:bZ) (a b:Nt):S6 tx->Wn a->aP a.k->Wn b->aP b.k->Sh (.nd 19 tx 0 [a,b])
 |n20 (a b c:Nt):Wn a->aP a.k->Wn b->aP b.k->Wn c->aP c.k->Sh (.nd 20 [] 0 [a,b,c])
 |n21 (a:Nt):Wn a->aP a.k->Sh (.nd 21 [] 0 [a])
 |n22 (a b c:Nt):Wn a->aP a.k->Wn b->b.k=26->Wn c->c.k=26\/c.k=-1->Sh (.nd 22 [] 0 [a,b,c])
 |n23 (a b:Nt):Wn a->aP a.k->Wn b->b.k=26->Sh (.nd 23 [] 0 [a,b])
 |n24 (a:Nt):Wn a->aP a.k->Sh (.nd 24 [] 0 [a])
 |n25 (a:Nt):Wn a->aP a.k->Sh (.nd 25 [] 0 [a])
 |n26 (ps:List Nt):(∀p∈ps,Wn p/\17<=p.k/\p.k<=25)->Sh (.nd 26 [] 0 ps)
theorem uA{a}(b:Wn a)(h:jM a.k):∃t,a=.ty t:=xV (Y7 a b) h
def AC{a}(b:Wn a)(h:a.k=0):∃t,a=.ty (C t)/\Wf t:=by
 obtain⟨t,rfl⟩:=uA b<|.inr h;cases t with
 |none=>grind[Nt.k]
 |some t=>exact⟨t,K,b⟩
def M7{t}(h:Wn t):Sh t:=by
 cases t with
 |ty o=>
  cases o with
  |none=>exact .ty0
  |some t=>exact .ty1 t h
 |nd af f n k=>
  rw[Wn]at h;obtain⟨d,m,i⟩:=h;rw[T7]at i;have B:∀p∈k,p.k∈k.map Nt.k:=λp l=>List.mem_map_of_mem l;unfold bO at d;obtain⟨g,d⟩|⟨Z,d⟩:=G8 d
  .have P:k=[]:=by simpa using d
   subst P;obtain rfl|rfl|rfl|rfl|rfl:=g
   .obtain⟨rfl,h⟩:f=[]/\0<=n/\n<=999999999:=m;exact .n1 n h
   .obtain⟨h,rfl⟩:(Q f<=30/\∀c∈f,iF c.toNat=τ)/\n=0:=m;exact .n2 f h
   .obtain⟨rfl,h⟩:f=[]/\(n=0\/n=1):=m;exact .n3 n h
   .obtain⟨rfl,rfl⟩:f=[]/\n=0:=by grind[own]
    exact .n4
   .obtain⟨h,rfl⟩:S6 f/\n=0:=m;exact .n5 f h
  obtain⟨g,d⟩|⟨a7,d⟩:=G8 d
  .subst g;obtain⟨rfl,rfl,w⟩:f=[]/\n=0/\(k.dropLast.dropLast.map Nt.tx).Nodup:=by grind[own]
   obtain⟨v,r,h,H,hr⟩:=d;have e:k=k.take (Q v)++k.drop (Q v):=(List.take_append_drop _ _).symm;have G:(k.take (Q v)).map Nt.k=v:=by rw[List.map_take,h];simp
   have L:(k.drop (Q v)).map Nt.k=[r,26]:=by rw[List.map_drop,h];simp
   obtain⟨a,b,M,T,N⟩:=k2 L;rw[M]at e;generalize k.take (Q v)=F at e G;subst e;rw[EY]at w;refine .n6 F a b (λp l=>⟨i p η,H _ ?_⟩) w (i a θ) η (i b θ) N;grind
  obtain⟨g,d⟩|⟨a8,d⟩:=G8 d
  .subst g;obtain⟨rfl,rfl⟩:f=[]/\n=0:=by grind[own]
   obtain⟨x,v,h,j,S⟩:=d;cases k with
   |nil=>grind
   |cons a F=>
    simp at h;refine .n7 a F (i a θ) η λp l=>⟨i p η,S _ ?_⟩;grind
  obtain⟨g,d⟩|⟨a9,d⟩:=G8 d
  .obtain⟨x,h,j⟩:=d;obtain⟨a,rfl,rfl⟩:=k1 h;have q:=i a θ;obtain rfl|rfl|rfl|rfl|rfl|rfl|rfl:=g
   .obtain⟨h,rfl⟩:S6 f/\n=0:=m;exact .n8 f a h q j
   .obtain⟨h,rfl⟩:f∈[[33],[45],[116,121,112,101,111,102]]/\n=0:=m;exact .n13 f a h q j
   .obtain⟨h,rfl⟩:S6 f/\n=0:=m;exact .n15 f a h q j
   .obtain⟨h,rfl⟩:S6 f/\n=0:=m;exact .n18 f a h q j
   .obtain⟨rfl,rfl⟩:f=[]/\n=0:=by grind[own]
    exact .n21 a q j
   .obtain⟨rfl,rfl⟩:f=[]/\n=0:=by grind[own]
    exact .n24 a q j
   .obtain⟨rfl,rfl⟩:f=[]/\n=0:=by grind[own]
    exact .n25 a q j
  obtain⟨g,d⟩|⟨aa,d⟩:=G8 d
  .obtain⟨x,y,h,j,u⟩:=d;obtain⟨a,b,rfl,rfl,rfl⟩:=k2 h;have q:=i a θ;have s:=i b θ;obtain rfl|rfl|rfl:=g
   .obtain⟨rfl,rfl⟩:f=[]/\n=0:=by grind[own]
    exact .n9 a b q j s u
   .obtain⟨h,rfl⟩:f∈[[61,61],[60],[43],[45],[42]]/\n=0:=m;exact .n12 f a b h q j s u
   .obtain⟨h,rfl⟩:S6 f/\n=0:=m;exact .n19 f a b h q j s u
  obtain⟨g,d⟩|⟨ab,d⟩:=G8 d
  .subst g;obtain⟨rfl,rfl,w⟩:f=[]/\n=0/\(k.map Nt.tx).Nodup:=by grind[own]
   exact .n10 k (λp l=>⟨i p l,d _<|B p l⟩) w
  obtain⟨g,d⟩|⟨ac,d⟩:=G8 d
  .subst g;obtain⟨rfl,rfl⟩:f=[]/\n=0:=by grind[own]
   exact .n11 k λp l=>⟨i p l,d _<|B p l⟩
  obtain⟨g,d⟩|⟨ad,d⟩:=G8 d
  .subst g;obtain⟨rfl,rfl⟩:f=[]/\n=0:=by grind[own]
   obtain⟨x,h,j⟩:=d;obtain⟨a,b,rfl,rfl,s⟩:=k2 h;obtain⟨t,rfl,R⟩:=AC (i b θ) s;exact .n14 a t (i a θ) j R
  obtain⟨g,d⟩|⟨ae,d⟩:=G8 d
  .subst g;obtain⟨A,rfl⟩:S6 f/\n=0:=m;obtain⟨x,h,j⟩:=d;obtain⟨a,rfl,rfl⟩:=k1 h;exact .n16 f a A (i a θ) j
  obtain⟨g,d⟩|⟨a2,d⟩:=G8 d
  .subst g;obtain⟨A,rfl⟩:S6 f/\n=0:=m;obtain⟨x,y,h,j,u⟩:=d;obtain⟨a,b,rfl,rfl,rfl⟩:=k2 h;exact .n17 f a b A (i a θ) j (i b θ) u
  obtain⟨g,d⟩|⟨a3,d⟩:=G8 d
  .subst g;obtain⟨rfl,rfl⟩:f=[]/\n=0:=by grind[own]
   obtain⟨x,y,z,h,j,u,D⟩:=d;obtain⟨a,b,c,rfl,rfl,rfl,rfl⟩:=k3 h;exact .n20 a b c (i a θ) j (i b θ) u (i c θ) D
  obtain⟨g,d⟩|⟨a4,d⟩:=G8 d
  .subst g;obtain⟨rfl,rfl⟩:f=[]/\n=0:=by grind[own]
   obtain⟨x,z,h,j,D⟩:=d;obtain⟨a,b,c,rfl,rfl,s,rfl⟩:=k3 h;exact .n22 a b c (i a θ) j (i b θ) s (i c θ) D
  obtain⟨g,d⟩|⟨a5,d⟩:=G8 d
  .subst g;obtain⟨rfl,rfl⟩:f=[]/\n=0:=by grind[own]
   obtain⟨x,h,j⟩:=d;obtain⟨a,b,rfl,rfl,s⟩:=k2 h;exact .n23 a b (i a θ) j (i b θ) s
  obtain⟨g,d⟩|⟨a6,d⟩:=G8 d
  .subst g;obtain⟨rfl,rfl⟩:f=[]/\n=0:=by grind[own]
   exact .n26 k λp l=>⟨i p l,d _<|B p l⟩
  grind
def pc(d:Nat)(t:Nt):Pc:=⟨uK t,t.k,pr d t⟩
/-!### The scanner has no fault there -/
def Gt{b}(L:List Tk)(c:Sp->Option (Out b))(ϊ:St->b->Prop):Prop:=∃a x,Ev L c (.ok a x)/\ϊ a x
def Gt.bind{a b}{L}{c}{k:Sp->St->a->Option (Out b)}{ϊ}{R}(h:Gt L c ϊ)(i:∀s x,ϊ s x->Gt L (λr=>k r s x) R):Gt L (λr=>A8 (c r)<|k r) R:=by
 obtain⟨s,x,d,e⟩:=h;obtain⟨j,y,f,g⟩:=i s x e;exact⟨j,y,d.bind f,g⟩
theorem Gt.step{a}{L}{φ}{ϊ:St->a->Prop}(h:Gt L (λr=>φ<|step L r) ϊ):Gt L φ ϊ:=by
 obtain⟨s,x,b,c⟩:=h;exact⟨s,x,b.step,c⟩
theorem Gt.pure{a}{L:List Tk}{s}{x}{ϊ:St->a->Prop}(h:ϊ s x):Gt L (λ_=>C<|.ok s x) ϊ:=⟨s,x,Ev.pure,h⟩
def Gt.eq{a}{L}{b ψ}{ϊ:St->a->Prop}(h:Gt L b ϊ)(e:∀r,ψ r=b r):Gt L ψ ϊ:=by
 obtain⟨s,x,c,d⟩:=h;exact⟨s,x,c.eq e,d⟩
def Gt.mono{a}{L}{b}{ϊ R:St->a->Prop}(h:Gt L b ϊ)(e:∀s x,ϊ s x->R s x):Gt L b R:=by
 obtain⟨s,x,c,d⟩:=h;exact⟨s,x,c,e s x d⟩
def Gt.jc{L:List Tk}{s:St}{t}{ϊ:St->Int->Prop}(h:ϊ ⟨s.i,s.N++[t],s.T⟩ (Q s.N)):Gt L (λ_=>aE s t) ϊ:=Gt.pure h
def Gt.pos{a}{L:List Tk}{c}[Decidable c]{b e:Sp->Option (Out a)}{ϊ}(d:c)(h:Gt L b ϊ):Gt L (λr=>if c then b r else e r) ϊ:=h.eq λ_=>yY d
theorem D8{L}{i}{k}{x}{r:List TT}(h:tt L i=(k,x)::r):(tk L i).x=k/\(tk L i).text=x/\tt L (i+1)=r:=by
 have a:=Xr L i;have b:=Tf L i;have c:=A7e L i;rw[h]at a b c;exact⟨a.symm,b.symm,c.symm⟩
theorem D4{L}{i}{k}{x}{r:List TT}(h:tt L i=(k,x)::r)(a):aL L i a=((k==5||k==2)&&has a x):=by
 grind[D8,aL]
section
variable(L:List Tk)
def Qt(r:List TT)(s:St)(t:Tr)(a:St)(x:Int):Prop:=tt L a.i=r/\jD s t a x
def DtQ(t:Tr):Prop:=∀d s r,tt L s.i=fV t++r->Ř r->kD t+1<=20-d->Gt L (λq=>q.typ d s) (Qt L r s t)
def Dm(t:Tr)(a:Bool):Prop:=∀d s r,tt L s.i=fV t++r->fT r [61,62]=κ->(a=κ->fT r [124]=κ)->kD t<=20-d->Gt L (λq=>q.gd d s) (Qt L r s t)
end
section
variable{L:List Tk}
end
def Y0(r:List TT)(a:List bZ):Bool:=
 match r with
 |[]=>κ
 |(k,x)::_=>(k==5||k==2)&&has a x
def fo:List bZ:=[[124],[61,62]]
def f5:List bZ:=[[40],[46],[91],[97,115],[124],[61,62]]
def f3:List bZ:=[[40],[46],[91],[97,115],[124],[61,62],[42]]
def f2:List bZ:=[[40],[46],[91],[97,115],[124],[61,62],[42],[43],[45]]
def f1:List bZ:=[[40],[46],[91],[97,115],[124],[61,62],[42],[43],[45],[61,61],[60]]
def f23:∀m∈f3,m∈f2:=ζ
section
variable(L:List Tk)
def Qn(r:List TT)(s:St)(t:Nt)(a:St)(x:Int):Prop:=tt L a.i=r/\fE s t a x
def Cp(b:Sp->Option (Out Int))(k:Sp->St->Int->Option (Out Int))(r:List TT)(s:St)(t:Nt):Prop:=
 ∃a x,Qn L r s t a x/\∀R,Gt L (λq=>k q a x) R->Gt L (λq=>A8 (b q)<|k q) R
def P5(t:Nt):Prop:=∀d s r,tt L s.i=wt 5 (pt t)++r->Y0 r fo=κ->wd 5 (pt t)<=20-d->Cp L (λq=>q.simple d s) (λq s x=>q.tail d s x) r s t
def P4(t:Nt):Prop:=∀d s r,tt L s.i=wt 4 (pt t)++r->Y0 r f5=κ->wd 4 (pt t)<=20-d->Gt L (λq=>q.oper d s) (Qn L r s t)
def P3(t:Nt):Prop:=∀d s r,tt L s.i=wt 3 (pt t)++r->Y0 r f5=κ->wd 3 (pt t)<=20-d->Cp L (λq=>q.oper d s) (λq s x=>q.row κ d s x) r s t
def P2(t:Nt):Prop:=∀d s r,tt L s.i=wt 2 (pt t)++r->Y0 r f3=κ->wd 2 (pt t)<=20-d->Cp L (λq=>q.prod d s) (λq s x=>q.row τ d s x) r s t
def P1(t:Nt):Prop:=∀d s r,tt L s.i=(me t).1++r->Y0 r f1=κ->(me t).2<=20-d->Gt L (λq=>q.comp d s) (Qn L r s t)
def PE(t:Nt):Prop:=∀d s r,tt L s.i=(me t).1++r->Y0 r f1=κ->(me t).2+1<=20-d->Gt L (λq=>q.expr d s) (Qn L r s t)
structure Px(t:Nt):Prop where
 p5:P5 L t
 p4:P4 L t
 p3:P3 L t
 p2:P2 L t
 p1:P1 L t
 pe:PE L t
end
/-!### How it begins -/
def Fb(l:List TT):Prop:=∃k x r,l=(k,x)::r/\(k=1\/k=3\/k=4\/((k=5\/k=2)/\x∈M6))
def Fz(l:List TT):Prop:=∃k x r,l=(k,x)::r/\(k=1\/k=3\/k=4\/((k=5\/k=2)/\x∈M6/\x ∉ [[33],[45],[116,121,112,101,111,102]]))
theorem Fz.b{l}(h:Fz l):Fb l:=by
 obtain⟨k,x,r,e,h⟩:=h;refine⟨k,x,r,e,?_⟩;grind
theorem Fb.app{l}(h:Fb l)(r):Fb (l++r):=by
 obtain⟨k,x,a,rfl,h⟩:=h;exact⟨k,x,a++r,K,h⟩
theorem Fz.app{l}(h:Fz l)(r):Fz (l++r):=by
 obtain⟨k,x,a,rfl,h⟩:=h;exact⟨k,x,a++r,K,h⟩
section
variable{L:List Tk}
theorem Fb.not{i}{l}(h:Fb l)(b:tt L i=l){a}(c:∀m∈M6,m ∉ a):aL L i a=κ:=by
 obtain⟨k,x,r,rfl,h⟩:=h;rw[D4 b];grind[has]
theorem Fz.not{i}{l}(h:Fz l)(a:tt L i=l):aL L i [[33],[45],[116,121,112,101,111,102]]=κ:=by
 obtain⟨k,x,r,rfl,h⟩:=h;rw[D4 a];grind[has]
theorem Cp.of{a}{k}{r}{s}{t}(h:Gt L a<|Qn L r s t):Cp L a k r s t:=by
 obtain⟨f,x,b,c⟩:=h;refine⟨f,x,c,λR h=>?_⟩;obtain⟨g,y,d,e⟩:=h;exact⟨g,y,b.bind d,e⟩
end
def fw:List bZ:=[[41],[93],[125],[44]]
def Hs(r:List TT):Prop:=∃m a,r=sg m::a/\m∈fw
theorem Hs.no{r}(h:Hs r){a}(b:∀m∈fw,m ∉ a):Y0 r a=κ:=by
 obtain⟨m,c,rfl,h⟩:=h;grind[Y0,sg,has]
section
variable{L:List Tk}
theorem Fb.no{l}(h:Fb l){a}(b:∀m∈M6,m ∉ a):Y0 l a=κ:=by
 obtain⟨k,x,r,rfl,h⟩:=h;obtain rfl|rfl|rfl|⟨_,h⟩:=h<;>grind[Y0,has]
/-!### Each kind of an expression -/
end
section
variable(L:List Tk)
def Pb(t:Nt):Prop:=∀d s r,tt L s.i=(me t).1++r->(me t).2<=20-d->Gt L (λq=>q.block d s) (Qn L r s t)
def Ps(t:Nt):Prop:=∀d s r,tt L s.i=(me t).1++r->Y0 r [[101,108,115,101]]=κ->(me t).2<=20-d->Gt L (λq=>q.any d s) (Qn L r s t)
end
section
variable{L:List Tk}
def Cp.tail{g}{k}{r e}{s}{t f}(h:Cp L g k r s t)(hs:∀a c,Qn L r s t a c->∃b d,Qn L e s f b d/\∀R,Gt L (λq=>k q b d) R->Gt L (λq=>k q a c) R):Cp L g k e s f:=by
 obtain⟨a,c,l,i⟩:=h;obtain⟨b,d,m,j⟩:=hs a c l;exact⟨b,d,m,λR h=>i R<|j R h⟩
def zU{b}{i}(u:i∈J4 b){a c}{d}{s f}{g}{r r1}(l:tt L f.i=sg i::r1)(t:fE s a f g)(o:Gt L (λq=>(if b then q.prod d else q.oper d) f.nx)<|Qn L r f.nx c):
 ∃e m,Qn L r s (.nd 12 i 0 [a,c]) e m/\∀R,Gt L (λq=>q.row b d e m) R->Gt L (λq=>q.row b d f g) R:=by
 obtain⟨e,y,p,n,j⟩:=o;have j:=j;refine⟨⟨e.i,e.N++[⟨12,g,y,0,[],i,0,-1,iC e g⟩],e.T⟩,Q e.N,⟨n,(t.cons j.l).node _ 12 i 0 _ K⟩,λR h=>?_⟩;have x:=(D8 l).2.1;refine Gt.step<|Gt.pos (by rw[D4 l,Ju u];rfl) ?_;refine Gt.bind (ϊ:=λk w=>k=⟨e.i,e.N++[⟨12,g,y,0,[],(tk L f.i).text,0,-1,iC e g⟩],e.T⟩/\w=(Q e.N:Int)) ?_ ?_
 .refine Gt.bind (ϊ:=λk v=>k=e/\v=y) ⟨e,y,p,K,K⟩ ?_;rintro _ _ ⟨rfl,rfl⟩;exact Gt.jc ⟨K,K⟩
 grind
/-!### Statements -/
def ϕ(l:List TT):Prop:=∃k x r,l=(k,x)::r/\(k=1\/k=3\/k=4\/((k=5\/k=2)/\x∈M6++KE))
theorem ϕ.app{l}(h:ϕ l)(r):ϕ (l++r):=by
 obtain⟨k,x,a,rfl,h⟩:=h;exact⟨k,x,a++r,K,h⟩
theorem Fb.s{l}(h:Fb l):ϕ l:=by
 obtain⟨k,x,r,e,h⟩:=h;refine⟨k,x,r,e,?_⟩;grind
theorem ϕ.w{m}(r)(h:m∈KE):ϕ ((2,m)::r):=⟨2,m,r,K,.inr<|.inr<|.inr ⟨.inr K,List.mem_append_right _ h⟩⟩
theorem ϕ.no{l}(h:ϕ l){a}(b:∀m∈M6++KE,m ∉ a):Y0 l a=κ:=by
 obtain⟨k,x,r,rfl,h⟩:=h;obtain rfl|rfl|rfl|⟨_,h⟩:=h<;>grind[Y0,has]
structure vU(t:Nt):Prop where
 ex:aP t.k->Px L t
 bl:t.k=26->Pb L t
 st:17<=t.k/\t.k<=25->Ps L t
theorem vU.e{t}(a:aP t.k)(h:Px L t):vU (L:=L) t:=⟨λ_=>h,λc=>by have:=a.2;omega,λb=>by have:=a.2;omega⟩
theorem vU.s{t}(c:17<=t.k/\t.k<=25)(h:Ps L t):vU (L:=L) t:=⟨λa=>by have:=a.2;omega,λb=>W,λ_=>h⟩
theorem vU.b{t}(c:t.k=26)(h:Pb L t):vU (L:=L) t:=⟨λa=>by have:=a.2;omega,λ_=>h,λb=>W⟩
theorem vU.no{t}(b:¬aP t.k/\t.k<17):vU (L:=L) t:=⟨λa=>absurd a b.1,λh=>W,λh=>W⟩
end
def Bd{c}(Z:Nat)(x:Option<|Out c):Prop:=∀b a,x=C (.ok b a)->b.i<=Z
def Bd.bind{c j}{Z}{x}{k:St->c->Option (Out j)}(h:Bd Z x)(g:∀s a,s.i<=Z->Bd Z (k s a)):Bd Z (A8 x k):=by
 intro l b e;obtain⟨i,a,d,f⟩:=B9 e;exact g i a (h _ _ d) _ _ f
theorem Bd.ok{c}{Z}{s}{a:c}(h:s.i<=Z):Bd Z (C<|.ok s a):=by
 intro d b e;grind
theorem Bd.jx{a}{Z}{L}{i}{e}:Bd Z (bF L i e:Option<|Out a):=by
 intro c b h;grind[bF]
def Bd.jc{Z}{s}{n}(h:s.i<=Z):Bd Z (aE s n):=Bd.ok h
def Bd.km{Z}{s}{n}(h:s.i<=Z):Bd Z (bQ s n):=Bd.ok h
def Bd.ite{a}{Z}{c}[Decidable c]{x y:Option (Out a)}(b:c->Bd Z x)(d:¬c->Bd Z y):Bd Z (if c then x else y):=η
def Bd.inside{Z}{L}{b}{d}{s}{p}(h:∀d,Bd Z<|p d s):Bd Z (aS L b d s p):=
 Bd.ite (λ_=>Bd.ite (λ_=>Bd.jx) λ_=>h _) λ_=>Bd.jx
def End(L:List Tk)(Z:Nat):Prop:=∀i,(tk L i).x≠6->i+1<=Z
theorem End.m{L}{Z}(h:End L Z){i}{a}(c:aL L i a=τ):i+1<=Z:=by
 refine h i λb=>?_;grind[aL]
def Bd.ft{Z}{L}(a:End L Z){s}{m}:Bd Z (aC L s m):=Bd.ite (λb=>Bd.ok<|a.m b) λ_=>Bd.jx
structure BF(Z:Nat)(r:Sp):Prop where
 typ:∀d s,s.i<=Z->Bd Z (r.typ d s)
 union:∀d s,s.i<=Z->Bd Z (r.union d s)
 gp:∀d s l,s.i<=Z->Bd Z (r.gp d s l)
 gd:∀d s,s.i<=Z->Bd Z (r.gd d s)
 jl:∀d s l,s.i<=Z->Bd Z (r.jl d s l)
 kv:∀d s,s.i<=Z->Bd Z (r.kv d s)
 M:∀p e d s nm l,s.i<=Z->Bd Z (r.M p e d s nm l)
 expr:∀d s,s.i<=Z->Bd Z (r.expr d s)
 comp:∀d s,s.i<=Z->Bd Z (r.comp d s)
 sum:∀d s,s.i<=Z->Bd Z (r.sum d s)
 prod:∀d s,s.i<=Z->Bd Z (r.prod d s)
 row:∀b d s x,s.i<=Z->Bd Z (r.row b d s x)
 oper:∀d s,s.i<=Z->Bd Z (r.oper d s)
 tail:∀d s x,s.i<=Z->Bd Z (r.tail d s x)
 simple:∀d s,s.i<=Z->Bd Z (r.simple d s)
 block:∀d s,s.i<=Z->Bd Z (r.block d s)
 gj:∀d s l,s.i<=Z->Bd Z (r.gj d s l)
 gy:∀d s,s.i<=Z->Bd Z (r.gy d s)
 any:∀d s,s.i<=Z->Bd Z (r.any d s)
 jd:∀d s l,s.i<=Z->Bd Z (r.jd d s l)
section
variable{L:List Tk}{Z:Nat}{r:Sp}
def Bd.two{s}{x}{p}(b:s.i+1<=Z)(h:∀s,s.i<=Z->Bd Z (p s)):Bd Z (iN L s x p):=Bd.bind (h s.nx b) λ_ _ a=>Bd.jc a
def Bd.j4(a:End L Z)(i:BF Z r){d}{s}(h:s.i<=Z):Bd Z (bC L r d s):=Bd.ite (λb=>i.typ d s.nx<|a.m b) λ_=>Bd.ok h
def Bd.newName(a:End L Z){s}{b}:Bd Z (aO L s b):=
 Bd.ite (λc=>Bd.ite (λ_=>Bd.jx) λ_=>Bd.ok<|a s.i W) λ_=>Bd.jx
theorem Bd.part(a:End L Z)(i:BF Z r){d}{s}{g}(h:s.i<=Z):∀p,Bd Z<|part L r d s g p
 |.typ=>Bd.bind (i.typ d s h) λ_ _ h=>Bd.ok h
 |.expr=>Bd.bind (i.expr d s h) λ_ _ h=>Bd.ok h
 |.obj=>Bd.bind (Bd.newName a) λ_ _ _=>Bd.bind (Bd.ft a) λ_ _ b=>Bd.bind (i.expr d _ b) λ_ _ c=>Bd.bind (Bd.jc c) λ_ _ f=>Bd.ok f
 |.par=>Bd.bind (Bd.newName a) λ_ _ e=>Bd.bind (Bd.j4 a i e) λ_ _ b=>Bd.bind (Bd.jc b) λ_ _ c=>Bd.ok c
def yk(a:End L Z)(i:BF Z r):BF Z (step L r) where
 typ d s h:=Bd.inside λd=>i.union d s h;union d s h:=Bd.bind (i.gd d s h) λ_ _ f=>Bd.ite (λ_=>Bd.bind (i.gp d _ _ f) λ_ _ g=>Bd.km g) λ_=>Bd.ok f;gp d s l h:=Bd.ite (λc=>Bd.bind (i.gd d s.nx<|a.m c) λ_ _ f=>i.gp d _ _ f) λ_=>Bd.ok h;gd d s h:=Bd.ite (λc=>i.jl d s.nx []<|a.m c) λ_=>Bd.ite (λc=>Bd.bind (i.typ d s.nx<|a.m c) λ_ _ _=>Bd.bind (Bd.ft a) λ_ _ g=>Bd.km g) λ_=>
  Bd.ite (λc=>i.kv d s.nx<|a.m c) λ_=>Bd.ite (λm=>Bd.km<|a s.i W) λ_=>Bd.jx;jl d s l h:=Bd.ite (λc=>Bd.km<|a.m c) λ_=>Bd.bind (Bd.newName a) λ_ _ _=>Bd.bind (Bd.ft a) λ_ _ g=>Bd.bind (i.typ d _ g) λ_ _ _=>Bd.bind (Bd.ft a) λ_ _ k=>i.jl d _ _ k;kv d s h:=Bd.bind (i.M _ _ d s _ _ h) λn l f=>Bd.ite (λc=>Bd.bind (i.typ d n.nx<|a.m c) λ_ _ g=>Bd.km g) λ_=>by
  grind[Bd.ok,Bd.jx]
 M p e d s nm l h:=Bd.ite (λc=>Bd.ok<|a.m c) λ_=>Bd.bind (Bd.ite (λ_=>Bd.ok h) λ_=>Bd.ft a) λ_ _ f=>Bd.bind (Bd.part a i f p) λ_ _ g=>i.M p e d _ _ _ g;expr d s h:=Bd.inside λd=>i.comp d s h;comp d s h:=Bd.bind (i.sum d s h) λ_ _ f=>Bd.ite (λc=>Bd.two (a.m c) λs h=>i.sum d s h) λ_=>Bd.ok f;sum d s h:=Bd.bind (i.prod d s h) λ_ _ f=>i.row _ d _ _ f;prod d s h:=Bd.bind (i.oper d s h) λ_ _ f=>i.row _ d _ _ f;row b d s x h:=Bd.ite (λc=>Bd.bind (Bd.two (a.m c) (by cases b;exact λs h=>i.oper d s h;exact λs h=>i.prod d s h)) λ_ _ f=>i.row b d _ _ f) λ_=>Bd.ok h;oper d s h:=Bd.ite (λc=>Bd.bind (Bd.inside λd=>i.oper d s.nx<|a.m c) λ_ _ f=>Bd.jc f) λ_=>Bd.bind (i.simple d s h) λ_ _ f=>i.tail d _ _ f;tail d s x h:=Bd.ite (λc=>Bd.bind (i.M _ _ d s.nx _ _<|a.m c) λ_ _ f=>Bd.bind (Bd.jc f) λ_ _ g=>i.tail d _ _ g) λ_=>
  Bd.ite (λ_=>Bd.ite (λm=>Bd.bind (Bd.jc<|a (s.i+1) W) λ_ _ g=>i.tail d _ _ g) λ_=>Bd.jx) λ_=>
  Bd.ite (λc=>Bd.bind (i.expr d s.nx<|a.m c) λ_ _ _=>Bd.bind (Bd.ft a) λ_ _ g=>Bd.bind (Bd.jc g) λ_ _ j=>i.tail d _ _ j) λ_=>
  Bd.ite (λc=>Bd.bind (i.typ d s.nx<|a.m c) λ_ _ f=>Bd.bind (Bd.jc f) λ_ _ g=>i.tail d _ _ g) λ_=>Bd.ok h;simple d s h:=Bd.ite (λm=>Bd.jc<|a s.i W) λ_=>Bd.ite (λm=>Bd.jc<|a s.i W) λ_=>Bd.ite (λm=>Bd.jc<|a s.i W) λ_=>
  Bd.ite (λc=>Bd.jc<|a.m c) λ_=>Bd.ite (λc=>Bd.jc<|a.m c) λ_=>Bd.ite (λc=>Bd.jc<|a.m c) λ_=>
  Bd.ite (λ_=>Bd.bind (Bd.ft a) λ_ _ f=>Bd.bind (i.M _ _ d _ _ _ f) λ_ _ g=>Bd.bind (Bd.j4 a i g) λ_ _ j=>Bd.bind (i.block d _ j) λ_ _ k=>Bd.jc k) λ_=>
  Bd.ite (λc=>Bd.bind (i.M _ _ d s.nx _ _<|a.m c) λ_ _ f=>Bd.jc f) λ_=>Bd.ite (λc=>Bd.bind (i.M _ _ d s.nx _ _<|a.m c) λ_ _ f=>Bd.jc f) λ_=>
  Bd.bind (Bd.ft a) λ_ _ f=>Bd.bind (i.expr d _ f) λ_ _ _=>Bd.bind (Bd.ft a) λ_ _ j=>Bd.ok j;block d s h:=Bd.bind (Bd.ft a) λ_ _ f=>Bd.bind (i.gj d _ _ f) λ_ _ g=>Bd.jc g;gj d s l h:=Bd.ite (λc=>Bd.ok<|a.m c) λ_=>Bd.bind (i.gy d s h) λ_ _ f=>i.gj d _ _ f;gy d s h:=Bd.inside λd=>i.any d s h;any d s h:=Bd.ite (λ_=>Bd.ite (λm=>Bd.bind (Bd.j4 a i<|a (s.i+1) W) λ_ _ _=>Bd.bind (Bd.ft a) λ_ _ g=>Bd.bind (i.expr d _ g) λ_ _ _=>Bd.bind (Bd.ft a) λ_ _ k=>Bd.jc k) λ_=>Bd.jx) λ_=>
  Bd.ite (λc=>Bd.bind (i.expr d s.nx<|a.m c) λ_ _ _=>Bd.bind (Bd.ft a) λ_ _ g=>Bd.jc g) λ_=>
  Bd.ite (λc=>Bd.bind (i.expr d s.nx<|a.m c) λ_ _ _=>Bd.bind (Bd.ft a) λ_ _ g=>Bd.jc g) λ_=>
  Bd.ite (λ_=>Bd.bind (Bd.ft a) λ_ _ f=>Bd.bind (i.expr d _ f) λ_ _ _=>Bd.bind (Bd.ft a) λ_ _ j=>Bd.bind (i.block d _ j) λq _ k=>Bd.bind (Bd.ite (λc=>i.block d q.nx<|a.m c) λ_=>Bd.ok k) λ_ _ o=>Bd.jc o) λ_=>
  Bd.ite (λ_=>Bd.bind (Bd.ft a) λ_ _ f=>Bd.bind (i.expr d _ f) λ_ _ _=>Bd.bind (Bd.ft a) λ_ _ j=>Bd.bind (i.block d _ j) λ_ _ k=>Bd.jc k) λ_=>
  Bd.bind (i.expr d s h) λn x f=>Bd.ite (λc=>Bd.ite (λ_=>Bd.jx) λ_=>Bd.bind (i.expr d ⟨n.i+1,n.N.take x.toNat,n.T⟩<|a.m c) λ_ _ _=>Bd.bind (Bd.ft a) λ_ _ j=>Bd.jc j) λ_=>
   Bd.bind (Bd.ft a) λ_ _ g=>Bd.jc g;jd d s l h:=Bd.ite (λ_=>Bd.ok h) λ_=>Bd.bind (i.gy d s h) λ_ _ f=>i.jd d _ _ f
end
def WH{L}{Z}(a:End L Z):∀f,BF Z<|gW L f
 |0=>by constructor<;>(intros;intro _ _ h;cases h)
 |f+1=>yk a<|WH a f
def Xg{L}{Z}(c:End L Z){a}{x}(h:Ev L (lB 0 ⟨0,[],[]⟩)<|.ok a x):a.i<=Z:=by
 obtain⟨f,d⟩:=h;have h:=d f<|vQ _;exact(Bd.bind ((WH c f).jd 0 ⟨0,[],[]⟩ []<|wQ _) λ_ _ b=>Bd.jc b) _ _ h
def Ih:∀(l:bZ) (a B),0<=a->a<B->(∀c∈l,fP c.toNat=τ)->0<=l.foldl (λn c=>10*n+(c.toNat:Int)-48) a/\l.foldl (λn c=>10*n+(c.toNat:Int)-48) a<B*10^Q l
 |[],a,B,d,e,_=>η
 |c::r,a,B,d,e,b=>by
  have f:=b c θ;simp only[fP,Bool.and_eq_true,decide_eq_true_eq]at f;have:=Ih r (10*a+c.toNat-48) (B*10) W W (λx g=>b x η);grind[jQ,Int.pow_succ,Int.mul_comm,Int.mul_assoc]
def ū(l):FG (O8 l).1:=by
 intro i b;obtain⟨_,c,a⟩:=VD l i b;have h:=Ih _ 0 1 W W a;have e:∀n:Nat,n<=9->1*10^n<=1000000000:=by
  intro n d;have:n=0\/n=1\/n=2\/n=3\/n=4\/n=5\/n=6\/n=7\/n=8\/n=9:=W;obtain rfl|rfl|rfl|rfl|rfl|rfl|rfl|rfl|rfl|rfl:=this<;>decide
 grind[qA]
theorem Vt(l)(h:(aY l).1=4):Q (aY l).2.1<=30/\∀c∈(aY l).2.1,iF c.toNat=τ:=by
 unfold aY at h⊢;cases d:l.head? with
 |none=>simp
 |some c=>
  rw[d]at h;simp only at h⊢;cases e:fP c.toNat with
  |true=>
   grind[qD]
  |false=>
   rw[e]at h;simp at h⊢;cases f:iP c.toNat with
   |true=>
    grind[name]
   |false=>
    rw[f]at h;simp at h⊢;by_cases b:c.toNat=34
    .rw[yY b]at h⊢;unfold text at h⊢;split at h
     .omega
     .rename_i a;rw[wY a];rw[not_or]at a;refine⟨?_,λx g=>?_⟩
      .grind
      .obtain⟨k,i,rfl⟩:=List.getElem_of_mem g;rw[List.getElem_take];grind[IJ]
    grind[rK]
theorem WE:∀(f) (l) (a) (b),(∀t∈b,t.x=4->Q t.text<=30/\∀c∈t.text,iF c.toNat=τ)->∀t∈(J3 f l a b).1,t.x=4->Q t.text<=30/\∀c∈t.text,iF c.toNat=τ
 |0,l,a,b,_=>by simp[J3]
 |f+1,l,a,b,h=>by
  simp only[J3];split
  .grind
  split
  .simp
  split
  .simp
  refine WE f l _ _ λt e d=>?_;grind[Vt]
def Ŝ(l):FZ (O8 l).1:=by
 intro i a;grind[O8,tk,List.getD,mQ,WE,BS]
theorem Fk:∀(f) (l) (a) (c),Q c<=1000->(J3 f l a c).1=[]\/∃b z,(J3 f l a c).1=b++[⟨6,[],z⟩]/\Q b<=1000
 |0,l,a,c,_=>.inl K
 |f+1,l,a,c,h=>by
  simp only[J3];split
  .grind
  split
  .simp
  split
  .simp
  .refine Fk f l _ _ ?_;grind
def Uf(l):End (O8 l).1 1000:=by
 intro i a;have hs:(O8 l).1=[]\/∃b z,(O8 l).1=b++[⟨6,[],z⟩]/\Q b<=1000:=by
  unfold O8;split
  .simp
  .grind[Fk]
 grind[tk]
def Jr:∀a,(∀p∈a,17<=p.k)->Q a<=aB a
 |[],_=>vQ _
 |.ty o::r,h=>by
  have:=h (.ty o) θ;cases o<;>simp[Nt.k]at this
 |.nd k d n c::r,h=>by
  have:=Jr r λp b=>h p η;grind[aB,nN,jQ]
structure bJ(N:List Nd)(T:List Ty)(ps:List Nt):Prop where
 wn:∀p∈ps,Wn p/\17<=p.k/\p.k<=25
 ey:N.map Nd.fl=iR 0 0 (.nd 26 [] 0 ps)
 types:T=Y2 0 ps
 kz:Q (oP<|eG ps)<=1000
 deep:mx 1 (eG ps)<=20
 fp:Q N<=1200
 jz:Q T<=300
def ď{l}{N}{T}(h:dZ l<|.inr (N,T)):∃f,bJ N T f:=by
 obtain⟨_,m,x,g,i,j,rfl,rfl⟩:=h;obtain⟨f,a,b,c,d,e⟩:=Qf (uu l) (ū l) (Ŝ l) g;have k:=Xg (Uf l) g;exact⟨f,a,b,c,W,e,i,j⟩
section
variable{N:List Nd}{T:List Ty}{a:List Nt}
theorem bJ.n(h:bJ N T a):Q N=aB a+1:=by
 have:=congrArg Q h.ey;grind[lZ,R6,nN]
theorem bJ.t(h:bJ N T a):Q T=cK a:=by rw[h.types,FX]
def bJ.wl(h:bJ N T a):dP a:=(T7 a).2 λp b=>(h.wn p b).1
def GP:aX []:=λi b=>η
theorem bJ.ok(h:bJ N T a):aX T:=by
 have:=RQ a h.wl [] GP;rw[h.types];grind
def bJ.ls(h:bJ N T a)(i)(c:i<Q T):Q T[i].M<=300/\Q T[i].eo<=300:=by
 have d:T[i]∈Y2 0 a:=by
  have:=mQ c;rw[<-h.types];exact this
 have e:=MY a 0 _ d;have b:=h.jz;rw[h.t]at b;omega
def bJ.main(h:bJ N T a):∃k,kO N T a N[Q N-1].M:=by
 have l:=h.n;have b:=Bq (.nd 26 [] 0 a) (mM h.wn) N T [] [] [] [] (by simpa using h.ey) (by rw[h.types,gL];simp) GP;rw[At]at b;obtain⟨j,d,i,_,_,_,f,c,g⟩:=b;have e:j=Q N-1:=by
  rw[bW,nN]at d;simp at d;omega
 subst e;have c:N[Q N-1].M=f:=c;grind
def bJ.fq(h:bJ N T a):Q a<=1200:=by
 have c:=Jr a λp b=>(h.wn p b).2.1;have d:=h.n;have e:=h.fp;omega
end
abbrev Fr:=bZ->Option Int
def Fr.no:Fr:=λ_=>none
def Fr.set(f:Fr)(x:bZ)(i:Int):Fr:=λy=>if y=x then C i else f y
def bM(x:bZ):List Fr->Option Int
 |[]=>none
 |f::r=>match bM x r with
  |C i=>C i
  |none=>f x
def kG(a:List Fr):Fr:=a.getLastD Fr.no
def I2(a:List Fr)(x:bZ)(i:Int):List Fr:=a.dropLast++[(kG a).set x i]
theorem Ķ(a)(x)(j)(i)(h:i+1<Q a):(I2 a x j)[i]?=a[i]?:=by
 grind[I2]
inductive Br where
 |ok (fs:List Fr) (to:List<|Nat×Int)
 |bad (e:Int) (i:Nat)
def Br.and(r:Br)(k:List Fr->Br):Br:=
 match r with
 |.bad e i=>.bad e i
 |.ok a c=>match k a with
  |.bad e i=>.bad e i
  |.ok b d=>.ok b<|c++d
def Br.pop:Br->Br
 |.bad e i=>.bad e i
 |.ok a b=>.ok a.dropLast b
def Br.jk(r:Br)(x:bZ)(j:Int):Br:=
 match r with
 |.bad e i=>.bad e i
 |.ok a b=>.ok (I2 a x j) b
def vS:List Nt->Bool
 |[_,.nd k _ _ _]=>k==6
 |_=>κ
mutual
def dU(a:List Fr)(b:Nat):Nt->Br
 |.ty _=>.ok a []
 |.nd k d _ c=>
  if k=5 then match bM d a with
   |none=>.bad 5 b
   |C j=>.ok a [(b,j)]
  else if k=18 then match bM d a with
   |none=>.bad 5<|b+aB c
   |C j=>(Br.ok a [(b+aB c,j)]).and λa=>bE κ a b c
  else if k=17 then
   if (kG a d).isSome then .bad 6<|b+aB c
   else (bE κ (if vS c then I2 a d ((b+aB c:Nat):Int) else a) b c).jk d ((b+aB c:Nat):Int)
  else if k=16 then .ok (I2 a d ((b+aB c:Nat):Int)) []
  else if k=6 then (bE τ (a++[Fr.no]) b c).pop
  else if k=26 then (bE κ (a++[Fr.no]) b c).pop
  else bE κ a b c
def bE(e:Bool)(a:List Fr)(b:Nat):List Nt->Br
 |[]=>.ok a []
 |.ty _::r=>bE e a b r
 |.nd k d n f::r=>(if e&&k==26 then bE κ a b f else dU a b<|.nd k d n f).and λa=>bE e a (b+nN (.nd k d n f)) r
end
def Em(N:List Nd)(b a:Nat)(t:Nt):Prop:=∃A B,N.map Nd.fl=A++iR b a t++B/\Q A=b
def dM(N:List Nd)(b c:Nat)(a:List Nt):Prop:=∃A B,N.map Nd.fl=A++U2 b c a++B/\Q A=b
section
variable{N:List Nd}{b tb:Nat}
def dM.head{p}{r}(h:dM N b tb<|p::r):Em N b tb p/\dM N (b+nN p) (tb+nT p) r:=by
 obtain⟨A,B,h,a⟩:=h;rw[U2]at h;refine⟨⟨A,U2 (b+nN p) (tb+nT p) r++B,η,a⟩,⟨A++iR b tb p,B,η,?_⟩⟩;grind[qQ,R6]
theorem Em.parts{k}{c}{n}{a}(h:Em N b tb<|.nd k c n a):dM N b tb a/\∃g,(N[b+aB a]).fl=bV k c n (bD b tb a):=by
 obtain⟨A,B,h,d⟩:=h;rw[iR]at h;have e:=congrArg Q h;simp only[lZ,qQ,vM,jQ,xQ]at e;refine⟨⟨A,[bV k c n<|bD b tb a]++B,η,d⟩,W,?_⟩;have f:(N.map Nd.fl)[b+aB a]'η=(N[b+aB a]).fl:=θ;grind
theorem Em.ix{k}{tx}{n}{a}:bW b tb (.nd k tx n a)=((b+aB a:Nat)):=by
 grind[bW,nN]
end
def px(b:Nat):List Nt->uZ
 |[]=>[]
 |.ty _::r=>px b r
 |.nd k c n a::r=>((b+aB a:Nat))::px (b+nN (.nd k c n a)) r
theorem X9(b c):∀a,(∀p∈a,1<=p.k)->bD b c a=px b a
 |[],_=>K
 |.ty o::r,h=>by
  have:=h (.ty o) θ;cases o<;>simp[Nt.k]at this
 |.nd k e n a::r,h=>by
  rw[bD,px,Em.ix,X9 _ _ r λp d=>h p η]
theorem SD:∀(c a) (b),px b (c++a)=px b c++px (b+aB c) a
 |[],a,b=>Ω
 |.ty o::r,a,b=>by rw[jZ,px,px,SD r,aB,nN,Nat.zero_add]
 |.nd k d n c::r,a,b=>by rw[jZ,px,px,SD r,aB,jZ,þ]
theorem Br.jf(a:List Fr)(l:List<|Nat×Int)(k:List Fr->Br):(Br.ok a l).and k=match k a with
 |.bad e i=>.bad e i
 |.ok b c=>.ok b (l++c):=rfl
theorem Br.and_assoc(r:Br)(k h):(r.and k).and h=r.and λf=>(k f).and h:=by
 cases r with
 |bad e i=>rfl
 |ok a l=>
  rw[Br.jf,Br.jf];cases k a with
  |bad e i=>rfl
  |ok b c=>
   grind[Br.jf]
theorem Br.and_nil(r:Br):(r.and λf=>.ok f [])=r:=by
 cases r with
 |bad e i=>rfl
 |ok a l=>grind[Br.jf]
theorem DA(a)(b)(p)(r)(c:1<=p.k):bE κ a b (p::r)=(dU a b p).and λf=>bE κ f (b+nN p) r:=by
 cases p with
 |ty o=>cases o<;>simp[Nt.k]at c
 |nd k e n d=>rfl
theorem MU:∀(c d) (a) (b),(∀p∈c,1<=p.k)->bE κ a b (c++d)=(bE κ a b c).and λf=>bE κ f (b+aB c) d
 |[],d,a,b,_=>by
  rw[uY,bE,Br.jf,aB,Ð];grind
 |p::c,d,a,b,h=>by
  rw[jZ,DA a b p _<|h p θ,DA a b p _<|h p θ,Br.and_assoc];congr 1;funext f;rw[MU c d f _ λq e=>h q η,aB,þ]
def Rj{a:List Nt}(h:∀p∈a,1<=p.k)(c)(b j)(d):bE κ c b (a.take<|j+1)=(bE κ c b<|a.take j).and λf=>dU f (b+aB (a.take j)) a[j]:=by
 rw[nQ d,MU _ _ _ _ λp e=>h p<|List.mem_of_mem_take e];simp_all[DA,mQ,bE,aB,nN,Br.and_nil]
theorem yr{a}(h:∀p∈a,1<=p.k)(c)(b j){e}{i}(d:bE κ c b (a.take j)=.bad e i):bE κ c b a=.bad e i:=by
 have:=MU (a.take j) (a.drop j) c b λp f=>h p<|List.mem_of_mem_take f;rw[List.take_append_drop,d]at this;exact this
theorem dM.at{N}:∀{a} {b d},dM N b d a->∀j (c),Em N (b+aB (a.take j)) (d+cK (a.take j)) a[j]
 |[],_,_,_,j,c=>η
 |p::r,b,d,h,0,c=>by simpa[aB,cK]using h.head.1
 |p::r,b,d,h,j+1,c=>by
  have:=dM.at h.head.2 j (by simpa using c);simpa[aB,cK,þ]using this
theorem rG:∀(a) (b),(∀p∈a,1<=p.k)->Q (px b a)=Q a
 |[],_,_=>K
 |.ty o::r,_,h=>by
  have:=h (.ty o) θ;cases o<;>simp[Nt.k]at this
 |.nd k e n d::r,b,h=>by rw[px,jQ,jQ,rG r _ λp c=>h p η]
def Ej:∀(a) (b c),(∀p∈a,1<=p.k)->∀j (d),(px b a)[j]?=C (bW (b+aB (a.take j)) (c+cK (a.take j)) a[j])
 |[],_,_,_,j,d=>η
 |.ty o::r,_,_,h,_,_=>by
  have:=h (.ty o) θ;cases o<;>simp[Nt.k]at this
 |.nd k f n e::r,b,c,h,0,d=>by grind[px,aB,cK,Em.ix]
 |.nd k f n e::r,b,c,h,j+1,d=>by
  have:=Ej r (b+nN (.nd k f n e)) (c+nT (.nd k f n e)) (λp g=>h p η) j η;grind[px,List.getElem?_cons_succ,aB,cK,þ]
theorem U9(a)(x)(j)(h:a≠[]):Q (I2 a x j)=Q a:=by
 have:=List.length_pos_iff.2 h;grind[I2]
theorem T2{a b:List Fr}(h:a≠[])(e:Q b=Q a):b≠[]:=η
def Sl(b:List Fr)(r:Br):Prop:=∀a l,r=.ok a l->Q a=Q b
theorem Sl.and{a}{r}{k}(h:Sl a r)(d:∀f,Q f=Q a->Sl f (k f)):Sl a (r.and k):=by
 intro m l e;cases r with
 |bad e i=>grind[Br.and]
 |ok f1 c=>
  rw[Br.jf]at e;cases b:k f1 with
  |bad j n=>grind
  |ok f2 g=>
   rw[b]at e;simp at e;rw[<-e.1,d f1 (h f1 c K) f2 g b,h f1 c K]
theorem Sl.pop{a}{f}{r}(h:Sl (a++[f]) r):Sl a r.pop:=by
 intro c l e;cases r with
 |bad e i=>grind[Br.pop]
 |ok f1 b=>
  simp only[Br.pop,Br.ok.injEq]at e;have:=h f1 b K;grind
theorem Sl.jk{a}{r}(d:a≠[])(h:Sl a r)(x)(j):Sl a (r.jk x j):=by
 intro c l e;cases r with
 |bad e i=>grind[Br.jk]
 |ok f1 b=>
  simp only[Br.jk,Br.ok.injEq]at e;have:=h f1 b K;grind[U9,T2]
theorem Sl.ok{a b}{l}(h:Q b=Q a):Sl a (.ok b l):=by
 intro f1 c e;grind
def Sl.bad{a}{e}{i}:Sl a (.bad e i):=by
 intro f1 b e;grind
theorem Sl.of{d f}{r}(h:Sl f r)(e:Q f=Q d):Sl d r:=λa b c=>(h a b c).trans e
mutual
theorem WU:∀(t:Nt) (a:List Fr) (b:Nat),a≠[]->Sl a (dU a b t)
 |.ty _,a,b,_=>by rw[dU];grind[Sl.ok]
 |.nd k i n c,a,b,h=>by
  rw[dU];split
  .split
   .exact Sl.bad
   grind[Sl.ok]
  split
  .split
   .exact Sl.bad
   .exact Sl.and (Sl.ok K) λf e=>X0 c κ f b<|T2 h e
  split
  .split
   .exact Sl.bad
   .refine Sl.jk h ?_ _ _;split
    .exact(X0 c κ _ b<|T2 h<|U9 _ _ _ h).of<|U9 _ _ _ h
    .exact X0 c κ a b h
  split
  .grind[Sl.ok,U9]
  split
  .exact(X0 c τ _ b θ).pop
  split
  .exact(X0 c κ _ b θ).pop
  .exact X0 c κ a b h
theorem X0:∀(c:List Nt) (d:Bool) (a:List Fr) (b:Nat),a≠[]->Sl a (bE d a b c)
 |[],d,a,b,_=>by rw[bE];grind[Sl.ok]
 |.ty _::r,d,a,b,h=>by rw[bE];exact X0 r d a b h
 |.nd k i n g::r,d,a,b,h=>by
  rw[bE];refine Sl.and ?_ λf e=>X0 r d f _<|T2 h e;split
  .exact X0 g κ a b h
  .exact WU (.nd k i n g) a b h
end
theorem yN:∀b a,aB (b++a)=aB b+aB a
 |[],a=>by simp[aB]
 |p::r,a=>by rw[jZ,aB,aB,yN r];omega
def Kf:∀a,(∀p∈a,1<=p.k)->Q a<=aB a
 |[],_=>vQ _
 |.ty o::r,h=>by
  have:=h (.ty o) θ;cases o<;>simp[Nt.k]at this
 |.nd k d n c::r,h=>by
  have:=Kf r λp b=>h p η;grind[aB,nN,jQ]
def dG(a:uZ)(l:List<|Nat×Int):uZ:=l.foldl (λt p=>t.set p.1 p.2) a
theorem A3e(c)(a b):dG c (a++b)=dG (dG c a) b:=by simp[dG]
theorem yX(a)(l):Q (dG a l)=Q a:=by
 induction l generalizing a<;>simp_all[dG]
def Wm{k}{d e}{n}(h:V9 k d n)(c:V9 k e n):d=e:=by
 have q:∀{l:uZ},2<=Q l->l=l.dropLast.dropLast++[l.dropLast.getLastD 0,l.getLastD 0]:=by
  intro l p;obtain rfl|⟨f,b,rfl⟩:=List.eq_nil_or_concat l
  .grind
  .obtain rfl|⟨ys,a,rfl⟩:=List.eq_nil_or_concat f<;>grind
 unfold V9 at h c;by_cases c1:k=6
 .grind
 rw[wY c1]at h c;by_cases c2:k=7
 .rw[yY c2]at h c;obtain⟨a1,g,i⟩:=h;obtain⟨j,m,o⟩:=c;cases d with
  |nil=>grind
  |cons x f=>
   cases e<;>grind
 grind
def qE:uZ->uZ->Prop
 |x::r,y::s=>(x=0->y<=0)/\(y=0->x<=0)/\qE r s
 |_,_=>True
theorem vD:∀(a b),(∀x∈a,1<=x)->(∀x∈b,1<=x)->qE a b
 |[],_,_,_=>by simp[qE]
 |_::_,[],_,_=>by simp[qE]
 |x::r,y::s,c,d=>by
  have:=c x θ;have:=d y θ;exact⟨λh=>W,λh=>W,vD r s (λz e=>c z η) λz e=>d z η⟩
def XB:∀(a b c d),Q a=Q b->qE a b->qE c d->qE (a++c) (b++d)
 |[],[],_,_,_,_,h=>h
 |[],_::_,_,_,h,_,_=>η
 |_::_,[],_,_,h,_,_=>η
 |x::r,y::s,c,d,g,e,f=>⟨e.1,e.2.1,XB r s c d η e.2.2 f⟩
theorem B5e{k}{a b}(h:bO k a)(c:bO k b)(P:Q a=Q b):qE a b:=by
 have one:∀{x y:Int},aP x->aP y->qE [x] [y]:=λm d=>vD _ _ (λz f=>by simp at f;subst f;exact m.1) (λz f=>by simp at f;subst f;exact d.1);have l:∀{x y:Int},jM x->jM y->(x=0->y<=0)/\(y=0->x<=0):=λm d=>⟨λ_=>by obtain h|h:=d<;>omega,λ_=>by obtain h|h:=m<;>omega⟩;have g:∀{x y:Int},aP x->aP y->(x=0->y<=0)/\(y=0->x<=0):=λm d=>⟨λh=>by have:=m.1;omega,λh=>by have:=d.1;omega⟩;unfold bO at h c;by_cases c1:k=1\/k=2\/k=3\/k=4\/k=5
 .simp_all[yY,qE]
 rw[wY c1]at h c;by_cases c2:k=6
 .rw[yY c2]at h c;obtain⟨L,r,rfl,d,i⟩:=h;obtain⟨M,R,rfl,e,j⟩:=c;refine XB _ _ _ _ η (vD _ _ (λz f=>η) λz f=>η) ?_;exact⟨(l i j).1,(l i j).2,λh=>W,λh=>W,trivial⟩
 rw[wY c2]at h c;by_cases s:k=7
 .rw[yY s]at h c;obtain⟨x,L,rfl,d,i⟩:=h;obtain⟨y,M,rfl,e,j⟩:=c;exact vD _ _ (λz f=>by obtain rfl|f:=jW.1 f;exact d.1;exact(i z f).1) (λz f=>by obtain rfl|f:=jW.1 f;exact e.1;exact(j z f).1)
 rw[wY s]at h c;by_cases D:k=8\/k=13\/k=15\/k=18\/k=21\/k=24\/k=25
 .grind
 rw[wY D]at h c;by_cases t:k=9\/k=12\/k=19
 .rw[yY t]at h c;obtain⟨x,y,rfl,d,i⟩:=h;obtain⟨n,A,rfl,e,j⟩:=c;exact⟨(g d e).1,(g d e).2,one i j⟩
 rw[wY t]at h c;by_cases F:k=10
 .simp_all[yY,vD]
 rw[wY F]at h c;by_cases u:k=11
 .rw[yY u]at h c;exact vD _ _ (λz f=>(h z f).1) λz f=>(c z f).1
 rw[wY u]at h c;by_cases v:k=14
 .rw[yY v]at h c;obtain⟨x,rfl,d⟩:=h;obtain⟨y,rfl,e⟩:=c;exact⟨(g d e).1,(g d e).2,λ_=>W,λ_=>W,trivial⟩
 rw[wY v]at h c;by_cases w:k=16
 .rw[yY w]at h c;obtain⟨x,rfl,d⟩:=h;obtain⟨y,rfl,e⟩:=c;exact⟨(l d e).1,(l d e).2,trivial⟩
 rw[wY w]at h c;by_cases o:k=17
 .rw[yY o]at h c;obtain⟨x,y,rfl,d,i⟩:=h;obtain⟨n,A,rfl,e,j⟩:=c;exact⟨(l d e).1,(l d e).2,one i j⟩
 rw[wY o]at h c;by_cases p:k=20
 .rw[yY p]at h c;obtain⟨x,y,z,rfl,d,i,G⟩:=h;obtain⟨n,A,N,rfl,e,j,H⟩:=c;exact⟨(g d e).1,(g d e).2,(g i j).1,(g i j).2,one G H⟩
 rw[wY p]at h c;by_cases q:k=22
 .rw[yY q]at h c;obtain⟨x,z,rfl,d,i⟩:=h;obtain⟨n,N,rfl,e,j⟩:=c;exact⟨(g d e).1,(g d e).2,λ_=>W,λ_=>W,λ_=>W,λ_=>W,trivial⟩
 rw[wY q]at h c;by_cases B:k=23
 .rw[yY B]at h c;obtain⟨x,rfl,d⟩:=h;obtain⟨y,rfl,e⟩:=c;exact⟨(g d e).1,(g d e).2,λ_=>W,λ_=>W,trivial⟩
 grind[vD]
section
variable{N:List Nd}{T:List Ty}
mutual
theorem Mw:∀(t a:Nt) (i:Int),Gd t->Gd a->(t.k=0->a.k<=0)->(a.k=0->t.k<=0)->At N T t i->At N T a i->t=a
 |.ty none,a,i,_,d,_,_,h,g=>by
  rw[At]at h;subst h;cases a with
  |ty o=>
   cases o<;>grind[At]
  |nd k s n f=>grind[At]
 |.ty<|C t,a,i,_,d,b,_,h,g=>by
  have b:=b K;rw[At]at h;obtain⟨j,rfl,_,e⟩:=h;cases a with
  |ty o=>
   cases o<;>grind[At]
  |nd k s n f=>
   rw[Gd]at d;exfalso;have m:=d.1;have B:k<=0:=b;unfold bO at m;rw[wY W,wY W,wY W,wY W,wY W,wY W,wY W,wY W,wY W,wY W,wY W,wY W,wY W,wY W]at m;omega
 |.nd k s n f,a,i,q,d,a5,b,h,g=>by
  rw[Gd]at q;rw[At]at h;obtain⟨j,rfl,hj,e1,e2,e3,l,z,v⟩:=h;cases a with
  |ty o=>
   cases o with
   |none=>grind[At]
   |some a=>
    have B:k<=0:=b K;exfalso;have m:=q.1;unfold bO at m;rw[wY W,wY W,wY W,wY W,wY W,wY W,wY W,wY W,wY W,wY W,wY W,wY W,wY W,wY W]at m;omega
  |nd M Z P c=>
   rw[Gd]at d;rw[At]at g;obtain⟨H,a6,a7,a2,a3,a4,a8,A,w⟩:=g;have:H=j:=W;subst this;obtain rfl:k=M:=W;obtain rfl:s=Z:=η;obtain rfl:n=P:=W;obtain rfl:=Wm z A;have D:Q (f.map Nt.k)=Q (c.map Nt.k):=by rw[lZ,lZ,<-MQ v,<-MQ w]
   rw[MS f c l q.2 d.2 (B5e q.1 d.1 D) v w]
theorem MS:∀(f c:List Nt) (l:uZ),rH f->rH c->qE (f.map Nt.k) (c.map Nt.k)->kO N T f l->kO N T c l->f=c
 |[],c,l,_,_,_,h,g=>by
  rw[kO]at h;subst h;cases c<;>grind[kO]
 |p::r,c,l,d,u,b,h,g=>by
  rw[kO]at h;obtain⟨i,L,rfl,x,F⟩:=h;cases c with
  |nil=>grind[kO]
  |cons R S=>
   rw[kO]at g;obtain⟨i',a9,e,y,G⟩:=g;simp at e;obtain⟨rfl,rfl⟩:=e;have b:=b;rw[Mw p R i d.1 u.1 b.1 b.2.1 x y,MS r S L d.2 u.2 b.2.2 F G]
end
def B2e{a b}{e}(g:∀p∈a,Gd p/\17<=p.k/\p.k<=25)(i:∀p∈b,Gd p/\17<=p.k/\p.k<=25)(j:kO N T a e)(k:kO N T b e):a=b:=by
 have f:∀d:List Nt,(∀p∈d,Gd p)->rH d:=by
  intro d;induction d with
  |nil=>intro _;trivial
  |cons q r m=>intro h;exact⟨h q θ,m λp c=>h p η⟩
 refine MS a b e (f a λp c=>(g p c).1) (f b λp c=>(i p c).1) (vD _ _ (λx l=>?_) λx l=>?_) j k<;>grind
end
def xN:bZ:=[120]
def Gf:S6 xN:=⟨ζ,ζ,ζ,ζ,λc a=>by simp[xN]at a;subst a;decide⟩
theorem TE:∀a,Q a<=aB a+iI a
 |[]=>vQ _
 |.ty o::r=>by have:=TE r;grind[aB,iI,nN,jQ]
 |.nd k c n b::r=>by have:=TE r;grind[aB,iI,nN,jQ]
theorem Zm(k)(a)(n)(l):Q (bV k a n l).M<=Q l:=by
 grind[bV]
mutual
theorem NC:∀(t:Nt),Gd t->∀b c,∀m∈iR b c t,Q m.M<=nN t
 |.ty _,_,b,c,m,a=>by grind[iR]
 |.nd k e n d,h,b,c,m,a=>by
  rw[Gd]at h;rw[iR,qW,zW]at a;rw[nN];obtain a|rfl:=a
  .have:=Jp d h.2 b c m a;omega
  grind[Zm,bD,NU,TE,B4e]
theorem Jp:∀(d:List Nt),rH d->∀b c,∀m∈U2 b c d,Q m.M<=aB d
 |[],_,b,c,m,a=>by grind[U2]
 |p::r,h,b,c,m,a=>by
  rw[U2,qW]at a;rw[aB];obtain a|a:=a
  .have:=NC p h.1 b c m a;omega
  .have:=Jp r h.2 _ _ m a;omega
end
mutual
theorem Cd:∀(t:Nt),Wn t->∀b c,∀m∈iR b c t,Q m.text<=30
 |.ty _,_,b,c,m,a=>by grind[iR]
 |.nd k e n d,h,b,c,m,a=>by
  rw[Wn]at h;rw[iR,qW,zW]at a;obtain a|rfl:=a
  .exact WZ d h.2.2 b c m a
  .rw[(DI _ _ _ _).1];exact(Wu h.2.1).1
theorem WZ:∀(d:List Nt),dP d->∀b c,∀m∈U2 b c d,Q m.text<=30
 |[],_,b,c,m,a=>by grind[U2]
 |p::r,h,b,c,m,a=>by
  rw[U2,qW]at a;rw[dP]at h;obtain a|a:=a
  .exact Cd p h.1 b c m a
  .exact WZ r h.2 _ _ m a
end
theorem bJ.tx{N}{T}{b}(h:bJ N T b):∀a∈N,Q a.text<=30:=λa e=>by
 have c:a.fl∈iR 0 0 (.nd 26 [] 0 b):=by
  rw[<-h.ey];exact List.mem_map_of_mem e
 have d:=Cd _ (mM h.wn) 0 0 _ c;exact d
mutual
theorem ML:∀(t:Tr) (b:Nat),∀y∈gN b t,y.x=8\/y.x=9\/y.fh=0
 |.nd k d c,b,y,a=>by
  rw[gN]at a;split at a
  .exact Rb c b y a
  .rw[qW,zW]at a;obtain a|rfl:=a
   .exact QU c b y a
   grind[kH]
theorem QU:∀(c:List Tr) (b:Nat),∀y∈O9 b c,y.x=8\/y.x=9\/y.fh=0
 |[],b,y,a=>by grind[O9]
 |t::r,b,y,a=>by
  rw[O9,qW]at a;obtain a|a:=a
  .exact ML t b y a
  .exact QU r _ y a
theorem Rb:∀(c:List Tr) (b:Nat),∀y∈oS b c,y.x=8\/y.x=9\/y.fh=0
 |[],b,y,a=>by
  grind[oS]
 |t::r,b,y,a=>by
  rw[oS,qW,qW,zW]at a;obtain (a|a)|rfl:=a
  .exact QU r _ y a
  .exact ML t _ y a
  simp
end
mutual
theorem Rp:∀(t:Nt) (b:Nat),∀y∈gL b t,y.x=8\/y.x=9\/y.fh=0
 |.ty none,b,y,a=>by grind[gL]
 |.ty<|C t,b,y,a=>by grind[gL,ML]
 |.nd k d n c,b,y,a=>by rw[gL]at a;exact NA c b y a
theorem NA:∀(c:List Nt) (b:Nat),∀y∈Y2 b c,y.x=8\/y.x=9\/y.fh=0
 |[],b,y,a=>by grind[Y2]
 |p::r,b,y,a=>by
  rw[Y2,qW]at a;obtain a|a:=a
  .exact Rp p b y a
  .exact NA r _ y a
end
theorem bJ.of{N}{T}{b}(h:bJ N T b):∀t∈T,t.x=8\/t.x=9\/t.fh=0:=λt a=>by
 rw[h.types]at a;grind[NA]
