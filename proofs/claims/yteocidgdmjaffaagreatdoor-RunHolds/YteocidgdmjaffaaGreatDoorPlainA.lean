/-
  A part of the proof.
-/
import Derived.Lib.ItoaNum
import Derived.Lib.Small
import Derived.Lib.Atoi
import Derived.Lib.Bytealg
set_option maxHeartbeats 0
set_option linter.all false
set_option maxRecDepth 100000
namespace Go.Proofs.YteocidgdmjaffaaGreatDoor
abbrev Y:=List UInt8
abbrev bZ:=List Int
theorem uZ{a b:Type}{l:List a}(f:a→b):(l.map f).length=l.length:=List.length_map f
theorem lZ{c:Type}{a b}{l:List c}:(b::l).set 0 a=a::l:=rfl
theorem iZ{c:Type}{a b}{l:List c}{n}:(b::l).set (n+1) a=b::l.set n a:=rfl
theorem zZ{b:Type}{l:List b}{i}{a}:l.toArray.setIfInBounds i a=(l.set i a).toArray:=List.setIfInBounds_toArray ..
theorem wZ:(false=true)=False:=Bool.false_eq_true
theorem yZ{b:Type}{a:b}:¬a∈[]:=List.not_mem_nil
theorem rZ{d:Type}(a b c:List d):a++b++c=a++(b++c):=List.append_assoc a b c
theorem qZ{c d:Type}{b}{f:c→d}{l:List c}:b∈l.map f↔∃a,a∈l∧f a=b:=List.mem_map
theorem kZ{d:Type}{a}{b c:List d}:a::b++c=a::(b++c):=rfl
theorem jZ{a:Type}{l:List a}:l.take l.length=l:=List.take_length
def vZ{c:Type}{a b:c}(h:some a=some b):a=b:=Option.some.inj h
theorem xZ{b c:Type}{f:b→c}{a}{l}:(a::l).map f=f a::l.map f:=rfl
theorem bY{a:Type}(l:List a):[]++l=l:=rfl
theorem lY{a:Type}(l:List a):l++[]=l:=List.append_nil l
theorem iY{c d:Type}{f:c→d}{a b:List c}:(a++b).map f=a.map f++b.map f:=List.map_append
theorem zY{c}{h:Decidable c}(n:¬c){a}{t e:a}:ite c t e=e:=if_neg n
theorem wY{c}{h:Decidable c}(n:c){a}{t e:a}:ite c t e=t:=if_pos n
theorem zQ{c:Type}{a b:c}:(some a=some b)=(a=b):=Option.some.injEq a b
theorem qQ{c:Type}{a b:List c}:(a++b).length=a.length+b.length:=List.length_append
theorem jQ{b:Type}{a}{l:List b}:(a::l).length=l.length+1:=rfl
theorem xQ{a:Type}:([]:List a).length=0:=rfl
theorem kQ{a b c:Nat}(h:a<=b)(k:b<=c):a<=c:=Nat.le_trans h k
theorem vQ(a:Nat):a<=a:=Nat.le_refl a
def wQ(a):0<=a:=Nat.zero_le a
theorem yQ{a b c:Nat}(h:a<b)(k:b<=c):a<c:=Nat.lt_of_lt_of_le h k
theorem lQ{b:Type}{l:List b}{i}{a}:l.getD i a=l[i]?.getD a:=List.getD_eq_getElem?_getD ..
theorem gQ{a:Type}{l:List a}{i}(h:i<l.length):l[i]?=some l[i]:=List.getElem?_eq_getElem h
theorem mQ{a:Type}{l:List a}{i}(h:i<l.length):l[i]∈l:=List.getElem_mem h
theorem nQ{a:Type}{l:List a}{i}(h):l.take (i+1)=l.take i++[l[i]]:=List.take_succ_eq_append_getElem h
theorem tQ(n:Nat):((n:Int)).toNat=n:=Int.toNat_natCast n
theorem zW{c:Type}{a b:c}:a∈[b]↔a=b:=List.mem_singleton
theorem qW{b:Type}{a}{l k:List b}:a∈l++k↔a∈l \/a∈k:=List.mem_append
theorem jW{c:Type}{a b}{l:List c}:a∈b::l↔a=b \/a∈l:=List.mem_cons
def eO(n:Nat):Bool:=decide (48<=n)&&decide (n<=57)
def gP(n:Nat):Bool:=(decide (97<=n)&&decide (n<=122))||(decide (65<=n)&&decide (n<=90))||decide (n=95)
def blank(n:Nat):Bool:=decide (n=32)||decide (n=10)
def gB(n:Nat):Bool:=gP n||eO n
def gH(n:Nat):Bool:=decide (32<=n)&&decide (n<=126)&&decide (n≠34)
def sp(p:Nat->Bool):Y->Nat
 |[]=>0
 |c::r=>if p c.toNat then sp p r+1 else 0
theorem mI(p)(l):sp p l<=l.length:=by
 induction l with
 |nil=>simp[sp]
 |cons c r a=>grind[sp]
def uD(p):∀(l) (k) (h),k<=sp p l->p l[k].toNat=true->k+1<=sp p l
 |[],_,h,_,_=>by grind
 |c::r,0,_,_,d=>by grind[sp]
 |c::r,k+1,h,a,d=>by
  simp only[sp]at a⊢;split at a
  .rename_i b;rw[wY b];have:=uD p r k (by grind) (by omega) (by grind);omega
  omega
theorem wX(p):∀(l) (k) (h),k<=sp p l->p l[k].toNat=false->sp p l=k
 |[],_,h,_,_=>by grind
 |c::r,0,_,_,d=>by grind[sp]
 |c::r,k+1,h,a,d=>by
  simp only[sp]at a⊢;split at a
  .rename_i b;rw[wY b];have:=wX p r k (by grind) (by omega) (by grind);omega
  omega
def RH:List Y:=[[108,101,116],[102,110],[105,102],[101,108,115,101],[119,104,105,108,101],[114,101,116,117,114,110],[112,114,105,110,116],[116,114,117,101],[102,97,108,115,101],[110,117,108,108],[97,115],[116,121,112,101,111,102],[110,117,109],[98,111,111,108],[116,101,120,116],[97,110,121],[117,110,107,110,111,119,110]]
def has(a:List Y)(l:Y):Bool:=a.contains l
def pL(l:Y):Bool:=has RH l
def lO:List Y:=[[61,61],[61,62],[40],[41],[123],[125],[91],[93],[44],[59],[58],[46],[61],[60],[43],[45],[42],[33],[124]]
def L0(l:Y)(a:List Y):Nat:=a.foldl (λm g=>if g.isPrefixOf l then max m g.length else m) 0
def A6d(l)(a:List Y)(k)(h):has (a.take (k+1)) l=(has (a.take k) l||l==a[k]):=by
 rw[nQ h];grind[has]
theorem WC{l}{a}(h:l∈a):has a l=true:=by grind[has]
structure Tk where
 x:Int
 text:Y
 at':Nat
def nK(l:Y):Int×Y×Nat:=
 if 9<sp eO l\/l.head?=some 48/\1<sp eO l then (0,[],0) else (3,l.take (sp eO l),sp eO l)
def name(l:Y):Int×Y×Nat:=
 if 20<sp gB l then (0,[],0) else (if pL (l.take (sp gB l)) then 2 else 1,l.take (sp gB l),sp gB l)
def text(l:Y):Int×Y×Nat:=
 if 30<sp gH l.tail\/(l.tail.drop (sp gH l.tail)).head?≠some 34 then (0,[],0) else (4,l.tail.take (sp gH l.tail),sp gH l.tail+2)
def oJ(l:Y):Int×Y×Nat:=
 if L0 l lO=0 then (0,[],0) else (5,l.take (L0 l lO),L0 l lO)
def aV(l:Y):Int×Y×Nat:=
 match l.head? with
 |none=>(0,[],0)
 |some c=>if eO c.toNat then nK l else if gP c.toNat then name l else if c.toNat=34 then text l else oJ l
def Q7:Nat->Y->Nat->List Tk->List Tk×Int×Nat
 |0,_,_,_=>([],0,0)
 |f+1,l,a,b=>
  if l.length<=a+sp blank (l.drop a) then (b++[⟨6,[],l.length⟩],0,0)
  else if (aV (l.drop (a+sp blank (l.drop a)))).2.2=0 then ([],1,a+sp blank (l.drop a))
  else if b.length=1000 then ([],2,a+sp blank (l.drop a))
  else Q7 f l (a+sp blank (l.drop a)+(aV (l.drop (a+sp blank (l.drop a)))).2.2)
   (b++[⟨(aV (l.drop (a+sp blank (l.drop a)))).1,(aV (l.drop (a+sp blank (l.drop a)))).2.1,a+sp blank (l.drop a)⟩])
def M8(l:Y):List Tk×Int×Nat:=if 4000<l.length then ([],2,0) else Q7 (l.length+1) l 0 []
def fR(l:Y):∀(b:List Y) (m),m<=l.length->b.foldl (λm g=>if g.isPrefixOf l then max m g.length else m) m<=l.length
 |[],m,a=>a
 |g::r,m,a=>by
  simp only[List.foldl_cons];refine fR l r _ ?_;grind
def QW(l):(aV l).2.2<=l.length:=by
 unfold aV;cases h:l.head? with
 |none=>simp
 |some c=>
  simp only;split
  .grind[nK,mI]
  split
  .grind[name,mI]
  split
  .unfold text;grind[List.drop_of_length_le]
  .unfold oJ;split
   .simp
   .exact fR l lO 0 (by omega)
theorem TB(f)(l)(a)(b)(c:sp blank (l.drop a)=0):Q7 (f+1) l a b=
 if l.length<=a then (b++[⟨6,[],l.length⟩],0,0)
 else if (aV (l.drop a)).2.2=0 then ([],1,a)
 else if b.length=1000 then ([],2,a)
 else Q7 f l (a+(aV (l.drop a)).2.2) (b++[⟨(aV (l.drop a)).1,(aV (l.drop a)).2.1,a⟩]):=by
 simp_all[Q7,Nat.add_zero]
theorem zS(p):∀(l:Y),sp p (l.drop (sp p l))=0
 |[]=>by rfl
 |c::r=>by
  simp only[sp];split
  .rw[List.drop_succ_cons];exact zS p r
  grind[sp]
theorem NQ(f)(l)(a)(b):Q7 (f+1) l a b=Q7 (f+1) l (a+sp blank (l.drop a)) b:=by
 grind[zS,blank,List.drop_drop,TB,sp,Q7]
def plain(k:Int):Bool:=k==1||k==2||k==3
theorem EY(p):∀(l) (h:sp p l<l.length),p l[sp p l].toNat=false
 |[],h=>by grind
 |c::r,h=>by
  cases b:p c.toNat
  .grind[sp]
  .have a:sp p (c::r)=sp p r+1:=by simp[sp,b]
   simp only[a,List.getElem_cons_succ];rw[a]at h;exact EY p r (by grind)
theorem BN(p):∀(l) (k) (h),k<sp p l->p l[k].toNat=true
 |[],k,h,_=>by grind
 |c::r,0,_,a=>by
  grind[sp]
 |c::r,k+1,h,a=>by
  cases b:p c.toNat
  .grind[sp]
  .simp only[sp,b,if_true]at a;simpa using BN p r k (by grind) (by omega)
structure Kc(l:Y)(r:Int×Y×Nat):Prop where
 le:r.2.2<=l.length
 size:r.2.2=r.2.1.length+if r.1=4 then 2 else 0
 x:r.1≠6
 name:r.1=1\/r.1=2->(∀h:0<l.length,gP l[0].toNat=true)/\(∀h:r.2.2<l.length,gB l[r.2.2].toNat=false)
 num:r.1=3->(∀h:0<l.length,eO l[0].toNat=true)/\(∀h:r.2.2<l.length,eO l[r.2.2].toNat=false)
def vy(l)(b:(aV l).2.2≠0):Kc l (aV l):=by
 have a:=QW l;unfold aV at b a⊢;cases e:l.head? with
 |none=>grind
 |some c=>
  rw[e]at b a;simp only at b a⊢;have k:∀h:0<l.length,l[0]=c:=by
   intro h;rw[List.head?_eq_getElem?,gQ h]at e;exact vZ e
  cases i:eO c.toNat
  .rw[i]at b a;cases j:gP c.toNat
   .rw[j]at b a;by_cases g:c.toNat=34
    .rw[wY g]at b a⊢;simp at b a⊢;unfold text at b a⊢;split at b
     .grind
     .rename_i d;rw[zY d]at a⊢;have f:=a;refine⟨a,?_,by simp,by simp,by simp⟩;grind
    .rw[zY g]at b a⊢;simp at b a⊢;unfold oJ at b a⊢;split at b
     .grind
     .rename_i d;rw[zY d]at a⊢;have f:=a;refine⟨a,?_,by simp,by simp,by simp⟩;grind
   .rw[j]at b a;simp at b a⊢;unfold name at b a⊢;split at b
    .grind
    .rename_i d;rw[zY d]at a⊢;have f:=a;refine⟨a,?_,?_,?_,?_⟩
     .grind
     .omega
     .grind[EY,gB]
     omega
  .rw[i]at b a;simp at b a⊢;unfold nK at b a⊢;split at b
   .grind
   .rename_i d;rw[zY d]at a⊢;refine⟨a,?_,by simp,by simp,?_⟩
    .grind
    grind[EY,eO]
structure Ty where
 x:Int
 ej:List (Y×Int)
 M:bZ
 ew:Int
structure C where
 x:Int
 a:Int
 b:Int
 c:Int
 M:bZ
 text:Y
 n:Int
 ty:Int
 at':Int
structure St where
 i:Nat
 N:List C
 T:List Ty
inductive Out(α:Type) where
 |ok (s:St) (x:α)
 |fail (e:Int) (p:Int)
def tk(L:List Tk)(i:Nat):Tk:=L.getD i ⟨6,[],0⟩
def aJ(L:List Tk)(i:Nat)(a:List Y):Bool:=((tk L i).x==5||(tk L i).x==2)&&has a (tk L i).text
def bC{a}(L:List Tk)(i:Nat)(e:Int):Option (Out a):=some (.fail e ((tk L i).at'))
def St.nx(s:St):St:=⟨s.i+1,s.N,s.T⟩
def aB(L:List Tk)(s:St)(m:Y):Option (Out Unit):=if aJ L s.i [m] then some (.ok s.nx ()) else bC L s.i 1
def bK(s:St)(t:Ty):Option (Out Int):=some (.ok ⟨s.i,s.N,s.T++[t]⟩ s.T.length)
def aD(s:St)(n:C):Option (Out Int):=some (.ok ⟨s.i,s.N++[n],s.T⟩ s.N.length)
def iM:C:=⟨0,0,0,0,[],[],0,-1,0⟩
def gD(s:St)(n:Int):Int:=(s.N.getD n.toNat iM).at'
def A8{b c}(x:Option (Out b))(k:St->b->Option (Out c)):Option (Out c):=
 match x with
 |none=>none
 |some (.fail e p)=>some (.fail e p)
 |some (.ok s a)=>k s a
def yS:List Y:=[[110,117,109],[98,111,111,108],[116,101,120,116],[110,117,108,108],[97,110,121],[117,110,107,110,111,119,110],[123],[91],[40]]
def yM:List Y:=[[116,114,117,101],[102,97,108,115,101],[110,117,108,108],[102,110],[40],[91],[123],[33],[45],[116,121,112,101,111,102]]
def NV:List Y:=[[108,101,116],[112,114,105,110,116],[114,101,116,117,114,110],[105,102],[119,104,105,108,101]]
def jR(L:List Tk)(i:Nat):Bool:=(tk L i).x==1||(tk L i).x==3||(tk L i).x==4||aJ L i yM
def KV(L:List Tk)(i:Nat):Bool:=aJ L i NV||jR L i
def G9(t:Y):Int:=
 if t=[110,117,109] then 1 else if t=[98,111,111,108] then 2 else if t=[116,101,120,116] then 3 else if t=[110,117,108,108] then 4 else if t=[97,110,121] then 5 else if t=[117,110,107,110,111,119,110] then 6 else 0
inductive mD where
 |typ|expr|obj|par
structure Sp where
 typ:Nat->St->Option (Out Int)
 union:Nat->St->Option (Out Int)
 f7:Nat->St->bZ->Option (Out bZ)
 ft:Nat->St->Option (Out Int)
 jc:Nat->St->List (Y×Int)->Option (Out Int)
 j9:Nat->St->Option (Out Int)
 M:mD->Y->Nat->St->List Y->bZ->Option (Out bZ)
 expr:Nat->St->Option (Out Int)
 comp:Nat->St->Option (Out Int)
 sum:Nat->St->Option (Out Int)
 prod:Nat->St->Option (Out Int)
 row:Bool->Nat->St->Int->Option (Out Int)
 oper:Nat->St->Option (Out Int)
 tail:Nat->St->Int->Option (Out Int)
 simple:Nat->St->Option (Out Int)
 block:Nat->St->Option (Out Int)
 fx:Nat->St->bZ->Option (Out bZ)
 gd:Nat->St->Option (Out Int)
 any:Nat->St->Option (Out Int)
 gk:Nat->St->bZ->Option (Out bZ)
def aQ(L:List Tk)(a:Bool)(d:Nat)(s:St)(part:Nat->St->Option (Out Int)):Option (Out Int):=
 if a then if 20<=d then bC L s.i 8 else part (d+1) s else bC L s.i 1
def J9:Bool->List Y
 |true=>[[43],[45]]
 |false=>[[42]]
def gN(L:List Tk)(s:St)(left:Int)(part:St->Option (Out Int)):Option (Out Int):=
 A8 (part s.nx) λa x=>aD a ⟨12,left,x,0,[],(tk L s.i).text,0,-1,gD a left⟩
def aY(L:List Tk)(r:Sp)(d:Nat)(s:St):Option (Out Int):=if aJ L s.i [[58]] then r.typ d s.nx else some (.ok s (-1))
def aN(L:List Tk)(s:St)(a:List Y):Option (Out Y):=
 if (tk L s.i).x=1 then if has a (tk L s.i).text then bC L s.i 6 else some (.ok s.nx (tk L s.i).text) else bC L s.i 1
def part(L:List Tk)(r:Sp)(d:Nat)(s:St)(a:List Y):mD->Option (Out (Int×List Y))
 |.typ=>A8 (r.typ d s) λs x=>some (.ok s (x,a))
 |.expr=>A8 (r.expr d s) λs x=>some (.ok s (x,a))
 |.obj=>A8 (aN L s a) λc b=>A8 (aB L c [58]) λe _=>A8 (r.expr d e) λf x=>
  A8 (aD f ⟨15,x,0,0,[],b,0,-1,(tk L s.i).at'⟩) λg y=>some (.ok g (y,a++[b]))
 |.par=>A8 (aN L s a) λc b=>A8 (aY L r d c) λe t=>
  A8 (aD e ⟨16,0,0,0,[],b,0,t,(tk L s.i).at'⟩) λf y=>some (.ok f (y,a++[b]))
def jT(k:Int):Int:=if k=5 then 18 else if k=8 then 19 else if k=9 then 20 else 0
def iS(n:C)(v:Int):C:=
 if n.x=5 then ⟨18,v,n.b,n.c,n.M,n.text,n.n,-1,n.at'⟩
 else if n.x=8 then ⟨19,n.a,v,n.c,n.M,n.text,n.n,-1,n.at'⟩
 else ⟨20,n.a,n.b,v,n.M,n.text,n.n,-1,n.at'⟩
def nA(l:Y):Int:=l.foldl (λn c=>10*n+c.toNat-48) 0
def step(L:List Tk)(r:Sp):Sp where
 typ d s:=aQ L (aJ L s.i yS) d s r.union;union d s:=A8 (r.ft d s) λs x=>if aJ L s.i [[124]] then A8 (r.f7 d s [x]) λs l=>bK s ⟨10,[],l,0⟩ else some (.ok s x);f7 d s acc:=if aJ L s.i [[124]] then A8 (r.ft d s.nx) λs x=>r.f7 d s (acc++[x]) else some (.ok s acc);ft d s:=
  if aJ L s.i [[123]] then r.jc d s.nx []
  else if aJ L s.i [[91]] then A8 (r.typ d s.nx) λs x=>A8 (aB L s [93]) λs _=>bK s ⟨8,[],[],x⟩
  else if aJ L s.i [[40]] then r.j9 d s.nx
  else if (tk L s.i).x=2/\G9 (tk L s.i).text≠0 then bK s.nx ⟨G9 (tk L s.i).text,[],[],0⟩ else bC L s.i 1;jc d s fields:=
  if aJ L s.i [[125]] then bK s.nx ⟨7,fields,[],0⟩
  else A8 (aN L s (fields.map (·.1))) λs j=>A8 (aB L s [58]) λs _=>A8 (r.typ d s) λs x=>A8 (aB L s [59]) λs _=>r.jc d s (fields++[(j,x)]);j9 d s:=A8 (r.M .typ [41] d s [] []) λs l=>
  if aJ L s.i [[61,62]] then A8 (r.typ d s.nx) λs x=>bK s ⟨9,[],l,x⟩
  else match l with
   |[x]=>some (.ok s x)
   |_=>bC L s.i 1;M p e d s names acc:=
  if aJ L s.i [e] then some (.ok s.nx acc)
  else A8 (if acc.length=0 then some (.ok s ()) else aB L s [44]) λs _=>A8 (part L r d s names p) λs x=>r.M p e d s x.2 (acc++[x.1]);expr d s:=aQ L (jR L s.i) d s r.comp;comp d s:=A8 (r.sum d s) λs x=>if aJ L s.i [[61,61],[60]] then gN L s x (r.sum d) else some (.ok s x);sum d s:=A8 (r.prod d s) λs x=>r.row true d s x;prod d s:=A8 (r.oper d s) λs x=>r.row false d s x;row b d s x:=if aJ L s.i (J9 b) then A8 (gN L s x (if b then r.prod d else r.oper d)) λs y=>r.row b d s y else some (.ok s x);oper d s:=
  if aJ L s.i [[33],[45],[116,121,112,101,111,102]] then A8 (aQ L (jR L (s.i+1)) d s.nx r.oper) λf x=>aD f ⟨13,x,0,0,[],(tk L s.i).text,0,-1,(tk L s.i).at'⟩
  else A8 (r.simple d s) λs x=>r.tail d s x;tail d s h:=
  if aJ L s.i [[40]] then A8 (r.M .expr [41] d s.nx [] []) λf l=>A8 (aD f ⟨7,h,0,0,l,[],0,-1,gD s h⟩) λs x=>r.tail d s x
  else if aJ L s.i [[46]] then
   if (tk L (s.i+1)).x=1 then A8 (aD s.nx.nx ⟨8,h,0,0,[],(tk L (s.i+1)).text,0,-1,gD s h⟩) λs x=>r.tail d s x else bC L (s.i+1) 1
  else if aJ L s.i [[91]] then A8 (r.expr d s.nx) λf x=>A8 (aB L f [93]) λf _=>A8 (aD f ⟨9,h,x,0,[],[],0,-1,gD s h⟩) λs x=>r.tail d s x
  else if aJ L s.i [[97,115]] then A8 (r.typ d s.nx) λf t=>A8 (aD f ⟨14,h,0,0,[],[],0,t,gD s h⟩) λs x=>r.tail d s x
  else some (.ok s h);simple d s:=
  if (tk L s.i).x=3 then aD s.nx ⟨1,0,0,0,[],[],nA (tk L s.i).text,-1,(tk L s.i).at'⟩
  else if (tk L s.i).x=4 then aD s.nx ⟨2,0,0,0,[],(tk L s.i).text,0,-1,(tk L s.i).at'⟩
  else if (tk L s.i).x=1 then aD s.nx ⟨5,0,0,0,[],(tk L s.i).text,0,-1,(tk L s.i).at'⟩
  else if aJ L s.i [[116,114,117,101]] then aD s.nx ⟨3,0,0,0,[],[],1,-1,(tk L s.i).at'⟩
  else if aJ L s.i [[102,97,108,115,101]] then aD s.nx ⟨3,0,0,0,[],[],0,-1,(tk L s.i).at'⟩
  else if aJ L s.i [[110,117,108,108]] then aD s.nx ⟨4,0,0,0,[],[],0,-1,(tk L s.i).at'⟩
  else if aJ L s.i [[102,110]] then A8 (aB L s.nx [40]) λa _=>A8 (r.M .par [41] d a [] []) λc l=>A8 (aY L r d c) λg t=>A8 (r.block d g) λi x=>
   aD i ⟨6,x,0,0,l,[],0,t,(tk L s.i).at'⟩
  else if aJ L s.i [[91]] then A8 (r.M .expr [93] d s.nx [] []) λf l=>aD f ⟨11,0,0,0,l,[],0,-1,(tk L s.i).at'⟩
  else if aJ L s.i [[123]] then A8 (r.M .obj [125] d s.nx [] []) λf l=>aD f ⟨10,0,0,0,l,[],0,-1,(tk L s.i).at'⟩
  else A8 (aB L s [40]) λs _=>A8 (r.expr d s) λs x=>A8 (aB L s [41]) λs _=>some (.ok s x);block d s:=A8 (aB L s [123]) λa _=>A8 (r.fx d a []) λc l=>aD c ⟨26,0,0,0,l,[],0,-1,(tk L s.i).at'⟩;fx d s acc:=if aJ L s.i [[125]] then some (.ok s.nx acc) else A8 (r.gd d s) λs x=>r.fx d s (acc++[x]);gd d s:=aQ L (KV L s.i) d s r.any;any d s:=
  if aJ L s.i [[108,101,116]] then
   if (tk L (s.i+1)).x=1 then A8 (aY L r d s.nx.nx) λa t=>A8 (aB L a [61]) λc _=>A8 (r.expr d c) λg x=>A8 (aB L g [59]) λi _=>
    aD i ⟨17,x,0,0,[],(tk L (s.i+1)).text,0,t,(tk L s.i).at'⟩
   else bC L (s.i+1) 1
  else if aJ L s.i [[112,114,105,110,116]] then A8 (r.expr d s.nx) λa x=>A8 (aB L a [59]) λc _=>aD c ⟨21,x,0,0,[],[],0,-1,(tk L s.i).at'⟩
  else if aJ L s.i [[114,101,116,117,114,110]] then A8 (r.expr d s.nx) λa x=>A8 (aB L a [59]) λc _=>aD c ⟨24,x,0,0,[],[],0,-1,(tk L s.i).at'⟩
  else if aJ L s.i [[105,102]] then A8 (aB L s.nx [40]) λa _=>A8 (r.expr d a) λc x=>A8 (aB L c [41]) λg _=>A8 (r.block d g) λi y=>
   A8 (if aJ L i.i [[101,108,115,101]] then r.block d i.nx else some (.ok i (-1))) λk z=>aD k ⟨22,x,y,z,[],[],0,-1,(tk L s.i).at'⟩
  else if aJ L s.i [[119,104,105,108,101]] then A8 (aB L s.nx [40]) λa _=>A8 (r.expr d a) λc x=>A8 (aB L c [41]) λg _=>A8 (r.block d g) λi y=>
   aD i ⟨23,x,y,0,[],[],0,-1,(tk L s.i).at'⟩
  else A8 (r.expr d s) λa x=>
   if aJ L a.i [[61]] then
    if jT (a.N.getD x.toNat iM).x=0 then bC L a.i 1
    else A8 (r.expr d ⟨a.i+1,a.N.take x.toNat,a.T⟩) λc v=>A8 (aB L c [59]) λg _=>aD g (iS (a.N.getD x.toNat iM) v)
   else A8 (aB L a [59]) λc _=>aD c ⟨25,x,0,0,[],[],0,-1,gD a x⟩;gk d s acc:=if (tk L s.i).x=6 then some (.ok s acc) else A8 (r.gd d s) λs x=>r.gk d s (acc++[x])
def bot:Sp:=⟨λ_ _=>none,λ_ _=>none,λ_ _ _=>none,λ_ _=>none,λ_ _ _=>none,λ_ _=>none,λ_ _ _ _ _ _=>none,λ_ _=>none,λ_ _=>none,λ_ _=>none,λ_ _=>none,
 λ_ _ _ _=>none,λ_ _=>none,λ_ _ _=>none,λ_ _=>none,λ_ _=>none,λ_ _ _=>none,λ_ _=>none,λ_ _=>none,λ_ _ _=>none⟩
def fV(L:List Tk):Nat->Sp
 |0=>bot
 |f+1=>step L (fV L f)
def Ev{a}(L:List Tk)(c:Sp->Option (Out a))(o:Out a):Prop:=∃b,∀f,b<=f->c (fV L f)=some o
theorem Ev.one{d}{L}{e}{o c:Out d}(h:Ev L e o)(f:Ev L e c):o=c:=by
 obtain⟨a,g⟩:=h;obtain⟨b,i⟩:=f;have:=(g (a+b) (by omega)).symm.trans (i (a+b) (by omega));grind
def Ev.pure{a}{L:List Tk}{o:Out a}:Ev L (λ_=>some o) o:=⟨0,λ_ _=>rfl⟩
def Ev.eq{b}{L}{c ψ}{o:Out b}(h:Ev L c o)(e:∀r,ψ r=c r):Ev L ψ o:=by
 obtain⟨a,d⟩:=h;exact⟨a,λf g=>(e _).trans (d f g)⟩
theorem Ev.bind{c d}{L}{e}{k:Sp->St->c->Option (Out d)}{s}{x}{o}(h:Ev L e (.ok s x))(g:Ev L (λr=>k r s x) o):Ev L (λr=>A8 (e r) (k r)) o:=by
 obtain⟨a,i⟩:=h;obtain⟨b,j⟩:=g;refine⟨a+b,λf l=>?_⟩;grind[A8,fV]
def Ev.bad{b d}{L}{c}{k:Sp->St->b->Option (Out d)}{e p}(h:Ev L c (.fail e p)):Ev L (λr=>A8 (c r) (k r)) (.fail e p):=by
 obtain⟨a,g⟩:=h;refine⟨a,λf i=>?_⟩;grind[A8,fV]
theorem Ev.step{b}{L}{φ}{o:Out b}(h:Ev L (λr=>φ (step L r)) o):Ev L φ o:=by
 obtain⟨a,c⟩:=h;refine⟨a+1,λf d=>?_⟩;obtain⟨g,rfl⟩:∃g,f=g+1:=⟨f-1,by omega⟩;exact c g (by omega)
theorem QV:∀(f) (l) (a) (b),l.length-a<f->a<=l.length->(∀t∈b,t.x≠6)->b.length<=1000->(Q7 f l a b).2.1=0->
 ∃e,(Q7 f l a b).1=e++[⟨6,[],l.length⟩]/\(∀t∈e,t.x≠6)/\e.length<=1000
 |0,l,a,b,k,_,_,_,_=>by omega
 |f+1,l,a,b,k,n,o,p,d=>by
  simp only[Q7]at d⊢;by_cases i:l.length<=a+sp blank (l.drop a)
  .grind
  .rw[zY i]at d⊢;by_cases g:(aV (l.drop (a+sp blank (l.drop a)))).2.2=0
   .grind
   .rw[zY g]at d⊢;by_cases j:b.length=1000
    .grind
    .rw[zY j]at d⊢;have h:=vy (l.drop (a+sp blank (l.drop a))) g;have m:=h.le;rw[List.length_drop]at m;refine QV f l _ _ (by omega) (by omega) ?_ (by grind) d;intro t c;rw[qW]at c;obtain c|c:=c
     .grind
     .simp at c;subst c;exact h.x
def Fp(l)(h:(M8 l).2.1=0):∃a,(M8 l).1=a++[⟨6,[],l.length⟩]/\(∀t∈a,t.x≠6)/\a.length<=1000:=by
 unfold M8 at h⊢;split at h
 .grind
 simp_all[zY,QV]
def Vj(l)(h:(M8 l).2.1=0):(M8 l).1.length<=1001/\0<(M8 l).1.length/\∀i,i<(M8 l).1.length->((tk (M8 l).1 i).x=6↔i+1=(M8 l).1.length):=by
 obtain⟨e,a,c,d⟩:=Fp l h;rw[a];refine⟨by grind,by simp,λi b=>?_⟩;simp at b⊢;grind[tk,List.getD,List.getElem?_append_left,gQ,mQ,absurd]
inductive Tr where
 |nd (k:Int) (ns:List Y) (ks:List Tr)
def Tr.k:Tr->Int
 |.nd k _ _=>k
def Tr.ns:Tr->List Y
 |.nd _ a _=>a
def Tr.ks:Tr->List Tr
 |.nd _ _ a=>a
def Tr.ind{P:Tr->Prop}(h:∀k b a,(∀x∈a,P x)->P (.nd k b a)):∀t,P t
 |.nd k b a=>h k b a (λx _=>Tr.ind h x)
def mG(k:Int):Y:=
 if k=1 then [110,117,109] else if k=2 then [98,111,111,108] else if k=3 then [116,101,120,116] else if k=4 then [110,117,108,108] else if k=6 then [117,110,107,110,111,119,110] else [97,110,121]
mutual
def bO:Tr->Y
 |.nd k a b=>
  if k=7 then [123]++qR a b++(if a.length=0 then [] else [32])++[125]
  else if k=8 then [91]++EX b++[93]
  else if k=9 then BK b
  else if k=10 then mV true b
  else mG k
def EX:List Tr->Y
 |[]=>[]
 |t::_=>bO t
def BK:List Tr->Y
 |[]=>[]
 |t::r=>[40]++oL true r++[41,32,61,62,32]++bO t
def oL:Bool->List Tr->Y
 |_,[]=>[]
 |c,t::r=>(if c then [] else [44,32])++bO t++oL false r
def mV:Bool->List Tr->Y
 |_,[]=>[]
 |c,t::r=>(if c then [] else [32,124,32])++(if t.k=10\/t.k=9/\r.length≠0 then [40]++bO t++[41] else bO t)++mV false r
def qR:List Y->List Tr->Y
 |_,[]=>[]
 |a,t::r=>[32]++a.headD []++[58,32]++bO t++[59]++qR a.tail r
end
abbrev TT:=Int×Y
def sg(x:Y):TT:=(5,x)
mutual
def eV:Tr->List TT
 |.nd k b a=>
  if k=7 then sg [123]::(oK b a++[sg [125]])
  else if k=8 then sg [91]::(VB a++[sg [93]])
  else if k=9 then UZ a
  else if k=10 then pF true a
  else [(2,mG k)]
def VB:List Tr->List TT
 |[]=>[]
 |t::_=>eV t
def UZ:List Tr->List TT
 |[]=>[]
 |t::r=>sg [40]::(mU true r++sg [41]::sg [61,62]::eV t)
def mU:Bool->List Tr->List TT
 |_,[]=>[]
 |c,t::r=>(if c then [] else [sg [44]])++eV t++mU false r
def pF:Bool->List Tr->List TT
 |_,[]=>[]
 |c,t::r=>(if c then [] else [sg [124]])++(if t.k=10\/t.k=9/\r.length≠0 then sg [40]::(eV t++[sg [41]]) else eV t)++pF false r
def oK:List Y->List Tr->List TT
 |_,[]=>[]
 |b,t::r=>(1,b.headD [])::sg [58]::(eV t++sg [59]::oK b.tail r)
end
def Q8(a:Y):Prop:=a≠[]/\a.length<=20/\pL a=false/\(∀c∈a,gB c.toNat=true)/\(∀c,a.head?=some c->gP c.toNat=true)
inductive Wf:Tr->Prop
 |plain (k:Int):1<=k->k<=6->Wf (.nd k [] [])
 |obj (ns:List Y) (ks:List Tr):ns.length=ks.length->ns.Nodup->(∀n∈ns,Q8 n)->(∀x∈ks,Wf x)->Wf (.nd 7 ns ks)
 |arr (t:Tr):Wf t->Wf (.nd 8 [] [t])
 |fn (t:Tr) (ps:List Tr):Wf t->(∀x∈ps,Wf x)->Wf (.nd 9 [] (t::ps))
 |uni (ks:List Tr):2<=ks.length->(∀x∈ks,Wf x)->Wf (.nd 10 [] ks)
/-!### Tags -/
def qJ(k:Int):Nat:=
 if k=1 then 1 else if k=2 then 2 else if k=3 then 4 else if k=4 then 8 else if k=7 then 16 else if k=8 then 32 else if k=9 then 64 else 127
mutual
def iB:Tr->Nat
 |.nd k _ a=>if k=10 then Y5 a else qJ k
def Y5:List Tr->Nat
 |[]=>0
 |t::r=>iB t|||Y5 r
end
/-!### What D8 -/
def I3(a:Y):List Y->List Tr->Option Tr
 |n::c,t::b=>if n=a then some t else I3 a c b
 |_,_=>none
def M7:Nat->Tr->Tr->Bool
 |0,_,_=>false
 |f+1,a,b=>
  if a.k=5\/b.k=5\/b.k=6 then true
  else if a.k=10 then a.ks.all λx=>M7 f x b
  else if b.k=10 then b.ks.any λy=>M7 f a y
  else if a.k≠b.k then false
  else if a.k=7 then (b.ns.zip b.ks).all λp=>match I3 p.1 a.ns a.ks with
   |none=>false
   |some x=>M7 f x p.2
  else if a.k=8 then match a.ks,b.ks with
   |x::_,y::_=>M7 f x y
   |_,_=>false
  else if a.k=9 then match a.ks,b.ks with
   |x::c,y::d=>decide (c.length<=d.length)&&((c.zip d).all λp=>M7 f p.1 p.2||M7 f p.2 p.1)&&M7 f x y
   |_,_=>false
  else true
mutual
def sz:Tr->Nat
 |.nd _ _ a=>cG a+1
def cG:List Tr->Nat
 |[]=>0
 |t::r=>sz t+cG r
end
def QI:∀{a} {x},x∈a->sz x<=cG a
 |t::r,x,h=>by
  obtain rfl|h:=jW.1 h
  .simp[cG]
  .have:=QI h;grind[cG]
theorem O9{t x}(h:x∈t.ks):sz x<sz t:=by
 obtain⟨k,b,a⟩:=t;have:=QI h;grind[sz,Tr.ks]
def Fk(t):0<sz t:=by obtain⟨k,b,a⟩:=t;simp[sz]
theorem Y8{c}:∀{b} {a} {t},I3 c b a=some t->t∈a
 |[],_,_,h=>by grind[I3]
 |_::_,[],_,h=>by grind[I3]
 |n::b,x::a,t,h=>by
  simp only[I3]at h;split at h
  .grind
  .exact List.mem_cons_of_mem _ (Y8 h)
theorem T5:∀(f g) (a b),sz a+sz b<f->sz a+sz b<g->M7 f a b=M7 g a b
 |0,_,_,_,h,_=>by omega
 |_,0,_,_,_,h=>by omega
 |f+1,g+1,a,b,G,H=>by
  have F:=Fk a;simp only[M7];have r:a.ks.all (λx=>M7 f x b)=a.ks.all (λx=>M7 g x b):=by
   rw[Bool.eq_iff_iff,List.all_eq_true,List.all_eq_true];exact forall_congr' λx=>forall_congr' λq=>by have:=O9 q;rw[T5 f g x b (by omega) (by omega)]
  have s:b.ks.any (λy=>M7 f a y)=b.ks.any (λy=>M7 g a y):=by
   rw[Bool.eq_iff_iff,List.any_eq_true,List.any_eq_true];refine exists_congr λy=>?_;constructor
   .rintro⟨e,h⟩;have:=O9 e;exact⟨e,by rw[<-T5 f g a y (by omega) (by omega)];omega⟩
   .rintro⟨e,h⟩;have:=O9 e;exact⟨e,by rw[T5 f g a y (by omega) (by omega)];omega⟩
  have t:((b.ns.zip b.ks).all λp=>match I3 p.1 a.ns a.ks with|none=>false|some x=>M7 f x p.2)=((b.ns.zip b.ks).all λp=>match I3 p.1 a.ns a.ks with|none=>false|some x=>M7 g x p.2):=by
   rw[Bool.eq_iff_iff,List.all_eq_true,List.all_eq_true];refine forall_congr' λp=>forall_congr' λk=>?_;have e:=O9 (List.of_mem_zip k).2;cases h:I3 p.1 a.ns a.ks with
   |none=>simp
   |some x=>
    have q:=O9 (Y8 h);simp only;rw[T5 f g x p.2 (by omega) (by omega)]
  rw[r,s,t];obtain⟨l,m,i⟩:=a;obtain⟨bk,n,j⟩:=b;simp only[Tr.k,Tr.ns,Tr.ks]at*;have u:∀(c d:List Tr),(∀x∈c,x∈i)->(∀y∈d,y∈j)->((c.zip d).all λp=>M7 f p.1 p.2||M7 f p.2 p.1)=((c.zip d).all λp=>M7 g p.1 p.2||M7 g p.2 p.1):=by
   intro c d A B;rw[Bool.eq_iff_iff,List.all_eq_true,List.all_eq_true];refine forall_congr' λp=>forall_congr' λk=>?_;have o:=List.of_mem_zip k;have v:=O9 (t:=.nd l m i) (A _ o.1);have w:=O9 (t:=.nd bk n j) (B _ o.2);rw[T5 f g p.1 p.2 (by omega) (by omega),T5 f g p.2 p.1 (by omega) (by omega)]
  cases i with
  |nil=>rfl
  |cons x c=>
   cases j with
   |nil=>rfl
   |cons y d=>
    have v:=O9 (t:=.nd l m (x::c)) (x:=x) (by simp[Tr.ks]);have w:=O9 (t:=.nd bk n (y::d)) (x:=y) (by simp[Tr.ks]);simp only;rw[T5 f g x y (by omega) (by omega),u c d (λz D=>by grind) (λz D=>by grind)]
termination_by f=>f
def D8(a b:Tr):Bool:=M7 (sz a+sz b+1) a b
theorem Y1(f)(a b)(h:sz a+sz b<f):M7 f a b=D8 a b:=T5 _ _ _ _ h (by omega)
theorem rJ(a b):D8 a b=
 if a.k=5\/b.k=5\/b.k=6 then true
 else if a.k=10 then a.ks.all λx=>D8 x b
 else if b.k=10 then b.ks.any λy=>D8 a y
 else if a.k≠b.k then false
 else if a.k=7 then (b.ns.zip b.ks).all λp=>match I3 p.1 a.ns a.ks with
  |none=>false
  |some x=>D8 x p.2
 else if a.k=8 then match a.ks,b.ks with
  |x::_,y::_=>D8 x y
  |_,_=>false
 else if a.k=9 then match a.ks,b.ks with
  |x::c,y::d=>decide (c.length<=d.length)&&((c.zip d).all λp=>D8 p.1 p.2||D8 p.2 p.1)&&D8 x y
  |_,_=>false
 else true:=by
 rw[show D8 a b=M7 (sz a+sz b+1) a b from rfl,M7];have m:a.ks.all (λx=>M7 (sz a+sz b) x b)=a.ks.all (λx=>D8 x b):=by
  rw[Bool.eq_iff_iff,List.all_eq_true,List.all_eq_true];exact forall_congr' λx=>forall_congr' λt=>by grind[O9,Y1]
 have n:b.ks.any (λy=>M7 (sz a+sz b) a y)=b.ks.any (λy=>D8 a y):=by
  rw[Bool.eq_iff_iff,List.any_eq_true,List.any_eq_true];refine exists_congr λy=>?_;constructor
  .grind[O9,Y1,sz]
  .grind[O9,Y1,sz]
 have o:((b.ns.zip b.ks).all λp=>match I3 p.1 a.ns a.ks with|none=>false|some x=>M7 (sz a+sz b) x p.2)=((b.ns.zip b.ks).all λp=>match I3 p.1 a.ns a.ks with|none=>false|some x=>D8 x p.2):=by
  rw[Bool.eq_iff_iff,List.all_eq_true,List.all_eq_true];refine forall_congr' λp=>forall_congr' λk=>?_;have A:=O9 (List.of_mem_zip k).2;cases h:I3 p.1 a.ns a.ks with
  |none=>simp
  |some x=>
   have t:=O9 (Y8 h);grind[Y1]
 rw[m,n,o];obtain⟨g,i,e⟩:=a;obtain⟨bk,j,f⟩:=b;simp only[Tr.k,Tr.ns,Tr.ks]at*;have q:∀(c d:List Tr),(∀x∈c,x∈e)->(∀y∈d,y∈f)->((c.zip d).all λp=>M7 (sz (.nd g i e)+sz (.nd bk j f)) p.1 p.2||M7 (sz (.nd g i e)+sz (.nd bk j f)) p.2 p.1)=((c.zip d).all λp=>D8 p.1 p.2||D8 p.2 p.1):=by
  intro c d u v;rw[Bool.eq_iff_iff,List.all_eq_true,List.all_eq_true];refine forall_congr' λp=>forall_congr' λk=>?_;have l:=List.of_mem_zip k;have r:=O9 (t:=.nd g i e) (u _ l.1);have s:=O9 (t:=.nd bk j f) (v _ l.2);rw[Y1 _ p.1 p.2 (by omega),Y1 _ p.2 p.1 (by omega)]
 cases e with
 |nil=>rfl
 |cons x c=>
  cases f with
  |nil=>rfl
  |cons y d=>
   have r:=O9 (t:=.nd g i (x::c)) (x:=x) (by simp[Tr.ks]);have s:=O9 (t:=.nd bk j (y::d)) (x:=y) (by simp[Tr.ks]);simp only;rw[Y1 _ x y (by omega),q c d (λz w=>by grind) (λz w=>by grind)]
def eP(l:List TT)(m:Y):Bool:=match l with
 |[]=>false
 |(k,x)::_=>(k==5||k==2)&&has [m] x
def DN(l:List TT):Int:=match l with
 |[]=>6
 |(k,_)::_=>k
def zC(l:List TT):Y:=match l with
 |[]=>[]
 |(_,x)::_=>x
mutual
def vI:Nat->List TT->Option (Tr×List TT)
 |0,_=>none
 |f+1,l=>ZY f l
def ZY:Nat->List TT->Option (Tr×List TT)
 |0,_=>none
 |f+1,l=>(DB f l).bind λp=>if eP p.2 [124] then (MH f p.2 [p.1]).bind λq=>some (.nd 10 [] q.1,q.2) else some p
def MH:Nat->List TT->List Tr->Option (List Tr×List TT)
 |0,_,_=>none
 |f+1,l,a=>if eP l [124] then (DB f l.tail).bind λp=>MH f p.2 (a++[p.1]) else some (a,l)
def DB:Nat->List TT->Option (Tr×List TT)
 |0,_=>none
 |f+1,l=>
  if eP l [123] then MI f l.tail [] []
  else if eP l [91] then (vI f l.tail).bind λp=>if eP p.2 [93] then some (.nd 8 [] [p.1],p.2.tail) else none
  else if eP l [40] then ZZ f l.tail
  else if DN l=2/\G9 (zC l)≠0 then some (.nd (G9 (zC l)) [] [],l.tail) else none
def MI:Nat->List TT->List Y->List Tr->Option (Tr×List TT)
 |0,_,_,_=>none
 |f+1,l,c,b=>
  if eP l [125] then some (.nd 7 c b,l.tail)
  else if DN l=1 then if eP l.tail [58] then (vI f l.tail.tail).bind λp=>if eP p.2 [59] then MI f p.2.tail (c++[zC l]) (b++[p.1]) else none else none else none
def ZZ:Nat->List TT->Option (Tr×List TT)
 |0,_=>none
 |f+1,l=>(DC f l []).bind λp=>
  if eP p.2 [61,62] then (vI f p.2.tail).bind λq=>some (.nd 9 [] (q.1::p.1),q.2)
  else match p.1 with
   |[t]=>some (t,p.2)
   |_=>none
def DC:Nat->List TT->List Tr->Option (List Tr×List TT)
 |0,_,_=>none
 |f+1,l,a=>
  if eP l [41] then some (a,l.tail)
  else if a.length=0 then (vI f l).bind λp=>DC f p.2 (a++[p.1])
  else if eP l [44] then (vI f l.tail).bind λp=>DC f p.2 (a++[p.1]) else none
end
def ei{a:Type}(c:Nat->Option a)(o:a):Prop:=∃b,∀f,b<=f->c f=some o
def Zl(r:List TT):Prop:=eP r [124]=false/\eP r [61,62]=false
def RmQ(t:Tr)(a:Bool):Prop:=∀r,eP r [61,62]=false->(a=false->eP r [124]=false)->ei (λf=>DB f (eV t++r)) (t,r)
def one(t:Tr)(a:Bool):List TT:=if t.k=10\/t.k=9/\a=false then sg [40]::(eV t++[sg [41]]) else eV t
def dP(t:Ty)(i:Nat):Prop:=
 (1<=t.x/\t.x<=6/\t.ej=[]/\t.M=[])\/
 (t.x=7/\t.M=[]/\(t.ej.map (·.1)).Nodup/\∀p∈t.ej,Q8 p.1/\0<=p.2/\p.2<i)\/
 (t.x=8/\t.ej=[]/\t.M=[]/\0<=t.ew/\t.ew<i)\/
 (t.x=9/\t.ej=[]/\0<=t.ew/\t.ew<i/\∀x∈t.M,0<=x/\x<i)\/
 (t.x=10/\t.ej=[]/\2<=t.M.length/\∀x∈t.M,0<=x/\x<i)
def aU(T:List Ty):Prop:=∀i (h),dP T[i] i
def dP.l9{t}{i}(h:dP t i):∀p∈t.ej,0<=p.2/\p.2<i:=by
 intro p a;obtain⟨_,_,h,_⟩|⟨_,_,_,h⟩|⟨_,h,_⟩|⟨_,h,_⟩|⟨_,h,_⟩:=h
 .grind
 .grind
 .grind
 .grind
 grind
def dP.kj{t}{i}(h:dP t i):∀x∈t.M,0<=x/\x<i:=by
 intro p a;obtain⟨_,_,_,h⟩|⟨_,h,_⟩|⟨_,_,h,_⟩|⟨_,_,_,_,h⟩|⟨_,_,_,h⟩:=h
 .grind
 .grind
 .grind
 .grind
 grind
theorem dP.of{t}{i}(h:dP t i)(a:t.x=8\/t.x=9):0<=t.ew/\t.ew<i:=by
 obtain h|h|h|h|h:=h
 .omega
 .omega
 .omega
 .omega
 omega
def ty0:Ty:=⟨0,[],[],0⟩
def jL(T:List Ty):Nat->Nat->Tr
 |0,_=>.nd 0 [] []
 |f+1,i=>.nd (T.getD i ty0).x ((T.getD i ty0).ej.map (·.1))
  ((if (T.getD i ty0).x=8\/(T.getD i ty0).x=9 then [jL T f (T.getD i ty0).ew.toNat] else [])++((T.getD i ty0).ej.map λp=>jL T f p.2.toNat)++(T.getD i ty0).M.map λx=>jL T f x.toNat)
def tr(T:List Ty)(i:Nat):Tr:=jL T (i+1) i
theorem eZ{T:List Ty}{i}(h):T.getD i ty0=T[i]:=by grind
theorem BS{t}{i}(c:dP t i)(g h:Nat->Tr)(e:∀j,j<i->g j=h j):
 (if t.x=8\/t.x=9 then [g t.ew.toNat] else [])++(t.ej.map λp=>g p.2.toNat)++(t.M.map λx=>g x.toNat)=(if t.x=8\/t.x=9 then [h t.ew.toNat] else [])++(t.ej.map λp=>h p.2.toNat)++(t.M.map λx=>h x.toNat):=by
 have d:t.ej.map (λp=>g p.2.toNat)=t.ej.map (λp=>h p.2.toNat):=List.map_congr_left λp b=>e _ (by have:=c.l9 p b;omega);have f:t.M.map (λx=>g x.toNat)=t.M.map (λx=>h x.toNat):=List.map_congr_left λp b=>e _ (by have:=c.kj p b;omega);rw[d,f];by_cases a:t.x=8\/t.x=9
 .rw[wY a,wY a,e _ (by have:=c.of a;omega)]
 grind
theorem TU{T}(a:aU T):∀(f g i),i<T.length->i<f->i<g->jL T f i=jL T g i
 |0,_,_,_,h,_=>by omega
 |_,0,_,_,_,h=>by omega
 |f+1,g+1,i,b,c,d=>by
  simp only[jL,eZ b];rw[BS (a i b) (jL T f) (jL T g) (λj e=>TU a f g j (by omega) (by omega) (by omega))]
theorem XN{T X}(b:aU T):∀(f i),i<T.length->jL (T++X) f i=jL T f i
 |0,_,_=>rfl
 |f+1,i,a=>by
  have e:(T++X).getD i ty0=T[i]:=by rw[eZ (by grind)];exact List.getElem_append_left a
  simp only[jL,eZ a,e];rw[BS (b i a) (jL (T++X) f) (jL T f) (λj c=>XN b f j (by omega))]
theorem qX{T}(X){i}(a:aU T)(b:i<T.length):tr (T++X) i=tr T i:=XN a _ _ b
theorem U0{T:List Ty}{i}(a:aU T)(b:i<T.length):tr T i=.nd T[i].x (T[i].ej.map (·.1))
 ((if T[i].x=8\/T[i].x=9 then [tr T T[i].ew.toNat] else [])++(T[i].ej.map λp=>tr T p.2.toNat)++T[i].M.map λx=>tr T x.toNat):=by
 rw[tr,jL,eZ b];rw[BS (a i b) (jL T i) (tr T) (λj c=>TU a _ _ _ (by omega) (by omega) (by omega))]
theorem xE{T}(f:aU T)(i):i<T.length->Wf (tr T i):=by
 induction i using Nat.strongRecOn with
 |ind i j=>
  intro g;have h:=f i g;rw[U0 f g];have k:=h;obtain⟨a,b,c,d⟩|⟨a,b,c,d⟩|⟨a,b,c,d⟩|⟨a,b,c,d,l⟩|⟨a,b,c,d⟩:=k
  .rw[zY (by omega),c,d];exact Wf.plain _ a b
  .rw[zY (by omega),a,b];simp;refine Wf.obj _ _ (by simp) c (λn m=>?_) (λx e=>?_)
   .grind
   grind
  .rw[wY (.inl a),a,b,c];exact Wf.arr _ (j _ (by omega) (by omega))
  .rw[wY (.inr a),a,b];refine Wf.fn _ _ (j _ (by omega) (by omega)) (λx e=>?_);obtain⟨p,o,rfl⟩:=qZ.1 e;grind
  .rw[zY (by omega),a,b];simp;refine Wf.uni _ (by grind) (λx e=>?_);grind
theorem aU.snoc{T}{t}(a:aU T)(c:dP t T.length):aU (T++[t]):=by
 intro i b;by_cases h:i<T.length
 .rw[List.getElem_append_left h];exact a i h
 grind
theorem sJ{T:List Ty}{t}(a:aU T)(b:dP t T.length):tr (T++[t]) T.length=.nd t.x (t.ej.map (·.1))
 ((if t.x=8\/t.x=9 then [tr T t.ew.toNat] else [])++(t.ej.map λp=>tr T p.2.toNat)++t.M.map λx=>tr T x.toNat):=by
 rw[U0 (a.snoc b) (by simp)];simp only[List.getElem_concat_length];rw[BS b (tr (T++[t])) (tr T) (λj c=>qX _ a c)]
/-!### The reader reads the same -/
def tt(L:List Tk)(i:Nat):List TT:=(L.drop i).map λt=>(t.x,t.text)
theorem JX{L}{i}(h:i<L.length):tt L i=((tk L i).x,(tk L i).text)::tt L (i+1):=by
 grind[tk,List.getD,tt,List.drop_eq_getElem_cons,xZ]
theorem FQ{L}{i}(h:¬i<L.length):tt L i=[]:=by grind[tt,List.drop_of_length_le]
theorem vX{L}{i}(h:¬i<L.length):tk L i=⟨6,[],0⟩:=by
 simp only[tk,List.getD];grind
def Xr(L)(i):(tt L i).tail=tt L (i+1):=by
 grind[JX,FQ]
def xq(L)(i):DN (tt L i)=(tk L i).x:=by
 by_cases h:i<L.length
 .rw[JX h];rfl
 .rw[FQ h,vX h];rfl
def xv(L)(i):zC (tt L i)=(tk L i).text:=by
 by_cases h:i<L.length
 .rw[JX h];rfl
 .rw[FQ h,vX h];rfl
def B7{d e}{x}{k:St->d->Option (Out e)}{s}{b}(h:A8 x k=some (.ok s b)):∃c a,x=some (.ok c a)/\k c a=some (.ok s b):=by
 unfold A8 at h;grind
def J0{L}{s a}{m}{u}(h:aB L s m=some (.ok a u)):aJ L s.i [m]=true/\a=s.nx:=by
 unfold aB at h;grind[bC]
def wM{s a}{t}{x}(h:bK s t=some (.ok a x)):a=⟨s.i,s.N,s.T++[t]⟩/\x=s.T.length:=by
 grind[bK,zQ,Out.ok.injEq]
def nY(L:List Tk):Prop:=∀i,(tk L i).x=1->Q8 (tk L i).text
def Jd(x)(h:G9 x≠0):1<=G9 x/\G9 x<=6:=by
 grind[G9]
section
variable{L:List Tk}{f:Nat}
end
inductive K where
 |nd (k:Int) (tx:Y) (n:Int) (ps:List K)
 |ty (t:Option Tr)
def K.k:K->Int
 |.nd k _ _ _=>k
 |.ty none=>-1
 |.ty (some _)=>0
def iE(k:Int)(a:Y):Nat:=if k=13 then 4 else if k=12 then (if a=[42] then 3 else if a=[43]\/a=[45] then 2 else 1) else 5
def qE:K->Nat
 |.nd k a _ _=>iE k a
 |.ty _=>5
structure Pc where
 b:Nat
 k:Int
 s:Y
def wi(a:Nat)(c:Pc):Y:=if a<=c.b then c.s else [40]++c.s++[41]
def KW(c:Pc):Y:=if c.k=-1 then [] else [58,32]++c.s
def yV(a:Y):List Pc->Y
 |[]=>[]
 |[c]=>c.s
 |c::r=>c.s++a++yV a r
def mg(d:Nat):Y:=(List.replicate d [32,32]).flatten
def Qw(d:Nat)(a:List Pc):Y:=a.flatMap λc=>mg d++c.s++[10]
def vJ:Pc:=⟨5,0,[]⟩
def c0(a:List Pc):Pc:=a.getD 0 vJ
def c1(a:List Pc):Pc:=a.getD 1 vJ
def c2(a:List Pc):Pc:=a.getD 2 vJ
def Aa(k:Int)(b:Y)(n:Int)(a:List Pc):Y:=
 if k=1 then Lib.itoa n
 else if k=2 then [34]++b++[34]
 else if k=3 then Lib.formatBool (n==1)
 else if k=4 then [110,117,108,108]
 else if k=5 then b
 else if k=6 then [102,110,40]++yV [44,32] a.dropLast.dropLast++[41]++KW (a.dropLast.getLastD vJ)++[32]++(a.getLastD vJ).s
 else if k=7 then wi 5 (c0 a)++([40]++yV [44,32] a.tail++[41])
 else if k=8 then wi 5 (c0 a)++([46]++b)
 else if k=9 then wi 5 (c0 a)++[91]++(c1 a).s++[93]
 else if k=10 then (if a.length=0 then [123,125] else [123,32]++yV [44,32] a++[32,125])
 else if k=11 then [91]++yV [44,32] a++[93]
 else if k=12 then wi (if iE k b=1 then 2 else iE k b) (c0 a)++([32]++b++[32])++wi (iE k b+1) (c1 a)
 else if k=13 then b++(if b=[116,121,112,101,111,102] then [32] else [])++wi 4 (c0 a)
 else if k=14 then wi 5 (c0 a)++[32,97,115,32]++(c1 a).s
 else if k=15 then (b++[58,32])++(c0 a).s
 else b++KW (c0 a)
def MJ(d:Nat)(k:Int)(b:Y)(a:List Pc):Y:=
 if k=17 then ([108,101,116,32]++b)++KW (c0 a)++[32,61,32]++(c1 a).s++[59]
 else if k=18 then (b++[32,61,32])++(c0 a).s++[59]
 else if k=19 then wi 5 (c0 a)++([46]++b)++[32,61,32]++(c1 a).s++[59]
 else if k=20 then wi 5 (c0 a)++[91]++(c1 a).s++[93]++[32,61,32]++(c2 a).s++[59]
 else if k=21 then [112,114,105,110,116,32]++(c0 a).s++[59]
 else if k=22 then [105,102,32,40]++(c0 a).s++[41,32]++(c1 a).s++(if (c2 a).k=-1 then [] else [32,101,108,115,101,32]++(c2 a).s)
 else if k=23 then [119,104,105,108,101,32,40]++(c0 a).s++[41,32]++(c1 a).s
 else if k=24 then [114,101,116,117,114,110,32]++(c0 a).s++[59]
 else if k=25 then (c0 a).s++[59]
 else [123,10]++Qw (d+1) a++mg d++[125]
mutual
def pr(d:Nat):K->Y
 |.ty none=>[]
 |.ty (some t)=>bO t
 |.nd k b n a=>if k=26 then MJ d k b (zA (d+1) a) else if k<=16 then Aa k b n (zA d a) else MJ d k b (zA d a)
def zA(d:Nat):List K->List Pc
 |[]=>[]
 |p::r=>⟨qE p,p.k,pr d p⟩::zA d r
end
def T4(k:Int)(a:bZ)(n:C):Prop:=
 if k=6 then n.M=a.dropLast.dropLast/\n.ty=a.dropLast.getLastD 0/\n.a=a.getLastD 0/\2<=a.length
 else if k=7 then n.a=a.headD 0/\n.M=a.tail/\1<=a.length
 else if k=10\/k=11\/k=26 then n.M=a
 else if k=14 then a=[n.a,n.ty]
 else if k=16 then a=[n.ty]
 else if k=17 then a=[n.ty,n.a]
 else if k=9\/k=12\/k=19\/k=23 then a=[n.a,n.b]
 else if k=20\/k=22 then a=[n.a,n.b,n.c]
 else if k=8\/k=13\/k=15\/k=18\/k=21\/k=24\/k=25 then a=[n.a]
 else a=[]
mutual
def At(N:List C)(T:List Ty):K->Int->Prop
 |.ty none,i=>i=-1
 |.ty (some t),i=>∃j:Nat,i=j/\j<T.length/\tr T j=t
 |.nd k d n c,i=>∃j:Nat,i=j/\∃h:j<N.length,N[j].x=k/\N[j].text=d/\N[j].n=n/\∃a,T4 k a N[j]/\iX N T c a
def iX(N:List C)(T:List Ty):List K->bZ->Prop
 |[],a=>a=[]
 |p::r,a=>∃i b,a=i::b/\At N T p i/\iX N T r b
end
def aO(k:Int):Prop:=1<=k/\k<=14
def iD(k:Int):Prop:=k=-1\/k=0
def bJ(k:Int)(a:bZ):Prop:=
 if k=1\/k=2\/k=3\/k=4\/k=5 then a=[]
 else if k=6 then∃b r,a=b++[r,26]/\(∀x∈b,x=16)/\iD r
 else if k=7 then∃x c,a=x::c/\aO x/\∀y∈c,aO y
 else if k=8\/k=13\/k=15\/k=18\/k=21\/k=24\/k=25 then∃x,a=[x]/\aO x
 else if k=9\/k=12\/k=19 then∃x y,a=[x,y]/\aO x/\aO y
 else if k=10 then∀x∈a,x=15
 else if k=11 then∀x∈a,aO x
 else if k=14 then∃x,a=[x,0]/\aO x
 else if k=16 then∃x,a=[x]/\iD x
 else if k=17 then∃x y,a=[x,y]/\iD x/\aO y
 else if k=20 then∃x y z,a=[x,y,z]/\aO x/\aO y/\aO z
 else if k=22 then∃x z,a=[x,26,z]/\aO x/\(z=26\/z=-1)
 else if k=23 then∃x,a=[x,26]/\aO x
 else if k=26 then∀x∈a,17<=x/\x<=25
 else False
mutual
def Gd:K->Prop
 |.ty _=>True
 |.nd k _ _ a=>bJ k (a.map K.k)/\oE a
def oE:List K->Prop
 |[]=>True
 |p::r=>Gd p/\oE r
end
mutual
def pZ:K->Nat
 |.ty _=>1
 |.nd _ _ _ a=>wG a+1
def wG:List K->Nat
 |[]=>0
 |p::r=>pZ p+wG r
end
def pX:∀{b} {p},oE b->p∈b->Gd p
 |q::r,p,h,a=>by
  rw[jW]at a;obtain rfl|a:=a
  .exact h.1
  .exact pX h.2 a
def AN:∀{b} {p},p∈b->pZ p<=wG b
 |q::r,p,a=>by
  rw[jW]at a;rw[wG];obtain rfl|a:=a
  .omega
  .have:=AN a;omega
theorem IB{N}{T}:∀{b} {a},iX N T b a->a.length=b.length
 |[],a,h=>by grind[iX]
 |p::r,a,h=>by
  rw[iX]at h;obtain⟨i,d,rfl,_,c⟩:=h;rw[jQ,jQ,IB c]
def k1{b}{x}(h:b.map K.k=[x]):∃a,b=[a]/\a.k=x:=by
 simp_all
theorem k2{c}{x y}(h:c.map K.k=[x,y]):∃a b,c=[a,b]/\a.k=x/\b.k=y:=by
 match c,h with
 |[a,b],h=>grind
 |[],h=>grind
 |[_],h=>grind
 |_::_::_::_,h=>grind
def k3{d}{x y z}(h:d.map K.k=[x,y,z]):∃a b c,d=[a,b,c]/\a.k=x/\b.k=y/\c.k=z:=by
 match d,h with
 |[a,b,c],h=>grind
 |[],h=>grind
 |[_],h=>grind
 |[_,_],h=>grind
 |_::_::_::_::_,h=>grind
def uA{a}(b:Gd a)(h:iD a.k):∃t,a=.ty t:=by
 cases a with
 |ty t=>simp
 |nd k d n c=>
  exfalso;rw[Gd]at b;obtain h|h:=h<;>(simp only[K.k]at h;simp_all[bJ])
def Ao{N}{T}{a b}{i j}(h:iX N T [a,b] [i,j]):At N T a i/\At N T b j:=by
 grind[iX]
theorem Xl(t):1<=pZ t:=by
 cases t<;>simp[pZ]
mutual
def eL:Tr->Nat
 |.nd _ _ a=>R6 a+1
def R6:List Tr->Nat
 |[]=>0
 |t::r=>eL t+R6 r
end
def dW:Nat->List Tr->bZ
 |_,[]=>[]
 |b,t::r=>(((b+eL t:Nat))-1)::dW (b+eL t) r
def iR(k:Int)(b:List Y)(a:bZ):Ty:=
 if k=7 then ⟨7,b.zip a,[],0⟩ else if k=8 then ⟨8,[],[],a.headD 0⟩ else if k=10 then ⟨10,[],a,0⟩ else ⟨k,[],[],0⟩
mutual
def fQ(b:Nat):Tr->List Ty
 |.nd k c a=>if k=9 then lX b a else M9 b a++[iR k c (dW b a)]
def M9(b:Nat):List Tr->List Ty
 |[]=>[]
 |t::r=>fQ b t++M9 (b+eL t) r
def lX(b:Nat):List Tr->List Ty
 |[]=>[⟨9,[],[],0⟩]
 |t::r=>M9 b r++fQ (b+R6 r) t++[⟨9,[],dW b r,((b+R6 r+eL t:Nat):Int)-1⟩]
end
mutual
def nN:K->Nat
 |.ty _=>0
 |.nd _ _ _ a=>aA a+1
def aA:List K->Nat
 |[]=>0
 |p::r=>nN p+aA r
end
mutual
def nT:K->Nat
 |.ty none=>0
 |.ty (some t)=>eL t
 |.nd _ _ _ a=>bV a
def bV:List K->Nat
 |[]=>0
 |p::r=>nT p+bV r
end
def cR(b c:Nat):K->Int
 |.ty none=>-1
 |.ty (some t)=>((c+eL t:Nat))-1
 |.nd k d n a=>((b+nN (.nd k d n a):Nat))-1
def aZ:Nat->Nat->List K->bZ
 |_,_,[]=>[]
 |b,a,p::r=>cR b a p::aZ (b+nN p) (a+nT p) r
def bP(k:Int)(b:Y)(n:Int)(a:bZ):C:=
 if k=6 then ⟨6,a.getLastD 0,0,0,a.dropLast.dropLast,b,n,a.dropLast.getLastD 0,0⟩
 else if k=7 then ⟨7,a.headD 0,0,0,a.tail,b,n,-1,0⟩
 else if k=10\/k=11\/k=26 then ⟨k,0,0,0,a,b,n,-1,0⟩
 else if k=14 then ⟨14,a.getD 0 0,0,0,[],b,n,a.getD 1 0,0⟩
 else if k=16 then ⟨16,0,0,0,[],b,n,a.getD 0 0,0⟩
 else if k=17 then ⟨17,a.getD 1 0,0,0,[],b,n,a.getD 0 0,0⟩
 else ⟨k,a.getD 0 0,a.getD 1 0,a.getD 2 0,[],b,n,-1,0⟩
mutual
def gU(b a:Nat):K->List C
 |.ty _=>[]
 |.nd k d n c=>R9 b a c++[bP k d n (aZ b a c)]
def R9(b a:Nat):List K->List C
 |[]=>[]
 |p::r=>gU b a p++R9 (b+nN p) (a+nT p) r
end
mutual
def fP(a:Nat):K->List Ty
 |.ty none=>[]
 |.ty (some t)=>fQ a t
 |.nd _ _ _ b=>W4 a b
def W4(a:Nat):List K->List Ty
 |[]=>[]
 |p::r=>fP a p++W4 (a+nT p) r
end
mutual
theorem P8(b a:Nat):∀t:K,(gU b a t).length=nN t
 |.ty _=>rfl
 |.nd k d n c=>by rw[gU,qQ,Z3 b a c,nN];rfl
theorem Z3(b a:Nat):∀c:List K,(R9 b a c).length=aA c
 |[]=>rfl
 |p::r=>by rw[R9,qQ,P8 b a p,Z3 _ _ r,aA]
end
mutual
theorem pW(b:Nat):∀t:Tr,(fQ b t).length=eL t
 |.nd k c a=>by
  rw[fQ,eL];split
  .exact Mw b a
  .rw[qQ,uW b a];rfl
theorem uW(b:Nat):∀l:List Tr,(M9 b l).length=R6 l
 |[]=>rfl
 |t::r=>by rw[M9,qQ,pW b t,uW _ r,R6]
theorem Mw(b:Nat):∀l:List Tr,(lX b l).length=R6 l+1
 |[]=>rfl
 |t::r=>by
  rw[lX,qQ,qQ,uW b r,pW _ t,R6];grind
end
mutual
theorem sT(a:Nat):∀t:K,(fP a t).length=nT t
 |.ty none=>rfl
 |.ty (some t)=>by rw[fP,pW,nT]
 |.nd k c n b=>by rw[fP,AH a b,nT]
theorem AH(a:Nat):∀b:List K,(W4 a b).length=bV b
 |[]=>rfl
 |p::r=>by rw[W4,qQ,sT a p,AH _ r,bV]
end
theorem uP(t):1<=eL t:=by
 cases t with
 |nd k b a=>grind[eL]
def C.fl(n:C):C:=⟨n.x,n.a,n.b,n.c,n.M,n.text,n.n,n.ty,0⟩
theorem Pd(k)(a)(n):T4 k a n.fl↔T4 k a n:=Iff.rfl
theorem Ph{k}{p}{n}{d f}(e:bJ k d)(q:d.length=f.length):T4 k f (bP k p n f):=by
 have o:k=1\/k=2\/k=3\/k=4\/k=5\/k=6\/k=7\/k=8\/k=9\/k=10\/k=11\/k=12\/k=13\/k=14\/k=15\/k=16\/k=17\/k=18\/k=19\/k=20\/k=21\/k=22\/k=23\/k=24\/k=25\/k=26:=by
  refine Classical.byContradiction λh=>?_;rw[bJ,zY (by omega),zY (by omega),zY (by omega),zY (by omega),zY (by omega),zY (by omega),zY (by omega),zY (by omega),zY (by omega),zY (by omega),zY (by omega),zY (by omega),zY (by omega),zY (by omega)]at e;exact e
 have g:∀{l:bZ},l.length=1->l=[l.getD 0 0]:=λ{l} h=>by match l,h with|[a],_=>rfl
 have i:∀{l:bZ},l.length=2->l=[l.getD 0 0,l.getD 1 0]:=λ{l} h=>by match l,h with|[a,b],_=>rfl
 have m:∀{l:bZ},l.length=3->l=[l.getD 0 0,l.getD 1 0,l.getD 2 0]:=λ{l} h=>by match l,h with|[a,b,c],_=>rfl
 obtain rfl|rfl|rfl|rfl|rfl|rfl|rfl|rfl|rfl|rfl|rfl|rfl|rfl|rfl|rfl|rfl|rfl|rfl|rfl|rfl|rfl|rfl|rfl|rfl|rfl|rfl:=o
 .have h:d=[]:=by simpa[bJ]using e
  show f=[];grind
 .have h:d=[]:=by simpa[bJ]using e
  show f=[];grind
 .have h:d=[]:=by simpa[bJ]using e
  show f=[];grind
 .have h:d=[]:=by simpa[bJ]using e
  show f=[];grind
 .have h:d=[]:=by simpa[bJ]using e
  show f=[];grind
 .obtain⟨a,r,h,_⟩:∃a r,d=a++[r,26]/\(∀x∈a,x=16)/\iD r:=by simpa[bJ]using e
  exact⟨rfl,rfl,rfl,by grind⟩
 .obtain⟨x,j,h,_⟩:∃x j,d=x::j/\aO x/\∀y∈j,aO y:=by grind[bJ]
  exact⟨rfl,rfl,by grind⟩
 .obtain⟨x,h,_⟩:∃x,d=[x]/\aO x:=by grind[bJ]
  exact g (by grind)
 .obtain⟨x,y,h,_⟩:∃x y,d=[x,y]/\aO x/\aO y:=by grind[bJ]
  exact i (by grind)
 .rfl
 .rfl
 .obtain⟨x,y,h,_⟩:∃x y,d=[x,y]/\aO x/\aO y:=by grind[bJ]
  exact i (by grind)
 .obtain⟨x,h,_⟩:∃x,d=[x]/\aO x:=by grind[bJ]
  exact g (by grind)
 .obtain⟨x,h,_⟩:∃x,d=[x,0]/\aO x:=by grind[bJ]
  exact i (by grind)
 .obtain⟨x,h,_⟩:∃x,d=[x]/\aO x:=by grind[bJ]
  exact g (by grind)
 .obtain⟨x,h,_⟩:∃x,d=[x]/\iD x:=by grind[bJ]
  exact g (by grind)
 .obtain⟨x,y,h,_⟩:∃x y,d=[x,y]/\iD x/\aO y:=by grind[bJ]
  exact i (by grind)
 .obtain⟨x,h,_⟩:∃x,d=[x]/\aO x:=by grind[bJ]
  exact g (by grind)
 .obtain⟨x,y,h,_⟩:∃x y,d=[x,y]/\aO x/\aO y:=by grind[bJ]
  exact i (by grind)
 .obtain⟨x,y,z,h,_⟩:∃x y z,d=[x,y,z]/\aO x/\aO y/\aO z:=by grind[bJ]
  exact m (by grind)
 .obtain⟨x,h,_⟩:∃x,d=[x]/\aO x:=by grind[bJ]
  exact g (by grind)
 .obtain⟨x,z,h,_⟩:∃x z,d=[x,26,z]/\aO x/\(z=26\/z=-1):=by grind[bJ]
  exact m (by grind)
 .obtain⟨x,h,_⟩:∃x,d=[x,26]/\aO x:=by grind[bJ]
  exact i (by grind)
 .obtain⟨x,h,_⟩:∃x,d=[x]/\aO x:=by grind[bJ]
  exact g (by grind)
 .obtain⟨x,h,_⟩:∃x,d=[x]/\aO x:=by grind[bJ]
  exact g (by grind)
 .rfl
theorem vq(l)(h:(aV l).1=1):Q8 (aV l).2.1:=by
 unfold aV at h⊢;cases b:l.head? with
 |none=>grind
 |some c=>
  rw[b]at h;simp only at h⊢;cases g:eO c.toNat
  .rw[g]at h;cases f:gP c.toNat
   .grind[text,oJ]
   .rw[f]at h;simp at h⊢;unfold name at h⊢;split at h
    .omega
    .rename_i i;rw[zY i];cases m:pL (l.take (sp gB l))
     .cases l with
      |nil=>grind
      |cons e r=>
       simp at b;subst b;have k:gB e.toNat=true:=by simp[gB,f]
       have o:sp gB (e::r)=sp gB r+1:=by simp[sp,k]
       refine⟨by grind,?_,m,λd a=>?_,λd a=>?_⟩
       .grind
       .simp only at a;obtain⟨j,n,rfl⟩:=List.mem_iff_getElem.1 a;grind[List.length_take,BN,gB]
       grind
     grind
  grind[nK]
theorem TD:∀(f) (l) (a) (b),(∀t∈b,t.x=1->Q8 t.text)->∀t∈(Q7 f l a b).1,t.x=1->Q8 t.text
 |0,l,a,b,_=>by simp[Q7]
 |f+1,l,a,b,h=>by
  simp only[Q7];split
  .grind
  split
  .simp
  split
  .simp
  refine TD f l _ _ λt d c=>?_;grind[vq]
def Fh(l):nY (M8 l).1:=by
 intro i a;grind[M8,tk,List.getD,mQ,TD,vX]
def jG(d:Nat)(s:St)(r:Sp):Option (Out Int):=A8 (r.gk d s []) λa l=>aD a ⟨26,0,0,0,l,[],0,-1,0⟩
def dI(l:Y):(Int×Int) ⊕ (List C×List Ty)->Prop
 |.inl (b,p)=>b≠0/\(((M8 l).2.1=b/\((M8 l).2.2)=p)\/((M8 l).2.1=0/\(Ev (M8 l).1 (jG 0 ⟨0,[],[]⟩) (.fail b p)\/∃a x,Ev (M8 l).1 (jG 0 ⟨0,[],[]⟩) (.ok a x)/\(1200<a.N.length\/300<a.T.length)/\b=2/\p=0)))
 |.inr (N,T)=>(M8 l).2.1=0/\∃a x,Ev (M8 l).1 (jG 0 ⟨0,[],[]⟩) (.ok a x)/\a.N.length<=1200/\a.T.length<=300/\a.N=N/\a.T=T
theorem WR{l}{a}{b}(h:dI l (.inl a))(k:dI l (.inr b)):False:=by
 obtain⟨d,p⟩:=a;obtain⟨N,T⟩:=b;obtain⟨e,h⟩:=h;obtain⟨k1,i,j,k,k3,g,_⟩:=k;obtain⟨c,f⟩|⟨c,h⟩:=h
 .omega
 .obtain h|⟨s,x,h,h3,_⟩:=h
  .cases h.one k
  .have:=h.one k;grind
theorem dI.one{l}{a b}(h:dI l a)(k:dI l b):a=b:=by
 obtain⟨i,p⟩|⟨N,T⟩:=a<;>obtain⟨j,q⟩|⟨f,g⟩:=b
 .obtain⟨m,h⟩:=h;obtain⟨o,k⟩:=k;obtain⟨c,n⟩|⟨c,h⟩:=h<;>obtain⟨k1,k2⟩|⟨k1,k⟩:=k
  .grind
  .omega
  .omega
  .obtain h|⟨s,x,h,h3,rfl,rfl⟩:=h<;>obtain k|⟨d,e,k,k3,rfl,rfl⟩:=k
   .have:=h.one k;grind
   .cases h.one k
   .cases h.one k
   .rfl
 .grind[absurd,WR]
 .grind[absurd,WR]
 .obtain⟨_,s,x,h,_,_,rfl,rfl⟩:=h;obtain⟨_,d,e,k,_,_,rfl,rfl⟩:=k;have:=h.one k;grind
theorem XZ(L):∀f d s a b l,(fV L f).gk d s a=some (.ok b l)->(tk L b.i).x=6
 |0,_,_,_,_,_,h=>by cases h
 |f+1,d,s,a,b,l,h=>by
  change (if (tk L s.i).x=6 then some (.ok s a) else A8 ((fV L f).gd d s) λs x=>(fV L f).gk d s (a++[x]))=_ at h;split at h
  .grind
  .unfold A8 at h;split at h
   .grind
   .grind
   .exact XZ L f _ _ _ _ _ h
def Ut{L}{d}{s a}{x}(h:Ev L (jG d s) (.ok a x)):(tk L a.i).x=6:=by
 obtain⟨f,b⟩:=h;have h:=b f (vQ _);unfold jG A8 at h;grind[XZ,aD,zQ,Out.ok.injEq]
def xX(x:Y):Prop:=x≠[]/\x.length<=9/\∀c∈x,eO c.toNat=true
def AK(L:List Tk):Prop:=∀i,(tk L i).x=3->xX (tk L i).text
theorem vv(l)(h:(aV l).1=3):xX (aV l).2.1:=by
 unfold aV at h⊢;cases b:l.head? with
 |none=>grind
 |some c=>
  rw[b]at h;simp only at h⊢;cases d:eO c.toNat with
  |true=>
   rw[d]at h;simp at h⊢;unfold nK at h⊢;split at h
   .omega
   .rename_i e;rw[zY e];cases l with
    |nil=>grind
    |cons a r=>
     simp at b;subst b;have i:1<=sp eO (a::r):=by have:=uD eO (a::r) 0 (by simp) (wQ _) d;omega
     refine⟨?_,?_,?_⟩
     .grind[List.length_take]
     .grind
     .intro x f;obtain⟨k,g,rfl⟩:=List.getElem_of_mem f;rw[List.getElem_take];grind[BN]
  |false=>
   grind[name,text,oJ]
theorem TE:∀(f) (l) (a) (b),(∀t∈b,t.x=3->xX t.text)->∀t∈(Q7 f l a b).1,t.x=3->xX t.text
 |0,l,a,b,_=>by simp[Q7]
 |f+1,l,a,b,h=>by
  simp only[Q7];split
  .grind
  split
  .simp
  split
  .simp
  refine TE f l _ _ λt d c=>?_;grind[vv]
def SE(l):AK (M8 l).1:=by
 intro i a;grind[M8,tk,List.getD,mQ,TE,vX]
def QE:∀(l:Y) (a),(∀c∈l,eO c.toNat=true)->∃n,Lib.decFrom a l=some n/\(l.foldl (λn c=>10*n+(c.toNat:Int)-48) a)=n
 |[],a,_=>⟨a,rfl,rfl⟩
 |c::r,a,h=>by
  have b:=h c (by simp);have f:48<=c.toNat/\c.toNat<=57:=by
   unfold eO at b;simpa using b
  obtain⟨n,d,e⟩:=QE r (a*10+(c.toNat-48)) (λx g=>h x (by grind));grind[Lib.decFrom,Lib.digitVal]
theorem vk(x)(h:xX x):Lib.atoi x=some (nA x):=by
 obtain⟨e,_,d⟩:=h;cases x with
 |nil=>grind
 |cons c r=>
  obtain⟨n,f,g⟩:=QE (c::r) 0 d;have a:=d c (by simp);unfold eO at a;have b:48<=c.toNat/\c.toNat<=57:=by simpa using a
  have i:(c==45)=false:=by
   rw[beq_eq_false_iff_ne];rintro rfl;simp at b
  have j:(c==43)=false:=by
   rw[beq_eq_false_iff_ne];rintro rfl;simp at b
  grind[nA,Lib.atoi,Lib.decNat]
/-!### Behind others -/
def iU(b:Int)(t:Ty):Ty:=⟨t.x,t.ej.map λp=>(p.1,p.2+b),t.M.map λx=>x+b,t.ew+b⟩
def dP.mv{t}{i}(h:dP t i)(b:Nat):dP (iU b t) (b+i):=by
 obtain⟨a,c,d,e⟩|⟨a,c,d,e⟩|⟨a,c,d,e,j⟩|⟨a,c,d,e,j⟩|⟨a,c,d,e⟩:=h
 .exact .inl ⟨a,c,by grind[iU],by grind[iU]⟩
 .refine .inr (.inl ⟨a,by grind[iU],?_,λp k=>?_⟩)
  .grind[iU]
  .obtain⟨q,g,rfl⟩:=qZ.1 k;grind
 .exact .inr (.inr (.inl ⟨a,by grind[iU],by grind[iU],by show 0<=t.ew+b;omega,by show t.ew+(b:Int)<((b+i:Nat):Int);omega⟩))
 .refine .inr (.inr (.inr (.inl ⟨a,by grind[iU],by show 0<=t.ew+b;omega,by show t.ew+(b:Int)<((b+i:Nat):Int);omega,λx f=>?_⟩)));obtain⟨q,g,rfl⟩:=qZ.1 f;grind
 .refine .inr (.inr (.inr (.inr ⟨a,by grind[iU],by grind[iU],λx f=>?_⟩)));obtain⟨q,g,rfl⟩:=qZ.1 f;grind
def W9(T X:List Ty):List Ty:=T++X.map (iU T.length)
def zB(a b:Y):Bool:=decide (Lib.compareBytes a b<0)
theorem WW:∀a:Y,Lib.compareBytes a a=0
 |[]=>rfl
 |a::b=>by
  unfold Lib.compareBytes;rw[zY (UInt8.lt_irrefl a),zY (UInt8.lt_irrefl a)];exact WW b
theorem VH:∀a b:Y,Lib.compareBytes a b=0->a=b
 |[],[],_=>rfl
 |[],_::_,h=>by grind[Lib.compareBytes]
 |_::_,[],h=>by grind[Lib.compareBytes]
 |a::c,b::d,h=>by
  unfold Lib.compareBytes at h;split at h
  .omega
  split at h
  .omega
  rename_i e f;have:=UInt8.le_antisymm (UInt8.not_lt.1 f) (UInt8.not_lt.1 e);rw[this,VH c d h]
theorem Y2:∀a b:Y,Lib.compareBytes b a=-Lib.compareBytes a b
 |[],[]=>rfl
 |[],_::_=>rfl
 |_::_,[]=>rfl
 |a::c,b::d=>by
  unfold Lib.compareBytes;by_cases e:a<b
  .grind
  .by_cases f:b<a
   .grind
   .simp only[e,f,if_false];exact Y2 c d
theorem BQ:∀a b c:Y,Lib.compareBytes a b<=0->Lib.compareBytes b c<=0->Lib.compareBytes a c<=0/\(Lib.compareBytes a b<0\/Lib.compareBytes b c<0->Lib.compareBytes a c<0)
 |[],[],c,_,h=>by
  grind[Lib.compareBytes]
 |[],_::_,[],_,h=>by grind[Lib.compareBytes]
 |[],_::_,_::_,_,_=>by simp[Lib.compareBytes]
 |_::_,[],_,h,_=>by grind[Lib.compareBytes]
 |_::_,_::_,[],_,h=>by grind[Lib.compareBytes]
 |a::d,b::e,c::f,g,i=>by
  have j:=BQ d e f;grind[Lib.compareBytes]
theorem Ov(n c)(x y)(a b):D8 (.nd 9 n (x::a)) (.nd 9 c (y::b))=(decide (a.length<=b.length)&&((a.zip b).all λp=>D8 p.1 p.2||D8 p.2 p.1)&&D8 x y):=by rw[rJ];rfl
def kM{c:Type}(a b:Y×c):Bool:=!zB b.1 a.1
def kV{a}(l:List (Y×a)):List (Y×a):=l.mergeSort kM
def Sg{d}(a b c:Y×d)(e:kM a b=true)(f:kM b c=true):kM a c=true:=by
 grind[kM,zB,Bool.not_eq_true',decide_eq_false_iff_not,Int.not_lt,Y2,BQ]
def Sb{c}(a b:Y×c):(kM a b||kM b a)=true:=by
 simp only[kM,zB,Bool.or_eq_true,Bool.not_eq_true',decide_eq_false_iff_not,Int.not_lt];grind[Y2]
theorem U4{a}(l:List (Y×a)):(kV l).Perm l:=List.mergeSort_perm l kM
def JV{c}(l:List (Y×c)):(kV l).Pairwise (λa b=>kM a b=true):=List.pairwise_mergeSort Sg Sb l
theorem IP{n}:∀(l c:List (Y×n)),l.Perm c->(l.map (·.1)).Nodup->l.Pairwise (λa b=>kM a b=true)->c.Pairwise (λa b=>kM a b=true)->l=c
 |[],c,d,_,_,_=>(List.nil_perm.1 d).symm
 |x::l,[],d,_,_,_=>by simp_all
 |x::l,y::c,d,p,f,g=>by
  have j:x∈y::c:=d.subset (by simp);have m:y∈x::l:=d.symm.subset (by simp);have k:x=y:=by
   obtain h|h:=jW.1 j
   .omega
   .obtain e|e:=jW.1 m
    .grind
    .have a1:=(List.pairwise_cons.1 f).1 y e;have i:=(List.pairwise_cons.1 g).1 x h;simp only[kM,zB,Bool.not_eq_true',decide_eq_false_iff_not,Int.not_lt]at a1 i;have o:=Y2 x.1 y.1;grind[VH]
  subst k;rw[IP l c (List.perm_cons x|>.1 d) (by grind) (List.pairwise_cons.1 f).2 (List.pairwise_cons.1 g).2]
mutual
def gO:Tr->Tr
 |.nd k b a=>if k=7 then .nd 7 ((kV (b.zip (qO a))).map (·.1)) ((kV (b.zip (qO a))).map (·.2)) else .nd k b (qO a)
def qO:List Tr->List Tr
 |[]=>[]
 |t::r=>gO t::qO r
end
theorem xA:∀a,qO a=a.map gO
 |[]=>rfl
 |t::r=>by rw[qO,xA r];rfl
def key(t:Tr):Y:=bO (gO t)
theorem Xc(t):(gO t).k=t.k:=by
 obtain⟨k,b,a⟩:=t;rw[gO];split
 .rename_i h;rw[h];rfl
 .rfl
theorem uE{k}{b}{a}(h:k≠7):gO (.nd k b a)=.nd k b (a.map gO):=by rw[gO,zY h,xA]
theorem Gn(t)(h:Wf t):Wf (gO t):=by
 induction h with
 |plain k g f=>
  rw[uE (by omega)];exact Wf.plain k g f
 |obj d c i r q _ b=>
  rw[gO,wY rfl,xA];have j:=U4 (d.zip (c.map gO));have o:(d.zip (c.map gO)).map (·.1)=d:=by
   rw[List.map_fst_zip];simp[i]
  refine Wf.obj _ _ (by simp) ?_ (λn s=>?_) (λx a=>?_)
  .grind
  .grind
  .have:=(j.map (·.2)).subset a;obtain⟨p,l,rfl⟩:=qZ.1 this;obtain⟨y,u,e⟩:=qZ.1 (List.of_mem_zip l).2;grind
 |arr t _ b=>
  rw[uE (by decide)];exact Wf.arr _ b
 |fn t w _ _ m v=>
  rw[uE (by decide)];refine Wf.fn _ _ m (λx a=>?_);grind
 |uni c f _ b=>
  rw[uE (by decide)];refine Wf.uni _ (by grind) (λx a=>?_);grind
/-!### Unions -/
mutual
def flat:Tr->List Tr
 |.nd k b a=>if k=10 then I9 a else [.nd k b a]
def I9:List Tr->List Tr
 |[]=>[]
 |t::r=>flat t++I9 r
end
def dd:List Tr->List Tr->List Tr
 |a,[]=>a
 |a,t::r=>if a.any (λu=>key u==key t) then dd a r else dd (a++[t]) r
def Z9(l:List Tr):Tr:=
 if (I9 l).any (λt=>t.k==5) then .nd 5 [] []
 else match dd [] (I9 l) with
  |[]=>.nd 5 [] []
  |[t]=>t
  |t::u::r=>.nd 10 [] (t::u::r)
theorem LM:∀(l a) (x),x∈a->x∈dd a l
 |[],a,x,h=>h
 |t::r,a,x,h=>by
  rw[dd];split
  .exact LM r a x h
  .exact LM r _ x (by grind)
def AX:∀(l a) (x),x∈l->∃u∈dd a l,key u=key x
 |t::r,a,x,h=>by
  rw[dd];obtain rfl|h:=jW.1 h
  .grind[LM]
  .split
   .exact AX r a x h
   .exact AX r _ x h
def AY:∀(l a) (x),x∈dd a l->x∈a\/x∈l
 |[],a,x,h=>.inl h
 |t::r,a,x,h=>by
  rw[dd]at h;split at h
  .obtain h|h:=AY r a x h<;>grind
  .obtain h|h:=AY r _ x h<;>grind
theorem GC:∀{l} {x},x∈I9 l->∃t∈l,x∈flat t
 |t::r,x,h=>by
  rw[I9,qW]at h;obtain h|h:=h
  .grind
  .obtain⟨u,a,b⟩:=GC h;grind
theorem Oz(t)(h:Wf t):∀x∈flat t,Wf x/\x.k≠10:=by
 induction h with
 |plain k g i=>
  intro x e;rw[flat,zY (by omega)]at e;simp at e;subst e;exact⟨Wf.plain k g i,by grind[Tr.k]⟩
 |obj j f a b c d _=>
  intro x e;rw[flat,zY (by decide)]at e;simp at e;subst e;exact⟨Wf.obj j f a b c d,by simp[Tr.k]⟩
 |arr t a _=>
  intro x e;rw[flat,zY (by decide)]at e;simp at e;subst e;exact⟨Wf.arr t a,by simp[Tr.k]⟩
 |fn t l a b _ _=>
  intro x e;rw[flat,zY (by decide)]at e;simp at e;subst e;exact⟨Wf.fn t l a b,by simp[Tr.k]⟩
 |uni f _ _ m=>
  intro x e;rw[flat,wY rfl]at e;grind[GC]
def RY:Wf (.nd 5 [] []):=Wf.plain 5 (by decide) (by decide)
def Ka(l)(h:∀t∈l,Wf t):Wf (Z9 l):=by
 have b:∀x∈dd [] (I9 l),Wf x:=by
  intro x a;obtain a|a:=AY _ _ x a
  .grind
  .grind[GC,Oz]
 unfold Z9;split
 .exact RY
 .split
  .exact RY
  .grind
  .rename_i t u r e;exact Wf.uni _ (by simp) (λx a=>b x (by grind))
/-!### Tags -/
mutual
theorem zT:∀t:Tr,iB t<128
 |.nd k b a=>by
  rw[iB];split
  .exact EW a
  grind[qJ]
theorem EW:∀l:List Tr,Y5 l<128
 |[]=>by simp[Y5]
 |t::r=>by
  rw[Y5];exact Nat.or_lt_two_pow (n:=7) (zT t) (EW r)
end
theorem TY:∀a:List (Y×Tr),qR (a.map (·.1)) (a.map (·.2))=a.flatMap λp=>[32]++p.1++[58,32]++bO p.2++[59]
 |[]=>rfl
 |p::r=>by
  rw[xZ,xZ,qR,List.headD_cons,List.tail_cons,TY r,List.flatMap_cons]
theorem Jf{a b}(g:a->b)(l:List (Y×a))(c:(l.map (·.1)).Nodup):kV (l.map λp=>(p.1,g p.2))=(kV l).map λp=>(p.1,g p.2):=by
 refine(IP _ _ (((U4 l).map _).trans (U4 _).symm) ?_ ?_ (JV _)).symm
 .grind[U4]
 .rw[List.pairwise_map];exact JV l
theorem Xh(a:List (Y×Int))(f:Int->Tr)(b:(a.map (·.1)).Nodup):gO (.nd 7 (a.map (·.1)) (a.map λp=>f p.2))=.nd 7 ((kV a).map (·.1)) ((kV a).map λp=>gO (f p.2)):=by
 have e:(a.map (·.1)).zip (qO (a.map λp=>f p.2))=a.map λp=>(p.1,(λz=>gO (f z)) p.2):=by
  rw[xA,List.map_map];induction a with
  |nil=>rfl
  |cons p r c=>
   grind
 rw[gO,wY rfl,e,Jf (λz=>gO (f z)) a b,List.map_map,List.map_map];rfl
theorem XP(a:List (Y×Int))(f:Int->Tr):bO (.nd 7 (a.map (·.1)) (a.map λp=>f p.2))=[123]++(a.flatMap λp=>[32]++p.1++[58,32]++bO (f p.2)++[59])++(if a.length=0 then [] else [32])++[125]:=by
 have e:=TY (a.map λp=>(p.1,f p.2));rw[List.map_map,List.map_map]at e;have b:qR (a.map (·.1)) (a.map λp=>f p.2)=a.flatMap λp=>[32]++p.1++[58,32]++bO (f p.2)++[59]:=by
  refine Eq.trans e ?_;rw[List.flatMap_map]
 grind[bO]
theorem CJ{a}(l:List (Y×a)):(kV l).length=l.length:=(U4 l).length_eq
def Q(L:List Tk)(t:Ty):Prop:=t.ej.length<=L.length/\t.M.length<=L.length/\(t.x=8\/t.x=9\/t.ew=0)
def Qs(L:List Tk)(s:St):Prop:=s.i<=L.length/\∀t∈s.T,Q L t
structure QF(L:List Tk)(f:Nat):Prop where
 typ:∀d s s' x,Qs L s->(fV L f).typ d s=some (.ok s' x)->Qs L s'/\s.i<s'.i
 union:∀d s s' x,Qs L s->(fV L f).union d s=some (.ok s' x)->Qs L s'/\s.i<s'.i
 f7:∀d s acc s' l,Qs L s->acc.length<=s.i->(fV L f).f7 d s acc=some (.ok s' l)->Qs L s'/\s.i<=s'.i/\l.length<=s'.i
 ft:∀d s s' x,Qs L s->(fV L f).ft d s=some (.ok s' x)->Qs L s'/\s.i<s'.i
 jc:∀d s fs s' x,Qs L s->fs.length<=s.i->(fV L f).jc d s fs=some (.ok s' x)->Qs L s'/\s.i<s'.i
 j9:∀d s s' x,Qs L s->(fV L f).j9 d s=some (.ok s' x)->Qs L s'/\s.i<s'.i
 M:∀d s nm acc s' l,Qs L s->acc.length<=s.i->(fV L f).M .typ [41] d s nm acc=some (.ok s' l)->Qs L s'/\s.i<s'.i/\l.length<=s'.i
def jM(a:List Y):Nat:=(a.map λn=>n.length+8).sum
mutual
def wg:Tr->Nat
 |.nd _ b a=>16+jM b+dF a
def dF:List Tr->Nat
 |[]=>0
 |t::r=>wg t+5+dF r
end
theorem FU:∀l,dF l=(l.map λt=>wg t+5).sum
 |[]=>rfl
 |t::r=>by rw[dF,FU r,xZ,List.sum_cons]
theorem YC(l a):dF (l++a)=dF l+dF a:=by grind[FU,iY]
theorem Yd(t):dF [t]=wg t+5:=by rfl
def KB:∀{l} {x},x∈l->wg x+5<=dF l
 |t::r,x,h=>by
  rw[dF];obtain rfl|h:=jW.1 h
  .omega
  .have:=KB h;omega
theorem TN{l a:List Nat}(h:l.Perm a):l.sum=a.sum:=by
 grind
theorem Kz{l a}(h:l.Perm a):dF l=dF a:=by grind[FU,TN]
theorem Gf{l a}(h:l.Perm a):jM l=jM a:=TN (h.map _)
theorem RT:∀(r) (b),(∀x∈r,(bO x).length<=wg x)->(oL b r).length<=dF r
 |[],_,_=>by simp[oL]
 |t::r,b,h=>by
  have a:=h t (by simp);have c:=RT r false (λx d=>h x (by grind));rw[oL,dF];grind
theorem RX:∀(r) (b),(∀x∈r,(bO x).length<=wg x)->(mV b r).length<=dF r
 |[],_,_=>by simp[mV]
 |t::r,b,h=>by
  have a:=h t (by simp);have c:=RX r false (λx d=>h x (by grind));rw[mV,dF];grind
def RV:∀(r) (a),(∀x∈r,(bO x).length<=wg x)->(qR a r).length<=jM a+dF r
 |[],_,_=>by simp[qR]
 |t::r,a,h=>by
  have b:=h t (by simp);have c:=RV r a.tail (λx d=>h x (by grind));rw[qR,dF];simp;cases a<;>grind[List.headD_nil,List.tail_nil,xQ,jM,List.headD_cons,List.tail_cons]
theorem Bv(k):(mG k).length<=7:=by
 unfold mG;split
 .simp
 split
 .simp
 split
 .simp
 split
 .simp
 split<;>simp
theorem Bj(t):(bO t).length<=wg t:=by
 induction t using Tr.ind with
 |h k c a b=>
  rw[bO,wg];split
  .have d:=RV a c b;grind
  split
  .cases a<;>grind[EX,qQ,jQ,xQ,dF]
  split
  .cases a<;>grind[BK,RT,qQ,jQ,xQ,dF]
  grind[RX,Bv]
theorem UH:∀(a:List Y) (l:List Tr),jM ((a.zip l).map (·.1))<=jM a
 |[],_=>by simp
 |_::_,[]=>by simp[jM]
 |n::a,t::l=>by
  have:=UH a l;unfold jM at*;simp_all
theorem UK:∀(a:List Y) (l:List Tr),dF ((a.zip l).map (·.2))<=dF l
 |[],_=>by simp[dF]
 |_::_,[]=>by simp
 |n::a,t::l=>by
  have:=UK a l;grind[List.zip_cons_cons,xZ,dF]
def YH:∀(l),(∀x∈l,wg (gO x)<=wg x)->dF (l.map gO)<=dF l
 |[],_=>by simp
 |t::r,h=>by
  have a:=h t (by simp);have b:=YH r (λx c=>h x (by grind));grind[xZ,dF]
theorem Gq(t):wg (gO t)<=wg t:=by
 induction t using Tr.ind with
 |h k e c b=>
  have d:=YH c b;by_cases a:k=7
  .subst a;rw[gO,wY rfl,wg,wg];grind[U4,qO,Gf,Kz,UH,UK,xA]
  grind[uE,wg]
theorem AP:∀(l),(∀x∈l,dF (flat x)<=wg x+5)->dF (I9 l)<=dF l
 |[],_=>by grind[I9,dF]
 |t::r,h=>by
  have a:=h t (by simp);have b:=AP r (λx c=>h x (by grind));grind[I9,YC,dF]
def YJ(t):dF (flat t)<=wg t+5:=by
 induction t using Tr.ind with
 |h k c b a=>
  grind[flat,AP,wg,Yd]
theorem Gg(t)(h:Wf t):bO t≠[]:=by
 induction h with
 |plain k i f=>
  grind[bO,mG]
 |obj l e a b c d _=>grind[bO]
 |arr t a _=>grind[bO]
 |fn t m a b _ _=>rw[bO,zY (by decide),zY (by decide),wY rfl,BK];simp
 |uni e f h g=>
  rw[bO,zY (by decide),zY (by decide),zY (by decide),wY rfl];cases e with
  |nil=>grind
  |cons t r=>
   have j:=List.length_pos_iff.2 (g t (by simp));grind[bO,mV,List.length]
def Up{c}(n:Nat)(x:Option (Out c)):Prop:=∀b a,x=some (.ok b a)->n<=b.N.length
def Ix(n:Nat)(x:Option (Out Int)):Prop:=∀b a,x=some (.ok b a)->n<=b.N.length/\n<=a
def Rx(n:Nat)(h:Int)(x:Option (Out Int)):Prop:=∀b a,x=some (.ok b a)->n<=b.N.length/\(a=h\/n<=a)
theorem Up.none{a}{n}:Up n (none:Option (Out a)):=by intro _ _ h;grind
theorem Ix.none{n}:Ix n none:=by intro _ _ h;grind
theorem Rx.none{n}{x}:Rx n x none:=by intro _ _ h;grind
theorem Up.jn{a}{n}{L}{i}{e}:Up n (bC L i e:Option (Out a)):=by intro _ _ h;grind[bC]
theorem Ix.jn{n}{L}{i}{e}:Ix n (bC L i e):=by intro _ _ h;grind[bC]
theorem Rx.jn{n}{x}{L}{i}{e}:Rx n x (bC L i e):=by intro _ _ h;grind[bC]
theorem Up.ok{b}{n}{s}{a:b}(h:n<=s.N.length):Up n (some (.ok s a)):=by
 intro _ _ e;grind
theorem Rx.ok{n}{s}{a}(h:n<=s.N.length):Rx n a (some (.ok s a)):=by
 intro _ _ e;grind
theorem Ix.ok{n}{s:St}{a}(h:n<=s.N.length)(b:(n:Int)<=a):Ix n (some (.ok s a)):=by
 intro _ _ e;grind
def Ix.up{n}{x}(h:Ix n x):Up n x:=λ_ _ e=>(h _ _ e).1
def Up.low{b}{n m}{x:Option (Out b)}(h:Up m x)(a:n<=m):Up n x:=λ_ _ e=>kQ a (h _ _ e)
def Ix.low{n m}{x}(h:Ix m x)(a:n<=m):Ix n x:=λ_ _ e=>⟨kQ a (h _ _ e).1,by have:=(h _ _ e).2;omega⟩
theorem Up.bind{c j}{n}{x}{k:St->c->Option (Out j)}(h:Up n x)(g:∀s a,n<=s.N.length->Up n (k s a)):Up n (A8 x k):=by
 intro l b e;obtain⟨i,a,d,f⟩:=B7 e;exact g i a (h _ _ d) _ _ f
theorem Ix.bind{c}{n}{x}{k:St->c->Option (Out Int)}(h:Up n x)(g:∀s a,n<=s.N.length->Ix n (k s a)):Ix n (A8 x k):=by
 intro j b e;obtain⟨i,a,d,f⟩:=B7 e;exact g i a (h _ _ d) _ _ f
def Ix.jx{n}{x}{k}(h:Ix n x)(f:∀s a,n<=s.N.length->(n:Int)<=a->Ix n (k s a)):Ix n (A8 x k):=by
 intro i b e;obtain⟨g,a,c,d⟩:=B7 e;exact f g a (h _ _ c).1 (h _ _ c).2 _ _ d
def Up.jx{n}{x}{k:St->Int->Option (Out Int)}(h:Ix n x)(f:∀s a,n<=s.N.length->(n:Int)<=a->Up n (k s a)):Up n (A8 x k):=by
 intro i b e;obtain⟨g,a,c,d⟩:=B7 e;exact f g a (h _ _ c).1 (h _ _ c).2 _ _ d
def Rx.lj{n}{h}{x}(b:Rx n h x)(f:n<=h):Ix n x:=by
 intro g a e;obtain⟨c,d⟩:=b _ _ e;omega
def Ix.ot{n}{h}{x}(a:Ix n x):Rx n h x:=λ_ _ e=>⟨(a _ _ e).1,.inr (a _ _ e).2⟩
theorem Ix.add{n}{s}{t}(h:n<=s.N.length):Ix n (aD s t):=by
 intro b a e;grind[aD]
def Up.j4{n}{s}{t}(h:n<=s.N.length):Up n (bK s t):=by
 intro b a e;grind[bK]
theorem Up.ey{n}{L}{s}{m}(h:n<=s.N.length):Up n (aB L s m):=by
 unfold aB;split
 .exact Up.ok h
 grind[Up.jn]
def Up.newName{n}{L}{s}{a}(h:n<=s.N.length):Up n (aN L s a):=by
 unfold aN;split
 .split
  .exact Up.jn
  .exact Up.ok h
 grind[Up.jn]
def Up.inside{n}{L}{b}{d}{s}{p}(h:∀d,Up n (p d s)):Up n (aQ L b d s p):=by
 grind[aQ,Up.jn]
def Ix.inside{n}{L}{b}{d}{s}{p}(h:∀d,Ix n (p d s)):Ix n (aQ L b d s p):=by
 grind[aQ,Ix.jn]
def Ix.two{n}{L}{s}{l}{p}(h:Up n (p s.nx)):Ix n (gN L s l p):=by
 grind[gN,Ix.bind,Ix.add]
structure oZ(r:Sp):Prop where
 typ:∀d s,Up s.N.length (r.typ d s)
 union:∀d s,Up s.N.length (r.union d s)
 f7:∀d s l,Up s.N.length (r.f7 d s l)
 ft:∀d s,Up s.N.length (r.ft d s)
 jc:∀d s l,Up s.N.length (r.jc d s l)
 j9:∀d s,Up s.N.length (r.j9 d s)
 M:∀p e d s a b,Up s.N.length (r.M p e d s a b)
 expr:∀d s,Ix s.N.length (r.expr d s)
 comp:∀d s,Ix s.N.length (r.comp d s)
 sum:∀d s,Ix s.N.length (r.sum d s)
 prod:∀d s,Ix s.N.length (r.prod d s)
 row:∀b d s x,Rx s.N.length x (r.row b d s x)
 oper:∀d s,Ix s.N.length (r.oper d s)
 tail:∀d s x,Rx s.N.length x (r.tail d s x)
 simple:∀d s,Ix s.N.length (r.simple d s)
 block:∀d s,Up s.N.length (r.block d s)
 fx:∀d s a,Up s.N.length (r.fx d s a)
 gd:∀d s,Up s.N.length (r.gd d s)
 any:∀d s,Up s.N.length (r.any d s)
 gk:∀d s a,Up s.N.length (r.gk d s a)
def Rx.low{n m}{h}{x}(b:Rx m h x)(f:n<=m):Rx n h x:=λg a e=>by
 obtain⟨c,d⟩:=b _ _ e;omega
def oZ.js{r}(i:oZ r){n}{L}{d}{s}(h:n<=s.N.length):Up n (aY L r d s):=by
 unfold aY;split
 .exact(i.typ d s.nx).low h
 grind[Up.ok]
theorem oZ.part{r}(i:oZ r){n}{L}{d}{s}{k}{p}(h:n<=s.N.length):Up n (part L r d s k p):=by
 cases p with
 |typ=>exact Up.bind ((i.typ d s).low h) λs a f=>Up.ok f
 |expr=>exact Up.bind ((i.expr d s).up.low h) λs a f=>Up.ok f
 |obj=>exact Up.bind (Up.newName h) λl _ b=>Up.bind (Up.ey b) λg _ c=>Up.bind ((i.expr d g).up.low c) λo _ j=>Up.bind (Ix.add j).up λm _ e=>Up.ok e
 |par=>exact Up.bind (Up.newName h) λl _ b=>Up.bind (i.js b) λg _ c=>Up.bind (Ix.add c).up λm _ e=>Up.ok e
def oZ.more{r}(i:oZ r){n}{e}{d}{s}{t}(h:n<=s.N.length):Rx n e (A8 (aD s t) λs x=>r.tail d s x):=by
 refine Ix.ot (Ix.jx (Ix.add h) λs a c b=>?_);exact((i.tail d s a).low c).lj b
theorem Rx.bind{d}{n}{c}{x}{k:St->d->Option (Out Int)}(h:Up n x)(i:∀s a,n<=s.N.length->Rx n c (k s a)):Rx n c (A8 x k):=by
 intro l b e;obtain⟨j,a,f,g⟩:=B7 e;exact i j a (h _ _ f) _ _ g
def Fb(L)(r)(i:oZ r):oZ (step L r) where
 typ d s:=Up.inside λd=>i.union d s;union d s:=Up.bind (i.ft d s) λf a c=>by
  split
  .exact Up.bind ((i.f7 d f _).low c) λh l g=>Up.j4 g
  grind[Up.ok]
 f7 d s acc:=by
  show Up _ (if _ then _ else _);split
  .exact Up.bind (i.ft d s.nx) λf a c=>(i.f7 d f _).low c
  .grind[Up.ok]
 ft d s:=by
  show Up _ (if _ then _ else _);split
  .exact i.jc d s.nx []
  split
  .exact Up.bind (i.typ d s.nx) λf a c=>Up.bind (Up.ey c) λh _ g=>Up.j4 g
  split
  .exact i.j9 d s.nx
  split
  .exact Up.j4 (vQ _)
  grind[Up.jn]
 jc d s fs:=by
  show Up _ (if _ then _ else _);split
  .exact Up.j4 (vQ _)
  .exact Up.bind (Up.newName (vQ _)) λf _ c=>Up.bind (Up.ey c) λh _ g=>Up.bind ((i.typ d h).low g) λm _ j=>Up.bind (Up.ey j) λo _ k=>(i.jc d o _).low k
 j9 d s:=Up.bind (i.M _ _ d s _ _) λf l c=>by
  split
  .exact Up.bind ((i.typ d f.nx).low c) λh _ g=>Up.j4 g
  grind[Up.ok,Up.jn]
 M p e d s ns acc:=by
  show Up _ (if _ then _ else _);split
  .exact Up.ok (vQ _)
  .refine Up.bind ?_ λf _ c=>Up.bind (i.part c) λh x g=>(i.M p e d h _ _).low g;split<;>simp_all[Up.ok,vQ,Up.ey]
 expr d s:=Ix.inside λd=>i.comp d s;comp d s:=Ix.jx (i.sum d s) λf a c n=>by
  split
  .exact Ix.two ((i.sum d f.nx).up.low c)
  grind[Ix.ok]
 sum d s:=Ix.jx (i.prod d s) λf a c n=>((i.row true d f a).low c).lj n;prod d s:=Ix.jx (i.oper d s) λf a c n=>((i.row false d f a).low c).lj n;row b d s x:=by
  show Rx _ _ (if _ then _ else _);split
  .refine Ix.ot (Ix.jx (Ix.two ?_) λf a c n=>((i.row b d f a).low c).lj n);cases b
   .exact(i.oper d s.nx).up
   .exact(i.prod d s.nx).up
  .grind[Rx.ok]
 oper d s:=by
  show Ix _ (if _ then _ else _);split
  .exact Ix.bind (Up.inside λd=>(i.oper d s.nx).up) λf _ c=>Ix.add c
  .exact Ix.jx (i.simple d s) λf a c n=>((i.tail d f a).low c).lj n
 tail d s x:=by
  show Rx _ _ (if _ then _ else _);split
  .exact Rx.bind (i.M _ _ d s.nx _ _) λf l c=>i.more c
  split
  .split
   .exact i.more (vQ s.N.length)
   grind[Rx.jn]
  split
  .exact Rx.bind (i.expr d s.nx).up λf _ c=>Rx.bind (Up.ey c) λh _ g=>i.more g
  split
  .exact Rx.bind (i.typ d s.nx) λf _ c=>i.more c
  .grind[Rx.ok]
 simple d s:=by
  show Ix _ (if _ then _ else _);iterate 6
   split
   .exact Ix.add (vQ s.N.length)
  split
  .exact Ix.bind (Up.ey (vQ s.N.length)) λf _ c=>Ix.bind ((i.M _ _ d f _ _).low c) λh _ g=>Ix.bind (i.js g) λm _ j=>Ix.bind ((i.block d m).low j) λo _ k=>Ix.add k
  split
  .exact Ix.bind (i.M _ _ d s.nx _ _) λf _ c=>Ix.add c
  split
  .exact Ix.bind (i.M _ _ d s.nx _ _) λf _ c=>Ix.add c
  .exact Ix.bind (Up.ey (vQ s.N.length)) λf _ c=>Ix.jx ((i.expr d f).low c) λh x g q=>Ix.bind (Up.ey g) λm _ j=>Ix.ok j q
 block d s:=Up.bind (Up.ey (vQ _)) λf _ c=>Up.bind ((i.fx d f _).low c) λh _ g=>(Ix.add g).up;fx d s acc:=by
  show Up _ (if _ then _ else _);split
  .exact Up.ok (vQ _)
  .exact Up.bind (i.gd d s) λf _ c=>(i.fx d f _).low c
 gd d s:=Up.inside λd=>i.any d s;any d s:=by
  show Up _ (if _ then _ else _);split
  .split
   .exact Up.bind (i.js (vQ s.N.length)) λf _ c=>Up.bind (Up.ey c) λh _ g=>Up.bind ((i.expr d h).up.low g) λm _ j=>Up.bind (Up.ey j) λo _ k=>(Ix.add k).up
   grind[Up.jn]
  split
  .exact Up.bind (i.expr d s.nx).up λf _ c=>Up.bind (Up.ey c) λh _ g=>(Ix.add g).up
  split
  .exact Up.bind (i.expr d s.nx).up λf _ c=>Up.bind (Up.ey c) λh _ g=>(Ix.add g).up
  split
  .refine Up.bind (Up.ey (vQ s.N.length)) λf _ c=>Up.bind ((i.expr d f).up.low c) λh _ g=>Up.bind (Up.ey g) λm _ j=>Up.bind ((i.block d m).low j) λo _ k=>Up.bind ?_ λv _ t=>(Ix.add t).up;split
   .exact(i.block d o.nx).low k
   grind[Up.ok]
  split
  .exact Up.bind (Up.ey (vQ s.N.length)) λf _ c=>Up.bind ((i.expr d f).up.low c) λh _ g=>Up.bind (Up.ey g) λm _ j=>Up.bind ((i.block d m).low j) λo _ k=>(Ix.add k).up
  .refine Up.jx (i.expr d s) λf x c q=>?_;split
   .split
    .exact Up.jn
    .have u:s.N.length<=(f.N.take x.toNat).length:=by rw[List.length_take];omega
     exact Up.bind ((i.expr d ⟨f.i+1,f.N.take x.toNat,f.T⟩).up.low u) λh _ g=>Up.bind (Up.ey g) λm _ j=>(Ix.add j).up
   .exact Up.bind (Up.ey c) λh _ g=>(Ix.add g).up
 gk d s acc:=by
  show Up _ (if _ then _ else _);split
  .grind[Up.ok]
  .exact Up.bind (i.gd d s) λf _ c=>(i.gk d f _).low c
def WM(L):∀f,oZ (fV L f)
 |0=>⟨λ_ _=>Up.none,λ_ _=>Up.none,λ_ _ _=>Up.none,λ_ _=>Up.none,λ_ _ _=>Up.none,λ_ _=>Up.none,λ_ _ _ _ _ _=>Up.none,λ_ _=>Ix.none,λ_ _=>Ix.none,λ_ _=>Ix.none,λ_ _=>Ix.none,λ_ _ _ _=>Rx.none,λ_ _=>Ix.none,λ_ _ _=>Rx.none,λ_ _=>Ix.none,λ_ _=>Up.none,λ_ _ _=>Up.none,λ_ _=>Up.none,λ_ _=>Up.none,λ_ _ _=>Up.none⟩
 |f+1=>Fb L _ (WM L f)
def vj{L}(d)(s b)(x)(h:Ev L (λr=>r.expr d s) (.ok b x)):s.N.length<=x:=by
 obtain⟨f,a⟩:=h;exact((WM L f).expr d s _ _ (a f (vQ _))).2
