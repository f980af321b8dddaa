/-
  A part of the proof.
-/
import Derived.Lib.Bytealg
import Derived.Lib.ItoaNum
import Derived.Lib.Small
import Derived.Lib.Atoi
set_option maxHeartbeats 16000000
set_option maxRecDepth 100000
namespace Go.Proofs.YtneelacbkianjaaGreatDoor
abbrev bZ:=List UInt8
abbrev uZ:=List Int
theorem iZ{a b:Type}{l:List a}(f:a→b):(l.map f).length=l.length:=List.length_map f
theorem zZ{c:Type}{a b:c}{l:List c}:(b::l).set 0 a=a::l:=rfl
theorem wZ{c:Type}{a b:c}{l:List c}{n:Nat}:(b::l).set (n+1) a=b::l.set n a:=rfl
theorem yZ{b:Type}{l:List b}{i:Nat}{a:b}:l.toArray.setIfInBounds i a=(l.set i a).toArray:=List.setIfInBounds_toArray ..
theorem rZ:(false=true)=False:=Bool.false_eq_true
theorem qZ{b:Type}{a:b}:¬a∈[]:=List.not_mem_nil
theorem kZ{d:Type}(a b c:List d):a++b++c=a++(b++c):=List.append_assoc a b c
theorem jZ{c d:Type}{b:d}{f:c→d}{l:List c}:b∈l.map f↔∃a,a∈l∧f a=b:=List.mem_map
theorem vZ{d:Type}{a:d}{b c:List d}:a::b++c=a::(b++c):=rfl
theorem xZ{a:Type}{l:List a}:l.take l.length=l:=List.take_length
theorem bY{c:Type}{a b:c}(h:some a=some b):a=b:=Option.some.inj h
theorem uY{b c:Type}{f:b→c}{a:b}{l:List b}:(a::l).map f=f a::l.map f:=rfl
theorem lY{a:Type}(l:List a):[]++l=l:=rfl
theorem iY{a:Type}{l:List a}(h:l.length=0):l=[]:=List.eq_nil_of_length_eq_zero h
theorem zY{a:Type}(l:List a):l++[]=l:=List.append_nil l
theorem wY{c d:Type}{f:c→d}{a b:List c}:(a++b).map f=a.map f++b.map f:=List.map_append
theorem yY{c:Prop}{h:Decidable c}(n:¬c){a:Sort _}{t e:a}:ite c t e=e:=if_neg n
theorem rY{c:Prop}{h:Decidable c}(n:c){a:Sort _}{t e:a}:ite c t e=t:=if_pos n
theorem zQ{c : Type}{a b : c} : (some a = some b) = (a = b) := Option.some.injEq a b
theorem qQ{c : Type}{a b : List c} : (a ++ b).length = a.length + b.length := List.length_append
theorem jQ{b : Type}{a : b}{l : List b} : (a :: l).length = l.length + 1 := rfl
theorem xQ{a : Type} : ([] : List a).length = 0 := rfl
theorem kQ{a b c : Nat}(h : a <= b)(k : b <= c) : a <= c := Nat.le_trans h k
theorem vQ(a : Nat) : a <= a := Nat.le_refl a
theorem wQ(a : Nat) : 0 <= a := Nat.zero_le a
theorem yQ{a b c : Nat}(h : a < b)(k : b <= c) : a < c := Nat.lt_of_lt_of_le h k
theorem lQ{b : Type}{l : List b}{i : Nat}{a : b} : l.getD i a = l[i]?.getD a := List.getD_eq_getElem?_getD ..
theorem gQ{a : Type}{l : List a}{i : Nat}(h : i < l.length) : l[i]? = some l[i] := List.getElem?_eq_getElem h
theorem mQ{a : Type}{l : List a}{i : Nat}(h : i < l.length) : l[i] ∈ l := List.getElem_mem h
theorem nQ{a : Type}{l : List a}{i : Nat}(h : i < l.length) : l.take (i + 1) = l.take i ++ [l[i]] := List.take_succ_eq_append_getElem h
theorem tQ(n : Nat) : ((n : Int)).toNat = n := Int.toNat_natCast n
theorem zW{c : Type}{a b : c} : a ∈ [b] ↔ a = b := List.mem_singleton
theorem qW{b : Type}{a : b}{l k : List b} : a ∈ l ++ k ↔ a ∈ l \/ a ∈ k := List.mem_append
theorem jW{c : Type}{a b : c}{l : List c} : a ∈ b :: l ↔ a = b \/ a ∈ l := List.mem_cons
def dig(n:Nat):Bool:=decide (48<=n) && decide (n<=57)
def let'(n:Nat):Bool:=(decide (97<=n) && decide (n<=122))||(decide (65<=n) && decide (n<=90))||decide (n=95)
def blank(n:Nat):Bool:=decide (n=32)||decide (n=10)
def nam(n:Nat):Bool:=let' n||dig n
def txt(n:Nat):Bool:=decide (32<=n) && decide (n<=126) && decide (n≠34)
def sp(p:Nat->Bool):bZ->Nat
 |[]=>0
 |c::r=>if p c.toNat then sp p r+1 else 0
theorem G3a(p:Nat->Bool)(l:bZ):sp p l<=l.length:=by
 induction l with
 |nil=>simp[sp]
 |cons c r a=>simp only[sp];split<;>simp<;>omega
theorem T2a(p:Nat->Bool):∀(l:bZ) (k:Nat) (h:k<l.length),k<=sp p l->p l[k].toNat=true->k+1<=sp p l
 |[],_,h,_,_=>by simp at h
 |c::r,0,_,_,a=>by simp only[List.getElem_cons_zero]at a;simp[sp,a]
 |c::r,k+1,h,b,a=>by
  simp only[sp]at b⊢;split at b
  · rename_i d;rw[rY d];have:=T2a p r k (by simpa using h) (by omega) (by simpa using a);omega
  · omega
theorem P9b(p:Nat->Bool):∀(l:bZ) (k:Nat) (h:k<l.length),k<=sp p l->p l[k].toNat=false->sp p l=k
 |[],_,h,_,_=>by simp at h
 |c::r,0,_,_,a=>by simp only[List.getElem_cons_zero]at a;simp[sp,a]
 |c::r,k+1,h,b,a=>by
  simp only[sp]at b⊢;split at b
  · rename_i d;rw[rY d];have:=P9b p r k (by simpa using h) (by omega) (by simpa using a);omega
  · omega
def G0c:List bZ:=[[108,101,116],[102,110],[105,102],[101,108,115,101],[119,104,105,108,101],[114,101,116,117,114,110],[112,114,105,110,116],[116,114,117,101],[102,97,108,115,101],[110,117,108,108],[97,115],[116,121,112,101,111,102],[110,117,109],[98,111,111,108],[116,101,120,116],[97,110,121],[117,110,107,110,111,119,110]]
def has(a:List bZ)(l:bZ):Bool:=a.contains l
def X9(l:bZ):Bool:=has G0c l
def A1a:List bZ:=[[61,61],[61,62],[40],[41],[123],[125],[91],[93],[44],[59],[58],[46],[61],[60],[43],[45],[42],[33],[124]]
def I7(l:bZ)(a:List bZ):Nat:=a.foldl (λm g=>if g.isPrefixOf l then max m g.length else m) 0
theorem F6d(l:bZ)(c:List bZ)(k:Nat)(h:k<c.length):has (c.take (k+1)) l=(has (c.take k) l||l==c[k]):=by
 rw[nQ h];generalize c.take k=a;generalize c[k]=b;rw[Bool.eq_iff_iff];simp[has]
theorem Y3a{l:bZ}{a:List bZ}(h:l∈a):has a l=true:=by simp[has,h]
structure Tk where
 kind:Int
 text:bZ
 at':Nat
def C4a(l:bZ):Int×bZ×Nat:=
 if 9<sp dig l\/l.head? =some 48/\1<sp dig l then (0,[],0) else (3,l.take (sp dig l),sp dig l)
def name(l:bZ):Int×bZ×Nat:=
 if 20<sp nam l then (0,[],0) else (if X9 (l.take (sp nam l)) then 2 else 1,l.take (sp nam l),sp nam l)
def text(l:bZ):Int×bZ×Nat:=
 if 30<sp txt l.tail\/(l.tail.drop (sp txt l.tail)).head? ≠some 34 then (0,[],0) else (4,l.tail.take (sp txt l.tail),sp txt l.tail+2)
def T3a(l:bZ):Int×bZ×Nat:=
 if I7 l A1a=0 then (0,[],0) else (5,l.take (I7 l A1a),I7 l A1a)
def firstQ(l:bZ):Int×bZ×Nat:=
 match l.head? with
 |none=>(0,[],0)
 |some c=>if dig c.toNat then C4a l else if let' c.toNat then name l else if c.toNat=34 then text l else T3a l
structure Ty where
 kind:Int
 fields:List (bZ×Int)
 list:uZ
 of':Int
structure Nd where
 kind:Int
 a:Int
 b:Int
 c:Int
 list:uZ
 text:bZ
 n:Int
 ty:Int
 at':Int
structure St where
 i:Nat
 N:List Nd
 T:List Ty
inductive Out(α:Type) where
 |ok (s:St) (x:α)
 |fail (e:Int) (p:Int)
def tk(L:List Tk)(i:Nat):Tk:=L.getD i ⟨6,[],0⟩
def isM(L:List Tk)(i:Nat)(a:List bZ):Bool:=((tk L i).kind==5||(tk L i).kind==2) && has a (tk L i).text
def fltQ{a:Type}(L:List Tk)(i:Nat)(e:Int):Option (Out a):=some (.fail e ((tk L i).at':Int))
def St.nx(s:St):St:=⟨s.i+1,s.N,s.T⟩
def needQ(L:List Tk)(s:St)(m:bZ):Option (Out Unit):=if isM L s.i [m] then some (.ok s.nx ()) else fltQ L s.i 1
def addTQ(s:St)(t:Ty):Option (Out Int):=some (.ok ⟨s.i,s.N,s.T++[t]⟩ s.T.length)
def addN(s:St)(n:Nd):Option (Out Int):=some (.ok ⟨s.i,s.N++[n],s.T⟩ s.N.length)
def nd0:Nd:=⟨0,0,0,0,[],[],0,-1,0⟩
def atN(s:St)(n:Int):Int:=(s.N.getD n.toNat nd0).at'
def A3{b c:Type}(x:Option (Out b))(k:St->b->Option (Out c)):Option (Out c):=
 match x with
 |none=>none
 |some (.fail e p)=>some (.fail e p)
 |some (.ok s a)=>k s a
def A3a:List bZ:=[[110,117,109],[98,111,111,108],[116,101,120,116],[110,117,108,108],[97,110,121],[117,110,107,110,111,119,110],[123],[91],[40]]
def O0:List bZ:=[[116,114,117,101],[102,97,108,115,101],[110,117,108,108],[102,110],[40],[91],[123],[33],[45],[116,121,112,101,111,102]]
def A7a:List bZ:=[[108,101,116],[112,114,105,110,116],[114,101,116,117,114,110],[105,102],[119,104,105,108,101]]
def I8a(L:List Tk)(i:Nat):Bool:=(tk L i).kind==1||(tk L i).kind==3||(tk L i).kind==4||isM L i O0
def K8d(L:List Tk)(i:Nat):Bool:=isM L i A7a||I8a L i
def H7(t:bZ):Int:=
 if t=[110,117,109] then 1 else if t=[98,111,111,108] then 2 else if t=[116,101,120,116] then 3 else if t=[110,117,108,108] then 4 else if t=[97,110,121] then 5 else if t=[117,110,107,110,111,119,110] then 6 else 0
inductive V4a where
 |typ|expr|obj|par
structure Sp where
 typ:Nat->St->Option (Out Int)
 union:Nat->St->Option (Out Int)
 unionL:Nat->St->uZ->Option (Out uZ)
 member:Nat->St->Option (Out Int)
 objL:Nat->St->List (bZ×Int)->Option (Out Int)
 fob:Nat->St->Option (Out Int)
 list:V4a->bZ->Nat->St->List bZ->uZ->Option (Out uZ)
 expr:Nat->St->Option (Out Int)
 comp:Nat->St->Option (Out Int)
 sum:Nat->St->Option (Out Int)
 prod:Nat->St->Option (Out Int)
 row:Bool->Nat->St->Int->Option (Out Int)
 oper:Nat->St->Option (Out Int)
 tail:Nat->St->Int->Option (Out Int)
 simple:Nat->St->Option (Out Int)
 block:Nat->St->Option (Out Int)
 blockL:Nat->St->uZ->Option (Out uZ)
 stmt:Nat->St->Option (Out Int)
 any:Nat->St->Option (Out Int)
 progL:Nat->St->uZ->Option (Out uZ)
def insideQ(L:List Tk)(a:Bool)(d:Nat)(s:St)(part:Nat->St->Option (Out Int)):Option (Out Int):=
 if a then if 20<=d then fltQ L s.i 8 else part (d+1) s else fltQ L s.i 1
def I4:Bool->List bZ
 |true=>[[43],[45]]
 |false=>[[42]]
def twoQ(L:List Tk)(s:St)(left:Int)(part:St->Option (Out Int)):Option (Out Int):=
 A3 (part s.nx) λa x=>addN a ⟨12,left,x,0,[],(tk L s.i).text,0,-1,atN a left⟩
def typeIfQ(L:List Tk)(r:Sp)(d:Nat)(s:St):Option (Out Int):=if isM L s.i [[58]] then r.typ d s.nx else some (.ok s (-1))
def newNameQ(L:List Tk)(s:St)(a:List bZ):Option (Out bZ):=
 if (tk L s.i).kind=1 then if has a (tk L s.i).text then fltQ L s.i 6 else some (.ok s.nx (tk L s.i).text) else fltQ L s.i 1
def part(L:List Tk)(r:Sp)(d:Nat)(s:St)(a:List bZ):V4a->Option (Out (Int×List bZ))
 | .typ=>A3 (r.typ d s) λs x=>some (.ok s (x,a))
 | .expr=>A3 (r.expr d s) λs x=>some (.ok s (x,a))
 | .obj=>A3 (newNameQ L s a) λc b=>A3 (needQ L c [58]) λe _=>A3 (r.expr d e) λf x=>
  A3 (addN f ⟨15,x,0,0,[],b,0,-1,(tk L s.i).at'⟩) λg y=>some (.ok g (y,a++[b]))
 | .par=>A3 (newNameQ L s a) λc b=>A3 (typeIfQ L r d c) λe t=>
  A3 (addN e ⟨16,0,0,0,[],b,0,t,(tk L s.i).at'⟩) λf y=>some (.ok f (y,a++[b]))
def M7a(k:Int):Int:=if k=5 then 18 else if k=8 then 19 else if k=9 then 20 else 0
def F7a(n:Nd)(v:Int):Nd:=
 if n.kind=5 then ⟨18,v,n.b,n.c,n.list,n.text,n.n,-1,n.at'⟩
 else if n.kind=8 then ⟨19,n.a,v,n.c,n.list,n.text,n.n,-1,n.at'⟩
 else ⟨20,n.a,n.b,v,n.list,n.text,n.n,-1,n.at'⟩
def C7a(l:bZ):Int:=l.foldl (λn c=>10 * n+(c.toNat:Int) - 48) 0
def step(L:List Tk)(r:Sp):Sp where
 typ d s:=insideQ L (isM L s.i A3a) d s r.union
 union d s:=A3 (r.member d s) λs x=>if isM L s.i [[124]] then A3 (r.unionL d s [x]) λs l=>addTQ s ⟨10,[],l,0⟩ else some (.ok s x)
 unionL d s acc:=if isM L s.i [[124]] then A3 (r.member d s.nx) λs x=>r.unionL d s (acc++[x]) else some (.ok s acc)
 member d s:=
  if isM L s.i [[123]] then r.objL d s.nx []
  else if isM L s.i [[91]] then A3 (r.typ d s.nx) λs x=>A3 (needQ L s [93]) λs _=>addTQ s ⟨8,[],[],x⟩
  else if isM L s.i [[40]] then r.fob d s.nx
  else if (tk L s.i).kind=2/\H7 (tk L s.i).text≠0 then addTQ s.nx ⟨H7 (tk L s.i).text,[],[],0⟩ else fltQ L s.i 1
 objL d s fields:=
  if isM L s.i [[125]] then addTQ s.nx ⟨7,fields,[],0⟩
  else A3 (newNameQ L s (fields.map (·.1))) λs j=>A3 (needQ L s [58]) λs _=>A3 (r.typ d s) λs x=>A3 (needQ L s [59]) λs _=>r.objL d s (fields++[(j,x)])
 fob d s:=A3 (r.list .typ [41] d s [] []) λs l=>
  if isM L s.i [[61,62]] then A3 (r.typ d s.nx) λs x=>addTQ s ⟨9,[],l,x⟩
  else match l with
   |[x]=>some (.ok s x)
   |_=>fltQ L s.i 1
 list p e d s names acc:=
  if isM L s.i [e] then some (.ok s.nx acc)
  else A3 (if acc.length=0 then some (.ok s ()) else needQ L s [44]) λs _=>A3 (part L r d s names p) λs x=>r.list p e d s x.2 (acc++[x.1])
 expr d s:=insideQ L (I8a L s.i) d s r.comp
 comp d s:=A3 (r.sum d s) λs x=>if isM L s.i [[61,61],[60]] then twoQ L s x (r.sum d) else some (.ok s x)
 sum d s:=A3 (r.prod d s) λs x=>r.row true d s x
 prod d s:=A3 (r.oper d s) λs x=>r.row false d s x
 row b d s x:=if isM L s.i (I4 b) then A3 (twoQ L s x (if b then r.prod d else r.oper d)) λs y=>r.row b d s y else some (.ok s x)
 oper d s:=
  if isM L s.i [[33],[45],[116,121,112,101,111,102]] then A3 (insideQ L (I8a L (s.i+1)) d s.nx r.oper) λf x=>addN f ⟨13,x,0,0,[],(tk L s.i).text,0,-1,(tk L s.i).at'⟩
  else A3 (r.simple d s) λs x=>r.tail d s x
 tail d s h:=
  if isM L s.i [[40]] then A3 (r.list .expr [41] d s.nx [] []) λf l=>A3 (addN f ⟨7,h,0,0,l,[],0,-1,atN s h⟩) λs x=>r.tail d s x
  else if isM L s.i [[46]] then
   if (tk L (s.i+1)).kind=1 then A3 (addN s.nx.nx ⟨8,h,0,0,[],(tk L (s.i+1)).text,0,-1,atN s h⟩) λs x=>r.tail d s x else fltQ L (s.i+1) 1
  else if isM L s.i [[91]] then A3 (r.expr d s.nx) λf x=>A3 (needQ L f [93]) λf _=>A3 (addN f ⟨9,h,x,0,[],[],0,-1,atN s h⟩) λs x=>r.tail d s x
  else if isM L s.i [[97,115]] then A3 (r.typ d s.nx) λf t=>A3 (addN f ⟨14,h,0,0,[],[],0,t,atN s h⟩) λs x=>r.tail d s x
  else some (.ok s h)
 simple d s:=
  if (tk L s.i).kind=3 then addN s.nx ⟨1,0,0,0,[],[],C7a (tk L s.i).text,-1,(tk L s.i).at'⟩
  else if (tk L s.i).kind=4 then addN s.nx ⟨2,0,0,0,[],(tk L s.i).text,0,-1,(tk L s.i).at'⟩
  else if (tk L s.i).kind=1 then addN s.nx ⟨5,0,0,0,[],(tk L s.i).text,0,-1,(tk L s.i).at'⟩
  else if isM L s.i [[116,114,117,101]] then addN s.nx ⟨3,0,0,0,[],[],1,-1,(tk L s.i).at'⟩
  else if isM L s.i [[102,97,108,115,101]] then addN s.nx ⟨3,0,0,0,[],[],0,-1,(tk L s.i).at'⟩
  else if isM L s.i [[110,117,108,108]] then addN s.nx ⟨4,0,0,0,[],[],0,-1,(tk L s.i).at'⟩
  else if isM L s.i [[102,110]] then A3 (needQ L s.nx [40]) λa _=>A3 (r.list .par [41] d a [] []) λc l=>A3 (typeIfQ L r d c) λg t=>A3 (r.block d g) λi x=>
   addN i ⟨6,x,0,0,l,[],0,t,(tk L s.i).at'⟩
  else if isM L s.i [[91]] then A3 (r.list .expr [93] d s.nx [] []) λf l=>addN f ⟨11,0,0,0,l,[],0,-1,(tk L s.i).at'⟩
  else if isM L s.i [[123]] then A3 (r.list .obj [125] d s.nx [] []) λf l=>addN f ⟨10,0,0,0,l,[],0,-1,(tk L s.i).at'⟩
  else A3 (needQ L s [40]) λs _=>A3 (r.expr d s) λs x=>A3 (needQ L s [41]) λs _=>some (.ok s x)
 block d s:=A3 (needQ L s [123]) λa _=>A3 (r.blockL d a []) λc l=>addN c ⟨26,0,0,0,l,[],0,-1,(tk L s.i).at'⟩
 blockL d s acc:=if isM L s.i [[125]] then some (.ok s.nx acc) else A3 (r.stmt d s) λs x=>r.blockL d s (acc++[x])
 stmt d s:=insideQ L (K8d L s.i) d s r.any
 any d s:=
  if isM L s.i [[108,101,116]] then
   if (tk L (s.i+1)).kind=1 then A3 (typeIfQ L r d s.nx.nx) λa t=>A3 (needQ L a [61]) λc _=>A3 (r.expr d c) λg x=>A3 (needQ L g [59]) λi _=>
    addN i ⟨17,x,0,0,[],(tk L (s.i+1)).text,0,t,(tk L s.i).at'⟩
   else fltQ L (s.i+1) 1
  else if isM L s.i [[112,114,105,110,116]] then A3 (r.expr d s.nx) λa x=>A3 (needQ L a [59]) λc _=>addN c ⟨21,x,0,0,[],[],0,-1,(tk L s.i).at'⟩
  else if isM L s.i [[114,101,116,117,114,110]] then A3 (r.expr d s.nx) λa x=>A3 (needQ L a [59]) λc _=>addN c ⟨24,x,0,0,[],[],0,-1,(tk L s.i).at'⟩
  else if isM L s.i [[105,102]] then A3 (needQ L s.nx [40]) λa _=>A3 (r.expr d a) λc x=>A3 (needQ L c [41]) λg _=>A3 (r.block d g) λi y=>
   A3 (if isM L i.i [[101,108,115,101]] then r.block d i.nx else some (.ok i (-1))) λk z=>addN k ⟨22,x,y,z,[],[],0,-1,(tk L s.i).at'⟩
  else if isM L s.i [[119,104,105,108,101]] then A3 (needQ L s.nx [40]) λa _=>A3 (r.expr d a) λc x=>A3 (needQ L c [41]) λg _=>A3 (r.block d g) λi y=>
   addN i ⟨23,x,y,0,[],[],0,-1,(tk L s.i).at'⟩
  else A3 (r.expr d s) λa x=>
   if isM L a.i [[61]] then
    if M7a (a.N.getD x.toNat nd0).kind=0 then fltQ L a.i 1
    else A3 (r.expr d ⟨a.i+1,a.N.take x.toNat,a.T⟩) λc v=>A3 (needQ L c [59]) λg _=>addN g (F7a (a.N.getD x.toNat nd0) v)
   else A3 (needQ L a [59]) λc _=>addN c ⟨25,x,0,0,[],[],0,-1,atN a x⟩
 progL d s acc:=if (tk L s.i).kind=6 then some (.ok s acc) else A3 (r.stmt d s) λs x=>r.progL d s (acc++[x])
def bot:Sp:=⟨λ_ _=>none,λ_ _=>none,λ_ _ _=>none,λ_ _=>none,λ_ _ _=>none,λ_ _=>none,λ_ _ _ _ _ _=>none,λ_ _=>none,λ_ _=>none,λ_ _=>none,λ_ _=>none,
 λ_ _ _ _=>none,λ_ _=>none,λ_ _ _=>none,λ_ _=>none,λ_ _=>none,λ_ _ _=>none,λ_ _=>none,λ_ _=>none,λ_ _ _=>none⟩
def sp'(L:List Tk):Nat->Sp
 |0=>bot
 |f+1=>step L (sp' L f)
def Ev{a:Type}(L:List Tk)(c:Sp->Option (Out a))(o:Out a):Prop:=∃b,∀f,b<=f->c (sp' L f)=some o
theorem Ev.one{d:Type}{L:List Tk}{e:Sp->Option (Out d)}{o c:Out d}(h:Ev L e o)(f:Ev L e c):o=c:=by
 obtain⟨a,g⟩:=h;obtain⟨b,i⟩:=f;have:=(g (a+b) (by omega)).symm.trans (i (a+b) (by omega));exact bY this
theorem Ev.pure{a:Type}{L:List Tk}{o:Out a}:Ev L (λ_=>some o) o:=⟨0,λ_ _=>rfl⟩
theorem Ev.eq{b:Type}{L:List Tk}{φ ψ:Sp->Option (Out b)}{o:Out b}(h:Ev L φ o)(e:∀r,ψ r=φ r):Ev L ψ o:=by
 obtain⟨a,c⟩:=h;exact⟨a,λf d=>(e _).trans (c f d)⟩
theorem Ev.bind{c e:Type}{L:List Tk}{d:Sp->Option (Out c)}{k:Sp->St->c->Option (Out e)}{s:St}{x:c}{o:Out e}(h:Ev L d (.ok s x))(g:Ev L (λr=>k r s x) o):Ev L (λr=>A3 (d r) (k r)) o:=by
 obtain⟨a,i⟩:=h;obtain⟨b,j⟩:=g;refine⟨a+b,λf l=> ?_⟩;show A3 (d (sp' L f)) (k (sp' L f))=some o;rw[i f (by omega)];exact j f (by omega)
theorem Ev.bad{c g:Type}{L:List Tk}{b:Sp->Option (Out c)}{k:Sp->St->c->Option (Out g)}{e p:Int}(h:Ev L b (.fail e p)):Ev L (λr=>A3 (b r) (k r)) (.fail e p):=by
 obtain⟨a,d⟩:=h;refine⟨a,λf i=> ?_⟩;show A3 (b (sp' L f)) (k (sp' L f))=some _;rw[d f (by omega)];rfl
theorem Ev.step{b:Type}{L:List Tk}{φ:Sp->Option (Out b)}{o:Out b}(h:Ev L (λr=>φ (step L r)) o):Ev L φ o:=by
 obtain⟨a,c⟩:=h;refine⟨a+1,λf d=> ?_⟩;obtain⟨g,rfl⟩:∃g,f=g+1:=⟨f - 1,by omega⟩;exact c g (by omega)
def J5:Nat->bZ->Nat->List Tk->List Tk×Int×Nat
 |0,_,_,_=>([],0,0)
 |f+1,l,a,b=>
  if l.length<=a+sp blank (l.drop a) then (b++[⟨6,[],l.length⟩],0,0)
  else if (firstQ (l.drop (a+sp blank (l.drop a)))).2.2=0 then ([],1,a+sp blank (l.drop a))
  else if b.length=1000 then ([],2,a+sp blank (l.drop a))
  else J5 f l (a+sp blank (l.drop a)+(firstQ (l.drop (a+sp blank (l.drop a)))).2.2)
   (b++[⟨(firstQ (l.drop (a+sp blank (l.drop a)))).1,(firstQ (l.drop (a+sp blank (l.drop a)))).2.1,a+sp blank (l.drop a)⟩])
def F4(l:bZ):List Tk×Int×Nat:=if 4000<l.length then ([],2,0) else J5 (l.length+1) l 0 []
theorem longest_lenQ(l:bZ):∀(b:List bZ) (m:Nat),m<=l.length->b.foldl (λm g=>if g.isPrefixOf l then max m g.length else m) m<=l.length
 |[],m,a=>a
 |g::r,m,a=>by
  simp only[List.foldl_cons];refine longest_lenQ l r _ ?_;split
  · rename_i h;exact Nat.max_le.2 ⟨a,(List.isPrefixOf_iff_prefix.1 h).length_le⟩
  · exact a
theorem V1b(l:bZ):(firstQ l).2.2<=l.length:=by
 unfold firstQ;cases h:l.head? with
 |none=>simp
 |some c=>
  simp only;split
  · unfold C4a;split
    · simp
    · exact G3a _ _
  split
  · unfold name;split
    · simp
    · exact G3a _ _
  split
  · unfold text;split
    · simp
    · rename_i a;rw[not_or]at a;have b:(l.tail.drop (sp txt l.tail)).head? =some 34:=Classical.not_not.1 a.2;have d:sp txt l.tail<l.tail.length:=by
       apply Classical.byContradiction;intro e;rw[List.drop_of_length_le (by omega)]at b;simp at b
      rw[List.length_tail]at d;show sp txt l.tail+2<=l.length;omega
  · unfold T3a;split
    · simp
    · exact longest_lenQ l A1a 0 (by omega)
theorem P9a(f:Nat)(l:bZ)(a:Nat)(b:List Tk)(c:sp blank (l.drop a)=0):J5 (f+1) l a b=
 if l.length<=a then (b++[⟨6,[],l.length⟩],0,0)
 else if (firstQ (l.drop a)).2.2=0 then ([],1,a)
 else if b.length=1000 then ([],2,a)
 else J5 f l (a+(firstQ (l.drop a)).2.2) (b++[⟨(firstQ (l.drop a)).1,(firstQ (l.drop a)).2.1,a⟩]):=by
 simp only[J5,c,Nat.add_zero]
theorem X5a(p:Nat->Bool):∀(l:bZ),sp p (l.drop (sp p l))=0
 |[]=>by simp[sp]
 |c::r=>by
  simp only[sp];split
  · rw[List.drop_succ_cons];exact X5a p r
  · rename_i h;simp[sp,h]
theorem Q9(f:Nat)(l:bZ)(a:Nat)(b:List Tk):J5 (f+1) l a b=J5 (f+1) l (a+sp blank (l.drop a)) b:=by
 have h:=X5a blank (l.drop a);rw[List.drop_drop]at h;rw[P9a f l (a+sp blank (l.drop a)) b h];simp only[J5]
def plain(k:Int):Bool:=k==1||k==2||k==3
theorem Z4b(p:Nat->Bool):∀(l:bZ) (h:sp p l<l.length),p l[sp p l].toNat=false
 |[],h=>by simp[sp]at h
 |c::r,h=>by
  cases b:p c.toNat
  · simp[sp,b]
  · have a:sp p (c::r)=sp p r+1:=by simp[sp,b]
    simp only[a,List.getElem_cons_succ];rw[a]at h;exact Z4b p r (by simpa using h)
theorem K9b(p:Nat->Bool):∀(l:bZ) (k:Nat) (h:k<l.length),k<sp p l->p l[k].toNat=true
 |[],k,h,_=>by simp at h
 |c::r,0,_,b=>by
  cases a:p c.toNat
  · simp[sp,a]at b
  · simpa using a
 |c::r,k+1,h,b=>by
  cases a:p c.toNat
  · simp[sp,a]at b
  · simp only[sp,a,if_true]at b;simpa using K9b p r k (by simpa using h) (by omega)
structure V8d(l:bZ)(r:Int×bZ×Nat):Prop where
 le:r.2.2<=l.length
 size:r.2.2=r.2.1.length+if r.1=4 then 2 else 0
 kind:r.1≠6
 name:r.1=1\/r.1=2->(∀h:0<l.length,let' l[0].toNat=true)/\(∀h:r.2.2<l.length,nam l[r.2.2].toNat=false)
 num:r.1=3->(∀h:0<l.length,dig l[0].toNat=true)/\(∀h:r.2.2<l.length,dig l[r.2.2].toNat=false)
theorem H1d(l:bZ)(b:(firstQ l).2.2≠0):V8d l (firstQ l):=by
 have a:=V1b l;unfold firstQ at b a⊢;cases e:l.head? with
 |none=>rw[e]at b;simp at b
 |some c=>
  rw[e]at b a;simp only at b a⊢;have j:∀h:0<l.length,l[0]=c:=by
   intro h;rw[List.head?_eq_getElem?,gQ h]at e;exact bY e
  cases g:dig c.toNat
  · rw[g]at b a;cases i:let' c.toNat
    · rw[i]at b a;by_cases k:c.toNat=34
      · rw[rY k]at b a⊢;simp only[rZ,if_false]at b a⊢;unfold text at b a⊢;split at b
        · simp at b
        · rename_i d;rw[yY d]at a⊢;have f:sp txt l.tail+2<=l.length:=a;refine⟨a, ?_,by simp,by simp,by simp⟩
          simp;omega
      · rw[yY k]at b a⊢;simp only[rZ,if_false]at b a⊢;unfold T3a at b a⊢;split at b
        · simp at b
        · rename_i d;rw[yY d]at a⊢;have f:I7 l A1a<=l.length:=a;refine⟨a, ?_,by simp,by simp,by simp⟩
          simp;omega
    · rw[i]at b a;simp only[rZ,if_false,if_true]at b a⊢;unfold name at b a⊢;split at b
      · simp at b
      · rename_i d;rw[yY d]at a⊢;have f:sp nam l<=l.length:=a;refine⟨a, ?_, ?_, ?_, ?_⟩
        · cases X9 (l.take (sp nam l))<;>simp<;>omega
        · cases X9 (l.take (sp nam l))<;>simp
        · intro _;exact⟨λh=>by rw[j h];exact i,λh=>Z4b nam l h⟩
        · cases X9 (l.take (sp nam l))<;>simp
  · rw[g]at b a;simp only[if_true]at b a⊢;unfold C4a at b a⊢;split at b
    · simp at b
    · rename_i d;rw[yY d]at a⊢;have f:sp dig l<=l.length:=a;refine⟨a, ?_,by simp,by simp, ?_⟩
      · simp;omega
      · intro _;exact⟨λh=>by rw[j h];exact g,λh=>Z4b dig l h⟩
theorem V9a:∀(f:Nat) (l:bZ) (a:Nat) (c:List Tk),l.length - a<f->a<=l.length->(∀t∈c,t.kind≠6)->c.length<=1000->(J5 f l a c).2.1=0->
 ∃g,(J5 f l a c).1=g++[⟨6,[],l.length⟩]/\(∀t∈g,t.kind≠6)/\g.length<=1000
 |0,l,a,c,m,_,_,_,_=>by omega
 |f+1,l,a,c,m,p,j,o,b=>by
  simp only[J5]at b⊢;by_cases h:l.length<=a+sp blank (l.drop a)
  · rw[rY h];exact⟨c,rfl,j,o⟩
  · rw[yY h]at b⊢;by_cases e:(firstQ (l.drop (a+sp blank (l.drop a)))).2.2=0
    · rw[rY e]at b;simp at b
    · rw[yY e]at b⊢;by_cases i:c.length=1000
      · rw[rY i]at b;simp at b
      · rw[yY i]at b⊢;have k:=H1d (l.drop (a+sp blank (l.drop a))) e;have n:=k.le;rw[List.length_drop]at n;refine V9a f l _ _ (by omega) (by omega) ?_ (by simp;omega) b;intro t d;rw[qW]at d;rcases d with d|d
        · exact j t d
        · simp only[zW]at d;subst d;exact k.kind
theorem A3c(l:bZ)(h:(F4 l).2.1=0):∃a,(F4 l).1=a++[⟨6,[],l.length⟩]/\(∀t∈a,t.kind≠6)/\a.length<=1000:=by
 unfold F4 at h⊢;split at h
 · simp at h
 · rename_i b;rw[yY b];exact V9a (l.length+1) l 0 [] (by omega) (by omega) (by simp) (by simp) h
theorem H2b(l:bZ)(h:(F4 l).2.1=0):(F4 l).1.length<=1001/\0<(F4 l).1.length/\∀i,i<(F4 l).1.length->((tk (F4 l).1 i).kind=6 ↔ i+1=(F4 l).1.length):=by
 obtain⟨a,c,d,j⟩:=A3c l h;rw[c];refine⟨by simp;omega,by simp,λi f=> ?_⟩;simp only[qQ,jQ,xQ]at f⊢;by_cases b:i<a.length
 · have e:tk (a++[⟨6,[],l.length⟩]) i=a[i]:=by
    unfold tk List.getD;rw[List.getElem?_append_left b,gQ b];rfl
   rw[e];have:=d a[i] (mQ _);constructor
   · intro h;exact absurd h this
   · omega
 · have g:i=a.length:=by omega
   subst g;simp[tk,List.getD]
def V3a(l:bZ):(Int×Int) ⊕ List Ty->Prop
 | .inl (b,p)=>b≠0/\((F4 l).2.1=b/\((F4 l).2.2:Int)=p\/(F4 l).2.1=0/\(Ev (F4 l).1 (λr=>r.typ 0 ⟨0,[],[]⟩) (.fail b p)\/
  ∃a x,Ev (F4 l).1 (λr=>r.typ 0 ⟨0,[],[]⟩) (.ok a x)/\(if (tk (F4 l).1 a.i).kind=6 then (1200<a.N.length\/300<a.T.length)/\b=2/\p=0 else b=1/\p=((tk (F4 l).1 a.i).at':Int))))
 | .inr T=>(F4 l).2.1=0/\∃a x,Ev (F4 l).1 (λr=>r.typ 0 ⟨0,[],[]⟩) (.ok a x)/\(tk (F4 l).1 a.i).kind=6/\a.N.length<=1200/\a.T.length<=300/\T=a.T
inductive Tr where
 |nd (k:Int) (ns:List bZ) (ks:List Tr)
def Tr.k:Tr->Int
 | .nd k _ _=>k
def Tr.ns:Tr->List bZ
 | .nd _ a _=>a
def Tr.ks:Tr->List Tr
 | .nd _ _ a=>a
theorem Tr.ind{P:Tr->Prop}(h:∀k b a,(∀x∈a,P x)->P (.nd k b a)):∀t,P t
 | .nd k b a=>h k b a (λx _=>Tr.ind h x)
def U2(k:Int):bZ:=
 if k=1 then [110,117,109] else if k=2 then [98,111,111,108] else if k=3 then [116,101,120,116] else if k=4 then [110,117,108,108] else if k=6 then [117,110,107,110,111,119,110] else [97,110,121]
mutual
def txt':Tr->bZ
 | .nd k a b=>
  if k=7 then [123]++N4a a b++(if a.length=0 then [] else [32])++[125]
  else if k=8 then [91]++N0c b++[93]
  else if k=9 then Y1b b
  else if k=10 then C2a true b
  else U2 k
def N0c:List Tr->bZ
 |[]=>[]
 |t::_=>txt' t
def Y1b:List Tr->bZ
 |[]=>[]
 |t::r=>[40]++D1a true r++[41,32,61,62,32]++txt' t
def D1a:Bool->List Tr->bZ
 |_,[]=>[]
 |c,t::r=>(if c then [] else [44,32])++txt' t++D1a false r
def C2a:Bool->List Tr->bZ
 |_,[]=>[]
 |c,t::r=>(if c then [] else [32,124,32])++(if t.k=10\/t.k=9/\r.length≠0 then [40]++txt' t++[41] else txt' t)++C2a false r
def N4a:List bZ->List Tr->bZ
 |_,[]=>[]
 |a,t::r=>[32]++a.headD []++[58,32]++txt' t++[59]++N4a a.tail r
end
abbrev TT:=Int×bZ
def sgQ(x:bZ):TT:=(5,x)
mutual
def tks:Tr->List TT
 | .nd k b a=>
  if k=7 then sgQ [123]::(A4a b a++[sgQ [125]])
  else if k=8 then sgQ [91]::(U9c a++[sgQ [93]])
  else if k=9 then N3c a
  else if k=10 then M6 true a
  else [(2,U2 k)]
def U9c:List Tr->List TT
 |[]=>[]
 |t::_=>tks t
def N3c:List Tr->List TT
 |[]=>[]
 |t::r=>sgQ [40]::(N8 true r++sgQ [41]::sgQ [61,62]::tks t)
def N8:Bool->List Tr->List TT
 |_,[]=>[]
 |c,t::r=>(if c then [] else [sgQ [44]])++tks t++N8 false r
def M6:Bool->List Tr->List TT
 |_,[]=>[]
 |c,t::r=>(if c then [] else [sgQ [124]])++(if t.k=10\/t.k=9/\r.length≠0 then sgQ [40]::(tks t++[sgQ [41]]) else tks t)++M6 false r
def A4a:List bZ->List Tr->List TT
 |_,[]=>[]
 |b,t::r=>(1,b.headD [])::sgQ [58]::(tks t++sgQ [59]::A4a b.tail r)
end
def S4(a:bZ):Prop:=a≠[]/\a.length<=20/\X9 a=false/\(∀c∈a,nam c.toNat=true)/\(∀c,a.head? =some c->let' c.toNat=true)
inductive Wf:Tr->Prop
 |plain (k:Int):1<=k->k<=6->Wf (.nd k [] [])
 |obj (ns:List bZ) (ks:List Tr):ns.length=ks.length->ns.Nodup->(∀n∈ns,S4 n)->(∀x∈ks,Wf x)->Wf (.nd 7 ns ks)
 |arr (t:Tr):Wf t->Wf (.nd 8 [] [t])
 |fn (t:Tr) (ps:List Tr):Wf t->(∀x∈ps,Wf x)->Wf (.nd 9 [] (t::ps))
 |uni (ks:List Tr):2<=ks.length->(∀x∈ks,Wf x)->Wf (.nd 10 [] ks)
/-! ### Tags -/
/-! ### What F2 -/
def J1(a:bZ):List bZ->List Tr->Option Tr
 |n::c,t::b=>if n=a then some t else J1 a c b
 |_,_=>none
def Q8:Nat->Tr->Tr->Bool
 |0,_,_=>false
 |f+1,a,b=>
  if a.k=5\/b.k=5\/b.k=6 then true
  else if a.k=10 then a.ks.all λx=>Q8 f x b
  else if b.k=10 then b.ks.any λy=>Q8 f a y
  else if a.k≠b.k then false
  else if a.k=7 then (b.ns.zip b.ks).all λp=>match J1 p.1 a.ns a.ks with
   |none=>false
   |some x=>Q8 f x p.2
  else if a.k=8 then match a.ks,b.ks with
   |x::_,y::_=>Q8 f x y
   |_,_=>false
  else if a.k=9 then match a.ks,b.ks with
   |x::c,y::d=>decide (c.length<=d.length) && ((c.zip d).all λp=>Q8 f p.1 p.2||Q8 f p.2 p.1) && Q8 f x y
   |_,_=>false
  else true
mutual
def sz:Tr->Nat
 | .nd _ _ a=>szL a+1
def szL:List Tr->Nat
 |[]=>0
 |t::r=>sz t+szL r
end
theorem V5c:∀{a:List Tr} {x:Tr},x∈a->sz x<=szL a
 |t::r,x,h=>by
  rcases jW.1 h with rfl|h
  · simp[szL]
  · have:=V5c h;simp only[szL];omega
theorem T4{t x:Tr}(h:x∈t.ks):sz x<sz t:=by
 obtain⟨k,b,a⟩:=t;have:=V5c h;simp only[sz,Tr.ks]at *;omega
theorem K6b(t:Tr):0<sz t:=by obtain⟨k,b,a⟩:=t;simp[sz]
theorem C0a{c:bZ}:∀{b:List bZ} {a:List Tr} {t:Tr},J1 c b a=some t->t∈a
 |[],_,_,h=>by simp[J1]at h
 |_::_,[],_,h=>by simp[J1]at h
 |n::b,x::a,t,h=>by
  simp only[J1]at h;split at h
  · simp only[zQ]at h;simp[h]
  · exact List.mem_cons_of_mem _ (C0a h)
theorem U8:∀(f g:Nat) (a b:Tr),sz a+sz b<f->sz a+sz b<g->Q8 f a b=Q8 g a b
 |0,_,_,_,h,_=>by omega
 |_,0,_,_,_,h=>by omega
 |f+1,g+1,a,b,G,H=>by
  have E:=K6b a;have F:=K6b b;simp only[Q8];have t:a.ks.all (λx=>Q8 f x b)=a.ks.all (λx=>Q8 g x b):=by
   rw[Bool.eq_iff_iff,List.all_eq_true,List.all_eq_true];exact forall_congr' λx=>forall_congr' λs=>by have:=T4 s;rw[U8 f g x b (by omega) (by omega)]
  have u:b.ks.any (λy=>Q8 f a y)=b.ks.any (λy=>Q8 g a y):=by
   rw[Bool.eq_iff_iff,List.any_eq_true,List.any_eq_true];refine exists_congr λy=> ?_;constructor
   · rintro⟨e,h⟩;have:=T4 e;exact⟨e,by rw[<-U8 f g a y (by omega) (by omega)];exact h⟩
   · rintro⟨e,h⟩;have:=T4 e;exact⟨e,by rw[U8 f g a y (by omega) (by omega)];exact h⟩
  have v:((b.ns.zip b.ks).all λp=>match J1 p.1 a.ns a.ks with|none=>false|some x=>Q8 f x p.2)=((b.ns.zip b.ks).all λp=>match J1 p.1 a.ns a.ks with|none=>false|some x=>Q8 g x p.2):=by
   rw[Bool.eq_iff_iff,List.all_eq_true,List.all_eq_true];refine forall_congr' λp=>forall_congr' λk=> ?_;have e:=T4 (List.of_mem_zip k).2;cases h:J1 p.1 a.ns a.ks with
   |none=>simp
   |some x=>
    have s:=T4 (C0a h);simp only;rw[U8 f g x p.2 (by omega) (by omega)]
  rw[t,u,v];obtain⟨m,n,i⟩:=a;obtain⟨o,q,j⟩:=b;simp only[Tr.k,Tr.ns,Tr.ks]at *;have w:∀(c d:List Tr),(∀x∈c,x∈i)->(∀y∈d,y∈j)->((c.zip d).all λp=>Q8 f p.1 p.2||Q8 f p.2 p.1)=((c.zip d).all λp=>Q8 g p.1 p.2||Q8 g p.2 p.1):=by
   intro c d C D;rw[Bool.eq_iff_iff,List.all_eq_true,List.all_eq_true];refine forall_congr' λp=>forall_congr' λk=> ?_;have r:=List.of_mem_zip k;have A:=T4 (t:= .nd m n i) (C _ r.1);have B:=T4 (t:= .nd o q j) (D _ r.2);rw[U8 f g p.1 p.2 (by omega) (by omega),U8 f g p.2 p.1 (by omega) (by omega)]
  cases i with
  |nil=>rfl
  |cons x c=>
   cases j with
   |nil=>rfl
   |cons y d=>
    have A:=T4 (t:= .nd m n (x::c)) (x:=x) (by simp[Tr.ks]);have B:=T4 (t:= .nd o q (y::d)) (x:=y) (by simp[Tr.ks]);simp only;rw[U8 f g x y (by omega) (by omega),w c d (λz l=>by simp[l]) (λz l=>by simp[l])]
termination_by f=>f
def F2(a b:Tr):Bool:=Q8 (sz a+sz b+1) a b
theorem B2a(f:Nat)(a b:Tr)(h:sz a+sz b<f):Q8 f a b=F2 a b:=U8 _ _ _ _ h (by omega)
theorem F3a(a b:Tr):F2 a b=
 if a.k=5\/b.k=5\/b.k=6 then true
 else if a.k=10 then a.ks.all λx=>F2 x b
 else if b.k=10 then b.ks.any λy=>F2 a y
 else if a.k≠b.k then false
 else if a.k=7 then (b.ns.zip b.ks).all λp=>match J1 p.1 a.ns a.ks with
  |none=>false
  |some x=>F2 x p.2
 else if a.k=8 then match a.ks,b.ks with
  |x::_,y::_=>F2 x y
  |_,_=>false
 else if a.k=9 then match a.ks,b.ks with
  |x::c,y::d=>decide (c.length<=d.length) && ((c.zip d).all λp=>F2 p.1 p.2||F2 p.2 p.1) && F2 x y
  |_,_=>false
 else true:=by
 have D:=K6b b;have C:=K6b a;rw[show F2 a b=Q8 (sz a+sz b+1) a b from rfl,Q8];have r:a.ks.all (λx=>Q8 (sz a+sz b) x b)=a.ks.all (λx=>F2 x b):=by
  rw[Bool.eq_iff_iff,List.all_eq_true,List.all_eq_true];exact forall_congr' λx=>forall_congr' λq=>by have:=T4 q;rw[B2a _ x b (by omega)]
 have s:b.ks.any (λy=>Q8 (sz a+sz b) a y)=b.ks.any (λy=>F2 a y):=by
  rw[Bool.eq_iff_iff,List.any_eq_true,List.any_eq_true];refine exists_congr λy=> ?_;constructor
  · rintro⟨e,h⟩;have:=T4 e;exact⟨e,by rw[<-B2a (sz a+sz b) a y (by omega)];exact h⟩
  · rintro⟨e,h⟩;have:=T4 e;exact⟨e,by rw[B2a (sz a+sz b) a y (by omega)];exact h⟩
 have t:((b.ns.zip b.ks).all λp=>match J1 p.1 a.ns a.ks with|none=>false|some x=>Q8 (sz a+sz b) x p.2)=((b.ns.zip b.ks).all λp=>match J1 p.1 a.ns a.ks with|none=>false|some x=>F2 x p.2):=by
  rw[Bool.eq_iff_iff,List.all_eq_true,List.all_eq_true];refine forall_congr' λp=>forall_congr' λm=> ?_;have e:=T4 (List.of_mem_zip m).2;cases h:J1 p.1 a.ns a.ks with
  |none=>simp
  |some x=>
   have q:=T4 (C0a h);simp only;rw[B2a _ x p.2 (by omega)]
 rw[r,s,t];obtain⟨i,j,f⟩:=a;obtain⟨k,l,g⟩:=b;simp only[Tr.k,Tr.ns,Tr.ks]at *;have u:∀(c d:List Tr),(∀x∈c,x∈f)->(∀y∈d,y∈g)->((c.zip d).all λp=>Q8 (sz (.nd i j f)+sz (.nd k l g)) p.1 p.2||Q8 (sz (.nd i j f)+sz (.nd k l g)) p.2 p.1)=((c.zip d).all λp=>F2 p.1 p.2||F2 p.2 p.1):=by
  intro c d A B;rw[Bool.eq_iff_iff,List.all_eq_true,List.all_eq_true];refine forall_congr' λp=>forall_congr' λm=> ?_;have o:=List.of_mem_zip m;have v:=T4 (t:= .nd i j f) (A _ o.1);have w:=T4 (t:= .nd k l g) (B _ o.2);rw[B2a _ p.1 p.2 (by omega),B2a _ p.2 p.1 (by omega)]
 cases f with
 |nil=>rfl
 |cons x c=>
  cases g with
  |nil=>rfl
  |cons y d=>
   have v:=T4 (t:= .nd i j (x::c)) (x:=x) (by simp[Tr.ks]);have w:=T4 (t:= .nd k l (y::d)) (x:=y) (by simp[Tr.ks]);simp only;rw[B2a _ x y (by omega),u c d (λz n=>by simp[n]) (λz n=>by simp[n])]
def isS(l:List TT)(m:bZ):Bool:=match l with
 |[]=>false
 |(k,x)::_=>(k==5||k==2) && has [m] x
def hdK(l:List TT):Int:=match l with
 |[]=>6
 |(k,_)::_=>k
def hdX(l:List TT):bZ:=match l with
 |[]=>[]
 |(_,x)::_=>x
mutual
def rdT:Nat->List TT->Option (Tr×List TT)
 |0,_=>none
 |f+1,l=>rdN f l
def rdN:Nat->List TT->Option (Tr×List TT)
 |0,_=>none
 |f+1,l=>(rdM f l).bind λp=>if isS p.2 [124] then (rdU f p.2 [p.1]).bind λq=>some (.nd 10 [] q.1,q.2) else some p
def rdU:Nat->List TT->List Tr->Option (List Tr×List TT)
 |0,_,_=>none
 |f+1,l,a=>if isS l [124] then (rdM f l.tail).bind λp=>rdU f p.2 (a++[p.1]) else some (a,l)
def rdM:Nat->List TT->Option (Tr×List TT)
 |0,_=>none
 |f+1,l=>
  if isS l [123] then rdO f l.tail [] []
  else if isS l [91] then (rdT f l.tail).bind λp=>if isS p.2 [93] then some (.nd 8 [] [p.1],p.2.tail) else none
  else if isS l [40] then rdB f l.tail
  else if hdK l=2/\H7 (hdX l)≠0 then some (.nd (H7 (hdX l)) [] [],l.tail) else none
def rdO:Nat->List TT->List bZ->List Tr->Option (Tr×List TT)
 |0,_,_,_=>none
 |f+1,l,c,b=>
  if isS l [125] then some (.nd 7 c b,l.tail)
  else if hdK l=1 then if isS l.tail [58] then (rdT f l.tail.tail).bind λp=>if isS p.2 [59] then rdO f p.2.tail (c++[hdX l]) (b++[p.1]) else none else none else none
def rdB:Nat->List TT->Option (Tr×List TT)
 |0,_=>none
 |f+1,l=>(rdL f l []).bind λp=>
  if isS p.2 [61,62] then (rdT f p.2.tail).bind λq=>some (.nd 9 [] (q.1::p.1),q.2)
  else match p.1 with
   |[t]=>some (t,p.2)
   |_=>none
def rdL:Nat->List TT->List Tr->Option (List Tr×List TT)
 |0,_,_=>none
 |f+1,l,a=>
  if isS l [41] then some (a,l.tail)
  else if a.length=0 then (rdT f l).bind λp=>rdL f p.2 (a++[p.1])
  else if isS l [44] then (rdT f l.tail).bind λp=>rdL f p.2 (a++[p.1]) else none
end
def Evn{a:Type}(c:Nat->Option a)(o:a):Prop:=∃b,∀f,b<=f->c f=some o
theorem Evn.succ{b:Type}{φ c:Nat->Option b}{o:b}(h:Evn φ o)(e:∀f,c (f+1)=φ f):Evn c o:=by
 obtain⟨a,d⟩:=h;refine⟨a+1,λf i=> ?_⟩;obtain⟨g,rfl⟩:∃g,f=g+1:=⟨f - 1,by omega⟩;rw[e];exact d g (by omega)
theorem Evn.bind{c e:Type}{d:Nat->Option c}{k:Nat->c->Option e}{x:c}{o:e}(h:Evn d x)(g:Evn (λf=>k f x) o):Evn (λf=>(d f).bind (k f)) o:=by
 obtain⟨a,i⟩:=h;obtain⟨b,j⟩:=g;refine⟨a+b,λf l=> ?_⟩;show (d f).bind (k f)=some o;rw[i f (by omega)];exact j f (by omega)
theorem Evn.pure{a:Type}{o:a}:Evn (λ_=>some o) o:=⟨0,λ_ _=>rfl⟩
theorem Evn.eq{b:Type}{φ ψ:Nat->Option b}{o:b}(h:Evn φ o)(e:∀f,ψ f=φ f):Evn ψ o:=by
 obtain⟨a,c⟩:=h;exact⟨a,λf d=>(e f).trans (c f d)⟩
def Fol(r:List TT):Prop:=isS r [124]=false/\isS r [61,62]=false
def Rt(t:Tr):Prop:=∀r,Fol r->Evn (λf=>rdT f (tks t++r)) (t,r)
def Rm(t:Tr)(a:Bool):Prop:=∀r,isS r [61,62]=false->(a=false->isS r [124]=false)->Evn (λf=>rdM f (tks t++r)) (t,r)
theorem S4a(k:Int)(a:1<=k)(b:k<=6):H7 (U2 k)=k:=by
 have:k=1\/k=2\/k=3\/k=4\/k=5\/k=6:=by omega
 rcases this with rfl|rfl|rfl|rfl|rfl|rfl<;>decide
theorem Q0a{t:Tr}{b:Bool}(h:Rm t b):Rt t:=by
 intro r a;refine Evn.succ (φ:=λf=>rdN f (tks t++r)) ?_ (λf=>by rw[rdT]);refine Evn.succ (φ:=λf=>(rdM f (tks t++r)).bind λp=>if isS p.2 [124] then (rdU f p.2 [p.1]).bind λq=>some (.nd 10 [] q.1,q.2) else some p) ?_ (λf=>by rw[rdN]);exact Evn.bind (h r a.2 λ_=>a.1) (Evn.pure.eq λf=>by simp[a.1])
theorem W7c(k:Int)(b:1<=k)(c:k<=6):Rm (.nd k [] []) true:=by
 intro r _ _;have a:k=1\/k=2\/k=3\/k=4\/k=5\/k=6:=by omega
 have e:tks (.nd k [] [])=[(2,U2 k)]:=by
  rw[tks,yY (by omega),yY (by omega),yY (by omega),yY (by omega)]
 refine Evn.succ (φ:=λ_=>some (.nd k [] [],r)) Evn.pure (λf=> ?_);rw[e,rdM];have d:=S4a k b c;have g:isS ([(2,U2 k)]++r) [123]=false:=by rcases a with rfl|rfl|rfl|rfl|rfl|rfl<;>rfl
 have h:isS ([(2,U2 k)]++r) [91]=false:=by rcases a with rfl|rfl|rfl|rfl|rfl|rfl<;>rfl
 have i:isS ([(2,U2 k)]++r) [40]=false:=by rcases a with rfl|rfl|rfl|rfl|rfl|rfl<;>rfl
 rw[g,h,i];simp only[rZ,if_false,List.singleton_append,hdK,hdX,List.tail_cons];rw[d,rY ⟨trivial,by omega⟩]
theorem R5b(h:List bZ):∀(a:List Tr) (b:List bZ) (d:List bZ) (c:List Tr) (r:List TT),b.length=a.length->(∀x∈a,Rt x)->
 Evn (λf=>rdO f (A4a b a++sgQ [125]::r) d c) (.nd 7 (d++b) (c++a),r)
 |[],b,d,c,r,e,_=>by
  have:b=[]:=iY (by simpa using e);subst this;refine Evn.succ (φ:=λ_=>some (.nd 7 d c,r)) (by simpa using Evn.pure) (λf=> ?_);simp only[A4a,lY];rw[rdO];simp[isS,sgQ,has]
 |t::a,[],_,_,_,e,_=>by simp at e
 |t::a,n::b,d,c,r,e,g=>by
  have i:=R5b h a b (d++[n]) (c++[t]) r (by simpa using e) (λx k=>g x (by simp[k]));have j:=g t (by simp) (sgQ [59]::(A4a b a++sgQ [125]::r)) ⟨by simp[isS,sgQ,has],by simp[isS,sgQ,has]⟩;refine Evn.succ (φ:=λf=>(rdT f (tks t++sgQ [59]::(A4a b a++sgQ [125]::r))).bind λp=>if isS p.2 [59] then rdO f p.2.tail (d++[n]) (c++[p.1]) else none) ?_ (λf=> ?_)
  · refine Evn.bind j ?_;have:=i;simp only[kZ,List.singleton_append]at this;exact this.eq λf=>by simp[isS,sgQ,has]
  · rw[rdO];simp[A4a,isS,sgQ,has,hdK,hdX]
theorem Z7d(b:List bZ)(a:List Tr)(c:b.length=a.length)(d:∀x∈a,Rt x):Rm (.nd 7 b a) true:=by
 intro r _ _;refine Evn.succ (φ:=λf=>rdO f (A4a b a++sgQ [125]::r) [] []) (by simpa using R5b [] a b [] [] r c d) (λf=> ?_);rw[rdM];simp[tks,isS,sgQ,has]
theorem Z8d(t:Tr)(a:Rt t):Rm (.nd 8 [] [t]) true:=by
 intro r _ _;refine Evn.succ (φ:=λf=>(rdT f (tks t++sgQ [93]::r)).bind λp=>if isS p.2 [93] then some (.nd 8 [] [p.1],p.2.tail) else none) ?_ (λf=> ?_)
 · exact Evn.bind (a _ ⟨by simp[isS,sgQ,has],by simp[isS,sgQ,has]⟩) (Evn.pure.eq λf=>by simp[isS,sgQ,has])
 · rw[rdM];simp[tks,U9c,isS,sgQ,has]
theorem N2c(t:Tr)(h:Wf t):∀r,isS (tks t++r) [41]=false:=by
 induction h with
 |plain k f b=>
  intro r;have e:tks (.nd k [] [])=[(2,U2 k)]:=by
   rw[tks,yY (by omega),yY (by omega),yY (by omega),yY (by omega)]
  rw[e];have c:k=1\/k=2\/k=3\/k=4\/k=5\/k=6:=by omega
  rcases c with rfl|rfl|rfl|rfl|rfl|rfl<;>rfl
 |obj g a _ _ _ _ _=>intro r;simp[tks,isS,sgQ,has]
 |arr t _ _=>intro r;simp[tks,isS,sgQ,has]
 |fn t i _ _ _ _=>intro r;simp[tks,N3c,isS,sgQ,has]
 |uni a b _ d=>
  intro r;cases a with
  |nil=>simp at b
  |cons t a=>
   simp only[tks,M6];simp only[show¬((10:Int)=7) from by decide,show¬((10:Int)=8) from by decide,show¬((10:Int)=9) from by decide,if_false,if_true,lY];split
   · simp[isS,sgQ,has]
   · rw[kZ];exact d t (by simp) _
theorem A2b:∀(b a:List Tr) (r:List TT),(∀x∈b,Rt x/\Wf x)->
 Evn (λf=>rdL f (N8 (decide (a.length=0)) b++sgQ [41]::r) a) (a++b,r)
 |[],a,r,_=>by
  refine Evn.succ (φ:=λ_=>some (a,r)) (by simpa using Evn.pure) (λf=> ?_);rw[rdL];simp[N8,isS,sgQ,has]
 |t::b,a,r,c=>by
  have e:=A2b b (a++[t]) r (λx k=>c x (by simp[k]));have i:decide ((a++[t]).length=0)=false:=by simp
  rw[i]at e;have j:Fol (N8 false b++sgQ [41]::r):=by
   cases b with
   |nil=>exact⟨by simp[N8,isS,sgQ,has],by simp[N8,isS,sgQ,has]⟩
   |cons u l=>exact⟨by simp[N8,isS,sgQ,has],by simp[N8,isS,sgQ,has]⟩
  have g:=(c t (by simp)).1 _ j;have h:=N2c t (c t (by simp)).2;refine Evn.succ (φ:=λf=>(rdT f (tks t++(N8 false b++sgQ [41]::r))).bind λp=>rdL f p.2 (a++[p.1])) ?_ (λf=> ?_)
  · refine Evn.bind g ?_;simpa using e
  · rw[rdL];by_cases d:a.length=0
    · simp[d,N8,h]
    · simp[d,N8,isS,sgQ,has]
theorem H3e(t:Tr)(a:List Tr)(h:Rt t)(g:∀x∈a,Rt x/\Wf x):Rm (.nd 9 [] (t::a)) false:=by
 intro r b c;have d:=A2b a [] (sgQ [61,62]::(tks t++r)) g;have e:=h r ⟨c rfl,b⟩;refine Evn.succ (φ:=λf=>rdB f (N8 true a++sgQ [41]::sgQ [61,62]::(tks t++r))) ?_ (λf=> ?_)
 · refine Evn.succ (φ:=λf=>(rdL f (N8 true a++sgQ [41]::sgQ [61,62]::(tks t++r)) []).bind λp=>
    if isS p.2 [61,62] then (rdT f p.2.tail).bind λq=>some (.nd 9 [] (q.1::p.1),q.2)
    else match p.1 with
     |[t]=>some (t,p.2)
     |_=>none) ?_ (λf=>by rw[rdB])
   refine Evn.bind (by simpa using d) ?_;refine Evn.eq (φ:=λf=>(rdT f (tks t++r)).bind λq=>some (.nd 9 [] (q.1::a),q.2)) ?_ (λf=>by simp[isS,sgQ,has]);exact Evn.bind e Evn.pure
 · rw[rdM];simp[tks,N3c,isS,sgQ,has]
theorem R1b(t:Tr)(d:Rt t)(e:Wf t)(r:List TT)(c:isS r [61,62]=false):Evn (λf=>rdM f (sgQ [40]::(tks t++sgQ [41]::r))) (t,r):=by
 have b:=A2b [t] [] r (λx a=>by simp at a;subst a;exact⟨d,e⟩);refine Evn.succ (φ:=λf=>rdB f (tks t++sgQ [41]::r)) ?_ (λf=> ?_)
 · refine Evn.succ (φ:=λf=>(rdL f (tks t++sgQ [41]::r) []).bind λp=>
    if isS p.2 [61,62] then (rdT f p.2.tail).bind λq=>some (.nd 9 [] (q.1::p.1),q.2)
    else match p.1 with
     |[t]=>some (t,p.2)
     |_=>none) ?_ (λf=>by rw[rdB])
   refine Evn.bind (x:=([t],r)) (by simpa[N8]using b) ?_;exact Evn.pure.eq λf=>by simp[c]
 · rw[rdM];simp[isS,sgQ,has]
def one(t:Tr)(a:Bool):List TT:=if t.k=10\/t.k=9/\a=false then sgQ [40]::(tks t++[sgQ [41]]) else tks t
theorem W8c(t:Tr)(j:Wf t)(i:Rt t)(g:t.k≠10->Rm t (decide (t.k≠9)))(a:Bool)(r:List TT)(b:isS r [61,62]=false)(c:a=true->isS r [124]=false):Evn (λf=>rdM f (one t a++r)) (t,r):=by
 unfold one;split
 · simpa using R1b t i j r b
 · rename_i h;rw[not_or]at h;refine g h.1 r b (λe=> ?_);have d:t.k=9:=by simpa using e
   cases a
   · exact absurd ⟨d,rfl⟩ h.2
   · exact c rfl
theorem R4b:∀(a b:List Tr) (r:List TT),Fol r->(∀x∈a,Wf x/\Rt x/\(x.k≠10->Rm x (decide (x.k≠9))))->
 Evn (λf=>rdU f (M6 false a++r) b) (b++a,r)
 |[],b,r,c,_=>by
  refine Evn.succ (φ:=λ_=>some (b,r)) (by simpa using Evn.pure) (λf=> ?_);rw[rdU];simp[M6,c.1]
 |t::a,b,r,c,d=>by
  have g:=R4b a (b++[t]) r c (λx k=>d x (by simp[k]));have i:isS (M6 false a++r) [61,62]=false:=by
   cases a with
   |nil=>simpa[M6]using c.2
   |cons u l=>simp[M6,isS,sgQ,has]
  have h:=W8c t (d t (by simp)).1 (d t (by simp)).2.1 (d t (by simp)).2.2 (decide (a.length=0)) (M6 false a++r) i (λj=>by
   have:a=[]:=iY (by simpa using j);subst this;simpa[M6]using c.1)
  have e:M6 false (t::a)++r=sgQ [124]::(one t (decide (a.length=0))++(M6 false a++r)):=by
   simp[M6,one]
  rw[e];refine Evn.succ (φ:=λf=>(rdM f (one t (decide (a.length=0))++(M6 false a++r))).bind λp=>rdU f p.2 (b++[p.1])) ?_ (λf=> ?_)
  · refine Evn.bind h ?_;simpa using g
  · rw[rdU];simp[isS,sgQ,has]
theorem Z6d(c:List Tr)(g:2<=c.length)(b:∀x∈c,Wf x/\Rt x/\(x.k≠10->Rm x (decide (x.k≠9)))):Rt (.nd 10 [] c):=by
 intro r j;match c,g,b with
 |t::u::a,_,b=>
  have h:=R4b (u::a) [t] r j (λx d=>b x (by simp at d⊢;exact .inr d));have i:=W8c t (b t (by simp)).1 (b t (by simp)).2.1 (b t (by simp)).2.2 false (M6 false (u::a)++r) (by simp[M6,isS,sgQ,has]) (by simp);have e:tks (.nd 10 [] (t::u::a))++r=one t false++(M6 false (u::a)++r):=by
   simp[tks,M6,one]
  rw[e];refine Evn.succ (φ:=λf=>rdN f (one t false++(M6 false (u::a)++r))) ?_ (λf=>by rw[rdT]);refine Evn.succ (φ:=λf=>(rdM f (one t false++(M6 false (u::a)++r))).bind λp=>if isS p.2 [124] then (rdU f p.2 [p.1]).bind λq=>some (.nd 10 [] q.1,q.2) else some p) ?_ (λf=>by rw[rdN]);refine Evn.bind i ?_;refine Evn.eq (φ:=λf=>(rdU f (M6 false (u::a)++r) [t]).bind λq=>some (Tr.nd 10 [] q.1,q.2)) ?_ (λf=>by simp[M6,isS,sgQ,has]);exact Evn.bind h Evn.pure
theorem rt(t:Tr)(h:Wf t):Rt t/\(t.k≠10->Rm t (decide (t.k≠9))):=by
 induction h with
 |plain k f c=>
  have h:=W7c k f c;have e:decide ((Tr.nd k [] []).k≠9)=true:=decide_eq_true (by show k≠9;omega);rw[e];exact⟨Q0a h,λ_=>h⟩
 |obj n d g _ _ _ b=>
  have h:=Z7d n d g (λx a=>(b x a).1);exact⟨Q0a h,λ_=>h⟩
 |arr t _ b=>
  have h:=Z8d t b.1;exact⟨Q0a h,λ_=>h⟩
 |fn t o _ i m l=>
  have h:=H3e t o m.1 (λx a=>⟨(l x a).1,i x a⟩);exact⟨Q0a h,λ_=>h⟩
 |uni d c j b=>
  exact⟨Z6d d c (λx a=>⟨j x a,b x a⟩),λh=>absurd rfl h⟩
def TyOk(t:Ty)(i:Nat):Prop:=
 (1<=t.kind/\t.kind<=6/\t.fields=[]/\t.list=[])\/
 (t.kind=7/\t.list=[]/\(t.fields.map (·.1)).Nodup/\∀p∈t.fields,S4 p.1/\0<=p.2/\p.2<i)\/
 (t.kind=8/\t.fields=[]/\t.list=[]/\0<=t.of'/\t.of'<i)\/
 (t.kind=9/\t.fields=[]/\0<=t.of'/\t.of'<i/\∀x∈t.list,0<=x/\x<i)\/
 (t.kind=10/\t.fields=[]/\2<=t.list.length/\∀x∈t.list,0<=x/\x<i)
def TsOk(T:List Ty):Prop:=∀i (h:i<T.length),TyOk T[i] i
theorem TyOk.fld{t:Ty}{i:Nat}(h:TyOk t i):∀p∈t.fields,0<=p.2/\p.2<i:=by
 intro p a;rcases h with ⟨_,_,h,_⟩|⟨_,_,_,h⟩|⟨_,h,_⟩|⟨_,h,_⟩|⟨_,h,_⟩
 · simp[h]at a
 · exact(h p a).2
 · simp[h]at a
 · simp[h]at a
 · simp[h]at a
theorem TyOk.lst{t:Ty}{i:Nat}(h:TyOk t i):∀x∈t.list,0<=x/\x<i:=by
 intro p a;rcases h with ⟨_,_,_,h⟩|⟨_,h,_⟩|⟨_,_,h,_⟩|⟨_,_,_,_,h⟩|⟨_,_,_,h⟩
 · simp[h]at a
 · simp[h]at a
 · simp[h]at a
 · exact h p a
 · exact h p a
theorem TyOk.of{t:Ty}{i:Nat}(h:TyOk t i)(a:t.kind=8\/t.kind=9):0<=t.of'/\t.of'<i:=by
 rcases h with h|h|h|h|h
 · omega
 · omega
 · exact h.2.2.2
 · exact⟨h.2.2.1,h.2.2.2.1⟩
 · omega
def ty0:Ty:=⟨0,[],[],0⟩
def trF(T:List Ty):Nat->Nat->Tr
 |0,_=> .nd 0 [] []
 |f+1,i=> .nd (T.getD i ty0).kind ((T.getD i ty0).fields.map (·.1))
  ((if (T.getD i ty0).kind=8\/(T.getD i ty0).kind=9 then [trF T f (T.getD i ty0).of'.toNat] else [])++((T.getD i ty0).fields.map λp=>trF T f p.2.toNat)++(T.getD i ty0).list.map λx=>trF T f x.toNat)
def tr(T:List Ty)(i:Nat):Tr:=trF T (i+1) i
theorem getD_atQ{T:List Ty}{i:Nat}(h:i<T.length):T.getD i ty0=T[i]:=by simp[h]
theorem H9a{t:Ty}{i:Nat}(c:TyOk t i)(g h:Nat->Tr)(e:∀j,j<i->g j=h j):
 (if t.kind=8\/t.kind=9 then [g t.of'.toNat] else [])++(t.fields.map λp=>g p.2.toNat)++(t.list.map λx=>g x.toNat)=(if t.kind=8\/t.kind=9 then [h t.of'.toNat] else [])++(t.fields.map λp=>h p.2.toNat)++(t.list.map λx=>h x.toNat):=by
 have d:t.fields.map (λp=>g p.2.toNat)=t.fields.map (λp=>h p.2.toNat):=List.map_congr_left λp b=>e _ (by have:=c.fld p b;omega);have f:t.list.map (λx=>g x.toNat)=t.list.map (λx=>h x.toNat):=List.map_congr_left λp b=>e _ (by have:=c.lst p b;omega);rw[d,f];by_cases a:t.kind=8\/t.kind=9
 · rw[rY a,rY a,e _ (by have:=c.of a;omega)]
 · rw[yY a,yY a]
theorem P2b{T:List Ty}(a:TsOk T):∀(f g i:Nat),i<T.length->i<f->i<g->trF T f i=trF T g i
 |0,_,_,_,h,_=>by omega
 |_,0,_,_,_,h=>by omega
 |f+1,g+1,i,b,c,d=>by
  simp only[trF,getD_atQ b];rw[H9a (a i b) (trF T f) (trF T g) (λj e=>P2b a f g j (by omega) (by omega) (by omega))]
theorem H0c{T X:List Ty}(b:TsOk T):∀(f i:Nat),i<T.length->trF (T++X) f i=trF T f i
 |0,_,_=>rfl
 |f+1,i,a=>by
  have e:(T++X).getD i ty0=T[i]:=by rw[getD_atQ (by simp;omega)];exact List.getElem_append_left a
  simp only[trF,getD_atQ a,e];rw[H9a (b i a) (trF (T++X) f) (trF T f) (λj c=>H0c b f j (by omega))]
theorem H3a{T:List Ty}(X:List Ty){i:Nat}(a:TsOk T)(b:i<T.length):tr (T++X) i=tr T i:=H0c a _ _ b
theorem Y0{T:List Ty}{i:Nat}(a:TsOk T)(b:i<T.length):tr T i= .nd T[i].kind (T[i].fields.map (·.1))
 ((if T[i].kind=8\/T[i].kind=9 then [tr T T[i].of'.toNat] else [])++(T[i].fields.map λp=>tr T p.2.toNat)++T[i].list.map λx=>tr T x.toNat):=by
 rw[tr,trF,getD_atQ b];rw[H9a (a i b) (trF T i) (tr T) (λj c=>P2b a _ _ _ (by omega) (by omega) (by omega))]
theorem G4b{T:List Ty}(j:TsOk T)(i:Nat):i<T.length->Wf (tr T i):=by
 induction i using Nat.strongRecOn with
 |ind i g=>
  intro k;have h:=j i k;rw[Y0 j k];have l:=h;rcases l with ⟨a,b,c,d⟩|⟨a,b,c,d⟩|⟨a,b,c,d⟩|⟨a,b,c,d,m⟩|⟨a,b,c,d⟩
  · rw[yY (by omega),c,d];exact Wf.plain _ a b
  · rw[yY (by omega),a,b];simp only[List.map_nil,lY,zY];refine Wf.obj _ _ (by simp) c (λn o=> ?_) (λx f=> ?_)
    · obtain⟨p,e,rfl⟩:=jZ.1 o;exact(d p e).1
    · obtain⟨p,e,rfl⟩:=jZ.1 f;have:=(d p e).2;exact g _ (by omega) (by omega)
  · rw[rY (.inl a),a,b,c];exact Wf.arr _ (g _ (by omega) (by omega))
  · rw[rY (.inr a),a,b];refine Wf.fn _ _ (g _ (by omega) (by omega)) (λx f=> ?_);obtain⟨p,e,rfl⟩:=jZ.1 f;have:=m p e;exact g _ (by omega) (by omega)
  · rw[yY (by omega),a,b];simp only[List.map_nil,lY];refine Wf.uni _ (by simpa using c) (λx f=> ?_);obtain⟨p,e,rfl⟩:=jZ.1 f;have:=d p e;exact g _ (by omega) (by omega)
theorem TsOk.snoc{T:List Ty}{t:Ty}(a:TsOk T)(c:TyOk t T.length):TsOk (T++[t]):=by
 intro i b;by_cases h:i<T.length
 · rw[List.getElem_append_left h];exact a i h
 · have:i=T.length:=by simp at b;omega
   subst this;simpa using c
theorem N5a{T:List Ty}{t:Ty}(a:TsOk T)(b:TyOk t T.length):tr (T++[t]) T.length= .nd t.kind (t.fields.map (·.1))
 ((if t.kind=8\/t.kind=9 then [tr T t.of'.toNat] else [])++(t.fields.map λp=>tr T p.2.toNat)++t.list.map λx=>tr T x.toNat):=by
 rw[Y0 (a.snoc b) (by simp)];simp only[List.getElem_concat_length];rw[H9a b (tr (T++[t])) (tr T) (λj c=>H3a _ a c)]
/-! ### The reader reads the same -/
def tt(L:List Tk)(i:Nat):List TT:=(L.drop i).map λt=>(t.kind,t.text)
theorem X4a{L:List Tk}{i:Nat}(h:i<L.length):tt L i=((tk L i).kind,(tk L i).text)::tt L (i+1):=by
 have e:tk L i=L[i]:=by simp[tk,List.getD,h]
 rw[tt,List.drop_eq_getElem_cons h,uY,e];rfl
theorem Z7a{L:List Tk}{i:Nat}(h:¬i<L.length):tt L i=[]:=by rw[tt,List.drop_of_length_le (by omega)];rfl
theorem N6a{L:List Tk}{i:Nat}(h:¬i<L.length):tk L i=⟨6,[],0⟩:=by
 simp only[tk,List.getD];rw[List.getElem?_eq_none (by omega)];rfl
theorem N5d(L:List Tk)(i:Nat):(tt L i).tail=tt L (i+1):=by
 by_cases h:i<L.length
 · rw[X4a h];rfl
 · rw[Z7a h,Z7a (by omega)];rfl
theorem Y2a(L:List Tk)(i:Nat)(m:bZ):isS (tt L i) m=isM L i [m]:=by
 by_cases h:i<L.length
 · rw[X4a h];rfl
 · rw[Z7a h];unfold isM;rw[N6a h];rfl
theorem F5d(L:List Tk)(i:Nat):hdK (tt L i)=(tk L i).kind:=by
 by_cases h:i<L.length
 · rw[X4a h];rfl
 · rw[Z7a h,N6a h];rfl
theorem C5e(L:List Tk)(i:Nat):hdX (tt L i)=(tk L i).text:=by
 by_cases h:i<L.length
 · rw[X4a h];rfl
 · rw[Z7a h,N6a h];rfl
theorem B8{d e:Type}{x:Option (Out d)}{k:St->d->Option (Out e)}{s:St}{b:e}(h:A3 x k=some (.ok s b)):∃c a,x=some (.ok c a)/\k c a=some (.ok s b):=by
 unfold A3 at h;split at h
 · simp at h
 · simp at h
 · exact⟨_,_,rfl,h⟩
theorem M4{L:List Tk}{s a:St}{m:bZ}{u:Unit}(h:needQ L s m=some (.ok a u)):isM L s.i [m]=true/\a=s.nx:=by
 unfold needQ at h;split at h
 · rename_i b;simp only[zQ,Out.ok.injEq]at h;exact⟨b,h.1.symm⟩
 · simp[fltQ]at h
theorem S2a{s a:St}{t:Ty}{x:Int}(h:addTQ s t=some (.ok a x)):a=⟨s.i,s.N,s.T++[t]⟩/\x=s.T.length:=by
 simp only[addTQ,zQ,Out.ok.injEq]at h;exact⟨h.1.symm,h.2.symm⟩
def NmL(L:List Tk):Prop:=∀i,(tk L i).kind=1->S4 (tk L i).text
theorem X0a(x:bZ)(h:H7 x≠0):1<=H7 x/\H7 x<=6:=by
 unfold H7 at *;split<;>simp_all
 split<;>simp_all
 split<;>simp_all
 split<;>simp_all
 split<;>simp_all
section
variable{L:List Tk}{f:Nat}
end
inductive Lex:bZ->List TT->Prop
 |nil:Lex [] []
 |blank (l:bZ) (ts:List TT):Lex l ts->Lex (32::l) ts
 |line (l:bZ) (ts:List TT):Lex l ts->Lex (10::l) ts
 |tok (t l:bZ) (ts:List TT) (k:Int) (x:bZ):firstQ (t++l)=(k,x,t.length)->t≠[]->Lex l ts->Lex (t++l) ((k,x)::ts)
theorem V2b(c:UInt8)(r:bZ)(h:blank c.toNat=true):(firstQ (c::r)).2.2=0:=by
 have a:c=32\/c=10:=by
  simp only[blank,Bool.or_eq_true,decide_eq_true_eq]at h;rcases h with h|h
  · left;exact UInt8.toNat_inj.1 h
  · right;exact UInt8.toNat_inj.1 h
 rcases a with rfl|rfl<;>rfl
theorem W1c{t l:bZ}{k:Int}{x:bZ}(h:firstQ (t++l)=(k,x,t.length))(b:t≠[]):sp blank (t++l)=0:=by
 cases t with
 |nil=>exact absurd rfl b
 |cons c r=>
  cases a:blank c.toNat
  · simp[sp,a]
  · have:=V2b c (r++l) a;rw[vZ]at h;rw[h]at this;simp at this
theorem P8c{l:bZ}{m:List TT}(h:Lex l m):∀(f:Nat) (L:bZ) (a:Nat) (b:List Tk),L.drop a=l->L.length - a<f->(J5 f L a b).2.1=0->
 (J5 f L a b).1.map (λt=>(t.kind,t.text))=b.map (λt=>(t.kind,t.text))++m++[(6,[])]:=by
 induction h with
 |nil=>
  intro f L a b d n c;obtain⟨f,rfl⟩:∃g,f=g+1:=⟨f - 1,by omega⟩;have q:L.length<=a:=by
   have:=congrArg List.length d;simp at this;omega
  simp only[J5,d,sp,Nat.add_zero,rY q];simp
 |blank l m _ j=>
  intro f L a b d n c;obtain⟨f,rfl⟩:∃g,f=g+1:=⟨f - 1,by omega⟩;have i:L.drop (a+1)=l:=by
   rw[<-List.drop_drop,d];rfl
  have e:J5 (f+1) L a b=J5 (f+1) L (a+1) b:=by
   rw[Q9 f L a b,Q9 f L (a+1) b,d,i];have:sp blank (32::l)=sp blank l+1:=by
    show (if blank (32:UInt8).toNat then sp blank l+1 else 0)=_;rw[rY (by decide)]
   rw[this];congr 1
   omega
  rw[e]at c⊢;exact j (f+1) L (a+1) b i (by omega) c
 |line l m _ j=>
  intro f L a b d n c;obtain⟨f,rfl⟩:∃g,f=g+1:=⟨f - 1,by omega⟩;have i:L.drop (a+1)=l:=by
   rw[<-List.drop_drop,d];rfl
  have e:J5 (f+1) L a b=J5 (f+1) L (a+1) b:=by
   rw[Q9 f L a b,Q9 f L (a+1) b,d,i];have:sp blank (10::l)=sp blank l+1:=by
    show (if blank (10:UInt8).toNat then sp blank l+1 else 0)=_;rw[rY (by decide)]
   rw[this];congr 1
   omega
  rw[e]at c⊢;exact j (f+1) L (a+1) b i (by omega) c
 |tok t l m k x p r _ j=>
  intro f L a b d n c;obtain⟨f,rfl⟩:∃g,f=g+1:=⟨f - 1,by omega⟩;have q:t.length+l.length=L.length - a:=by
   have:=congrArg List.length d;simp at this;omega
  have v:0<t.length:=List.length_pos_iff.2 r;have s:sp blank (L.drop a)=0:=by rw[d];exact W1c p r
  rw[P9a f L a b s]at c⊢;rw[d,p]at c⊢;simp only at c⊢;rw[yY (by omega),yY (by omega)]at c⊢;by_cases o:b.length=1000
  · rw[rY o]at c;simp at c
  · rw[yY o]at c⊢;have u:L.drop (a+t.length)=l:=by rw[<-List.drop_drop,d,List.drop_left]
    rw[j f L (a+t.length) _ u (by omega) c];simp
theorem D7d{l:bZ}{b:List TT}(h:Lex l b)(a:(F4 l).2.1=0):tt (F4 l).1 0=b++[(6,[])]:=by
 unfold F4 at a⊢;split at a
 · simp at a
 · rename_i c;rw[yY c];have:=P8c h (l.length+1) l 0 [] rfl (by omega) a;simpa[tt]using this
def Del(r:bZ):Prop:=∀c,r.head? =some c->nam c.toNat=false
theorem K8b(p:Nat->Bool):∀(w r:bZ),(∀c∈w,p c.toNat=true)->(∀c,r.head? =some c->p c.toNat=false)->sp p (w++r)=w.length
 |[],[],_,_=>rfl
 |[],c::r,_,h=>by simp[sp,h c rfl]
 |c::w,r,h,b=>by
  have:=K8b p w r (λd a=>h d (by simp[a])) b;simp[sp,h c (by simp),this]
theorem T6b(n:Nat)(h:let' n=true):dig n=false:=by
 simp only[let',dig,Bool.or_eq_true,Bool.and_eq_true,decide_eq_true_eq]at *;rw[Bool.and_eq_false_iff];simp only[decide_eq_false_iff_not];omega
theorem O9a(w r:bZ)(g:w≠[])(i:w.length<=20)(e:∀c∈w,nam c.toNat=true)(f:∀c,w.head? =some c->let' c.toNat=true)(h:Del r):
 firstQ (w++r)=(if X9 w then 2 else 1,w,w.length):=by
 cases w with
 |nil=>exact absurd rfl g
 |cons c w=>
  have a:=f c rfl;have d:=T6b _ a;have b:=K8b nam (c::w) r e h;rw[vZ]at b;simp only[firstQ,vZ,List.head?_cons,d,a,rZ,if_false,if_true];unfold name;rw[b,yY (by omega)];simp
theorem B8a(b r:bZ)(c:List TT)(a:S4 b)(d:Del r)(h:Lex r c):Lex (b++r) ((1,b)::c):=by
 refine Lex.tok b r c 1 b ?_ a.1 h;rw[O9a b r a.1 a.2.1 a.2.2.2.1 a.2.2.2.2 d,a.2.2.1];simp
theorem D6d(k:Int)(r:bZ)(b:List TT)(g:1<=k)(i:k<=6)(f:Del r)(h:Lex r b):Lex (U2 k++r) ((2,U2 k)::b):=by
 have e:k=1\/k=2\/k=3\/k=4\/k=5\/k=6:=by omega
 have a:U2 k≠[]/\(U2 k).length<=20/\(∀c∈U2 k,nam c.toNat=true)/\(∀c,(U2 k).head? =some c->let' c.toNat=true)/\X9 (U2 k)=true:=by
  rcases e with rfl|rfl|rfl|rfl|rfl|rfl<;>exact⟨by decide,by decide,by decide,by intro c d;simp[U2]at d;subst d;decide,by decide⟩
 refine Lex.tok (U2 k) r b 2 (U2 k) ?_ a.1 h;rw[O9a (U2 k) r a.1 a.2.1 a.2.2.1 a.2.2.2.1 f,a.2.2.2.2];simp
def K4b:List bZ:=[[123],[125],[91],[93],[40],[41],[44],[59],[58],[124],[61,62]]
theorem A8a(m r:bZ)(b:List TT)(a:m∈K4b)(h:Lex r b):Lex (m++r) (sgQ m::b):=by
 refine Lex.tok m r b 5 m ?_ ?_ h
 · simp only[K4b,jW,qZ,or_false]at a;rcases a with rfl|rfl|rfl|rfl|rfl|rfl|rfl|rfl|rfl|rfl|rfl<;>simp[firstQ,T3a,I7,A1a,dig,let']
 · rintro rfl;exact absurd a (by decide)
theorem U8a{m r:bZ}(b:m∈K4b):Del (m++r):=by
 intro c a;simp only[K4b,jW,qZ,or_false]at b;rcases b with rfl|rfl|rfl|rfl|rfl|rfl|rfl|rfl|rfl|rfl|rfl<;>(simp at a;subst a;decide)
theorem S1c{r:bZ}:Del (32::r):=by
 intro c a;simp at a;subst a;decide
def Lx(t:Tr):Prop:=∀r a,Del r->Lex r a->Lex (txt' t++r) (tks t++a)
theorem T5b:∀(a:List Tr) (b:List bZ) (r:bZ) (c:List TT),b.length=a.length->(∀n∈b,S4 n)->(∀x∈a,Lx x)->Lex r c->Lex (N4a b a++r) (A4a b a++c)
 |[],_,r,c,_,_,_,h=>by simpa[N4a,A4a]using h
 |t::a,[],_,_,d,_,_,_=>by simp at d
 |t::a,n::b,r,c,d,e,f,h=>by
  have g:=T5b a b r c (by simpa using d) (λm l=>e m (by simp[l])) (λx o=>f x (by simp[o])) h;have i:=f t (by simp) _ _ (U8a (by decide)) (A8a [59] _ _ (by decide) g);have j:=A8a [58] _ _ (by decide) (Lex.blank _ _ i);have k:=Lex.blank _ _ (B8a n _ _ (e n (by simp)) (U8a (by decide)) j);simpa[N4a,A4a]using k
theorem B3b:∀(a:List Tr) (c:Bool) (r:bZ) (b:List TT),(∀x∈a,Lx x)->Del r->Lex r b->Lex (D1a c a++r) (N8 c a++b)
 |[],_,r,b,_,_,h=>by simpa[D1a,N8]using h
 |t::a,c,r,b,f,e,h=>by
  have g:=B3b a false r b (λx k=>f x (by simp[k])) e h;have j:Del (D1a false a++r):=by
   cases a with
   |nil=>simpa[D1a]using e
   |cons u l=>
    have:Del ([44]++([32]++txt' u++D1a false l++r)):=U8a (by decide);simpa[D1a]using this
  have d:=f t (by simp) _ _ j g;cases c
  · have i:=A8a [44] _ _ (by decide) (Lex.blank _ _ d);simpa[D1a,N8]using i
  · simpa[D1a,N8]using d
theorem I7b:∀(a:List Tr) (c:Bool) (r:bZ) (b:List TT),(∀x∈a,Lx x)->Del r->Lex r b->Lex (C2a c a++r) (M6 c a++b)
 |[],_,r,b,_,_,h=>by simpa[C2a,M6]using h
 |t::a,c,r,b,d,g,h=>by
  have e:=I7b a false r b (λx k=>d x (by simp[k])) g h;have j:Del (C2a false a++r):=by
   cases a with
   |nil=>simpa[C2a]using g
   |cons u l=>
    simp only[C2a,rZ,if_false,kZ,vZ];exact S1c
  have f:Lex ((if t.k=10\/t.k=9/\a.length≠0 then [40]++txt' t++[41] else txt' t)++(C2a false a++r)) ((if t.k=10\/t.k=9/\a.length≠0 then sgQ [40]::(tks t++[sgQ [41]]) else tks t)++(M6 false a++b)):=by
   split
   · have:=A8a [40] _ _ (by decide) (d t (by simp) _ _ (U8a (by decide)) (A8a [41] _ _ (by decide) e));simpa using this
   · exact d t (by simp) _ _ j e
  cases c
  · have i:=Lex.blank _ _ (A8a [124] _ _ (by decide) (Lex.blank _ _ f));simpa[C2a,M6]using i
  · simpa[C2a,M6]using f
theorem J3c(t:Tr)(h:Wf t):Lx t:=by
 induction h with
 |plain k a d=>
  intro r b c h;have e:tks (.nd k [] [])=[(2,U2 k)]:=by
   rw[tks,yY (by omega),yY (by omega),yY (by omega),yY (by omega)]
  have l:txt' (.nd k [] [])=U2 k:=by
   rw[txt',yY (by omega),yY (by omega),yY (by omega),yY (by omega)]
  rw[e,l];exact D6d k r b a d c h
 |obj j i m s n _ f=>
  intro r b c h;have a:=A8a [125] _ _ (by decide) h;have d:Lex ((if j.length=0 then [] else [32])++([125]++r)) (sgQ [125]::b):=by
   split
   · exact a
   · exact Lex.blank _ _ a
  have g:=A8a [123] _ _ (by decide) (T5b i j _ _ m n f d);simpa[txt',tks]using g
 |arr t _ f=>
  intro r b c h;have a:=A8a [91] _ _ (by decide) (f _ _ (U8a (by decide)) (A8a [93] _ _ (by decide) h));simpa[txt',tks,N0c,U9c]using a
 |fn t q _ _ p o=>
  intro r b c h;have a:=p r b c h;have d:=A8a [41] _ _ (by decide) (Lex.blank _ _ (A8a [61,62] _ _ (by decide) (Lex.blank _ _ a)));have g:=A8a [40] _ _ (by decide) (B3b q true _ _ o (U8a (by decide)) d);simpa[txt',tks,Y1b,N3c]using g
 |uni i _ _ f=>
  intro r b c h;have:=I7b i true r b f c h;simpa[txt',tks]using this
theorem H3d(l:bZ)(h:(firstQ l).1=1):S4 (firstQ l).2.1:=by
 unfold firstQ at h⊢;cases b:l.head? with
 |none=>rw[b]at h;simp at h
 |some c=>
  rw[b]at h;simp only at h⊢;cases g:dig c.toNat
  · rw[g]at h;cases f:let' c.toNat
    · rw[f]at h;simp only[rZ,if_false]at h;split at h
      · unfold text at h;split at h<;>simp at h
      · unfold T3a at h;split at h<;>simp at h
    · rw[f]at h;simp only[rZ,if_false,if_true]at h⊢;unfold name at h⊢;split at h
      · simp at h
      · rename_i n;rw[yY n];cases k:X9 (l.take (sp nam l))
        · cases l with
          |nil=>simp at b
          |cons e r=>
           simp only[List.head?_cons,zQ]at b;subst b;have o:nam e.toNat=true:=by simp[nam,f]
           have i:sp nam (e::r)=sp nam r+1:=by simp[sp,o]
           refine⟨by simp[i], ?_,k,λd a=> ?_,λd a=> ?_⟩
           · have:=List.length_take_le (sp nam (e::r)) (e::r);simp only;omega
           · simp only at a;obtain⟨j,m,rfl⟩:=List.mem_iff_getElem.1 a;rw[List.getElem_take];simp only[List.length_take]at m;exact K9b nam _ _ _ (by omega)
           · simp only[i,List.take_succ_cons,List.head?_cons,zQ]at a;subst a;exact f
        · simp[k]at h
  · rw[g]at h;simp only[if_true]at h;unfold C4a at h;split at h<;>simp at h
theorem R0b:∀(f:Nat) (l:bZ) (a:Nat) (d:List Tk),(∀t∈d,t.kind=1->S4 t.text)->∀t∈(J5 f l a d).1,t.kind=1->S4 t.text
 |0,l,a,d,_=>by simp[J5]
 |f+1,l,a,d,h=>by
  simp only[J5];split
  · intro t b c;simp only[qW,zW]at b;rcases b with b|rfl
    · exact h t b c
    · simp at c
  split
  · simp
  split
  · simp
  refine R0b f l _ _ λt b c=> ?_;simp only[qW,zW]at b;rcases b with b|rfl
  · exact h t b c
  · exact H3d _ c
theorem Z8c(l:bZ):NmL (F4 l).1:=by
 intro i a;by_cases c:i<(F4 l).1.length
 · have e:tk (F4 l).1 i=(F4 l).1[i]:=by simp[tk,List.getD,c]
   rw[e]at a⊢;have b:=mQ c;revert a b;generalize (F4 l).1[i]=t;intro a b;unfold F4 at b;split at b
   · simp at b
   · exact R0b _ _ _ _ (by simp) t b a
 · rw[N6a c]at a;simp at a
/-! ### Behind others -/
def mvT(b:Int)(t:Ty):Ty:=⟨t.kind,t.fields.map λp=>(p.1,p.2+b),t.list.map λx=>x+b,t.of'+b⟩
theorem TyOk.mv{t:Ty}{i:Nat}(h:TyOk t i)(b:Nat):TyOk (mvT b t) (b+i):=by
 have j:∀x∈t.list,0<=x/\x<i:=h.lst;rcases h with ⟨a,c,d,e⟩|⟨a,c,d,e⟩|⟨a,c,d,e,k⟩|⟨a,c,d,e,k⟩|⟨a,c,d,e⟩
 · exact .inl ⟨a,c,by simp[mvT,d],by simp[mvT,e]⟩
 · refine .inr (.inl ⟨a,by simp[mvT,c], ?_,λp l=> ?_⟩)
   · have:(mvT b t).fields.map (·.1)=t.fields.map (·.1):=by simp[mvT]
     rw[this];exact d
   · obtain⟨q,f,rfl⟩:=jZ.1 l;have:=e q f;exact⟨this.1,by show 0<=q.2+b;omega,by show q.2+(b:Int)<((b+i:Nat):Int);omega⟩
 · exact .inr (.inr (.inl ⟨a,by simp[mvT,c],by simp[mvT,d],by show 0<=t.of'+b;omega,by show t.of'+(b:Int)<((b+i:Nat):Int);omega⟩))
 · refine .inr (.inr (.inr (.inl ⟨a,by simp[mvT,c],by show 0<=t.of'+b;omega,by show t.of'+(b:Int)<((b+i:Nat):Int);omega,λx g=> ?_⟩)));obtain⟨q,f,rfl⟩:=jZ.1 g;have:=j q f;exact⟨by omega,by omega⟩
 · refine .inr (.inr (.inr (.inr ⟨a,by simp[mvT,c],by simpa[mvT]using d,λx g=> ?_⟩)));obtain⟨q,f,rfl⟩:=jZ.1 g;have:=j q f;exact⟨by omega,by omega⟩
def Z9(T X:List Ty):List Ty:=T++X.map (mvT T.length)
def ltN(a b:bZ):Bool:=decide (Lib.compareBytes a b<0)
theorem J4b:∀a:bZ,Lib.compareBytes a a=0
 |[]=>rfl
 |a::b=>by
  unfold Lib.compareBytes;rw[yY (UInt8.lt_irrefl a),yY (UInt8.lt_irrefl a)];exact J4b b
theorem L1c:∀a b:bZ,Lib.compareBytes a b=0->a=b
 |[],[],_=>rfl
 |[],_::_,h=>by simp[Lib.compareBytes]at h
 |_::_,[],h=>by simp[Lib.compareBytes]at h
 |a::c,b::d,h=>by
  unfold Lib.compareBytes at h;split at h
  · simp at h
  split at h
  · simp at h
  rename_i e f;have:a=b:=UInt8.le_antisymm (UInt8.not_lt.1 f) (UInt8.not_lt.1 e);rw[this,L1c c d h]
theorem V9:∀a b:bZ,Lib.compareBytes b a= - Lib.compareBytes a b
 |[],[]=>rfl
 |[],_::_=>rfl
 |_::_,[]=>rfl
 |a::e,b::f=>by
  unfold Lib.compareBytes;by_cases c:a<b
  · have d:=UInt8.lt_asymm c;simp[c,d]
  · by_cases d:b<a
    · simp[c,d]
    · simp only[c,d,if_false];exact V9 e f
theorem I5a:∀a b c:bZ,Lib.compareBytes a b<=0->Lib.compareBytes b c<=0->Lib.compareBytes a c<=0/\(Lib.compareBytes a b<0\/Lib.compareBytes b c<0->Lib.compareBytes a c<0)
 |[],[],c,_,h=>by
  refine⟨h,λf=> ?_⟩;rcases f with f|f
  · simp[Lib.compareBytes]at f
  · exact f
 |[],_::_,[],_,h=>by simp[Lib.compareBytes]at h
 |[],_::_,_::_,_,_=>by simp[Lib.compareBytes]
 |_::_,[],_,h,_=>by simp[Lib.compareBytes]at h
 |_::_,_::_,[],_,h=>by simp[Lib.compareBytes]at h
 |a::l,b::m,c::n,g,d=>by
  have o:=I5a l m n;unfold Lib.compareBytes at g d⊢;by_cases j:a<b
  · by_cases e:b<c
    · rw[rY (UInt8.lt_trans j e)];simp
    · by_cases i:c<b
      · rw[yY e,rY i]at d;simp at d
      · have:b=c:=UInt8.le_antisymm (UInt8.not_lt.1 i) (UInt8.not_lt.1 e);subst this;rw[rY j];simp
  · by_cases k:b<a
    · rw[yY j,rY k]at g;simp at g
    · have:a=b:=UInt8.le_antisymm (UInt8.not_lt.1 k) (UInt8.not_lt.1 j);subst this;rw[yY (UInt8.lt_irrefl a),yY (UInt8.lt_irrefl a)]at g⊢;by_cases e:a<c
      · rw[rY e];simp
      · by_cases i:c<a
        · rw[yY e,rY i]at d;simp at d
        · simp only[e,i,if_false]at d⊢;exact o g d
theorem T3d(n c:List bZ)(x y:Tr)(a b:List Tr):F2 (.nd 9 n (x::a)) (.nd 9 c (y::b))=(decide (a.length<=b.length) && ((a.zip b).all λp=>F2 p.1 p.2||F2 p.2 p.1) && F2 x y):=by rw[F3a];rfl
def leN{c:Type}(a b:bZ×c):Bool:= !ltN b.1 a.1
def P7a{a:Type}(l:List (bZ×a)):List (bZ×a):=l.mergeSort leN
theorem Q0c{d:Type}(a b c:bZ×d)(h:leN a b=true)(i:leN b c=true):leN a c=true:=by
 simp only[leN,ltN,Bool.not_eq_true',decide_eq_false_iff_not,Int.not_lt]at *;have e:=V9 a.1 b.1;have f:=V9 b.1 c.1;have g:=V9 a.1 c.1;have:=(I5a a.1 b.1 c.1 (by omega) (by omega)).1;omega
theorem Q1c{c:Type}(a b:bZ×c):(leN a b||leN b a)=true:=by
 simp only[leN,ltN,Bool.or_eq_true,Bool.not_eq_true',decide_eq_false_iff_not,Int.not_lt];have d:=V9 a.1 b.1;omega
theorem Y1{a:Type}(l:List (bZ×a)):(P7a l).Perm l:=List.mergeSort_perm l leN
theorem J6a{c:Type}(l:List (bZ×c)):(P7a l).Pairwise (λa b=>leN a b=true):=List.pairwise_mergeSort Q0c Q1c l
theorem N7a{p:Type}:∀(l d:List (bZ×p)),l.Perm d->(l.map (·.1)).Nodup->l.Pairwise (λa b=>leN a b=true)->d.Pairwise (λa b=>leN a b=true)->l=d
 |[],d,c,_,_,_=>(List.nil_perm.1 c).symm
 |x::l,[],c,_,_,_=>by simp at c
 |x::l,y::d,c,f,g,i=>by
  have m:x∈y::d:=c.subset (by simp);have o:y∈x::l:=c.symm.subset (by simp);have n:x=y:=by
   rcases jW.1 m with h|h
   · exact h
   · rcases jW.1 o with e|e
     · exact e.symm
     · have a1:=(List.pairwise_cons.1 g).1 y e;have j:=(List.pairwise_cons.1 i).1 x h;simp only[leN,ltN,Bool.not_eq_true',decide_eq_false_iff_not,Int.not_lt]at a1 j;have q:=V9 x.1 y.1;have k:=L1c x.1 y.1 (by omega);rw[uY,List.nodup_cons]at f;exact absurd (jZ.2 ⟨y,e,k.symm⟩) f.1
  subst n;rw[N7a l d (List.perm_cons x|>.1 c) (by rw[uY,List.nodup_cons]at f;exact f.2) (List.pairwise_cons.1 g).2 (List.pairwise_cons.1 i).2]
mutual
def srt:Tr->Tr
 | .nd k b a=>if k=7 then .nd 7 ((P7a (b.zip (E5b a))).map (·.1)) ((P7a (b.zip (E5b a))).map (·.2)) else .nd k b (E5b a)
def E5b:List Tr->List Tr
 |[]=>[]
 |t::r=>srt t::E5b r
end
theorem P8a:∀a:List Tr,E5b a=a.map srt
 |[]=>rfl
 |t::r=>by rw[E5b,P8a r];rfl
def key(t:Tr):bZ:=txt' (srt t)
theorem H2e(t:Tr):(srt t).k=t.k:=by
 obtain⟨k,b,a⟩:=t;rw[srt];split
 · rename_i h;rw[h];rfl
 · rfl
theorem T1a{k:Int}{b:List bZ}{a:List Tr}(h:k≠7):srt (.nd k b a)= .nd k b (a.map srt):=by rw[srt,yY h,P8a]
theorem Z1d(t:Tr)(h:Wf t):Wf (srt t):=by
 induction h with
 |plain k l d=>
  rw[T1a (by omega)];exact Wf.plain k l d
 |obj i g m q o _ c=>
  rw[srt,rY rfl,P8a];have f:=Y1 (i.zip (g.map srt));have j:(i.zip (g.map srt)).map (·.1)=i:=by
   rw[List.map_fst_zip];simp[m]
  refine Wf.obj _ _ (by simp) ?_ (λn r=> ?_) (λx a=> ?_)
  · have:=f.map (·.1);rw[j]at this;exact this.nodup_iff.2 q
  · have:=(f.map (·.1)).subset r;rw[j]at this;exact o n this
  · have:=(f.map (·.2)).subset a;obtain⟨p,s,rfl⟩:=jZ.1 this;obtain⟨y,b,e⟩:=jZ.1 (List.of_mem_zip s).2;rw[<-e];exact c y b
 |arr t _ c=>
  rw[T1a (by decide)];exact Wf.arr _ c
 |fn t w _ _ v u=>
  rw[T1a (by decide)];refine Wf.fn _ _ v (λx a=> ?_);obtain⟨y,b,rfl⟩:=jZ.1 a;exact u y b
 |uni g d _ c=>
  rw[T1a (by decide)];refine Wf.uni _ (by simpa using d) (λx a=> ?_);obtain⟨y,b,rfl⟩:=jZ.1 a;exact c y b
/-! ### Unions -/
mutual
def flat:Tr->List Tr
 | .nd k b a=>if k=10 then J8 a else [.nd k b a]
def J8:List Tr->List Tr
 |[]=>[]
 |t::r=>flat t++J8 r
end
def dd:List Tr->List Tr->List Tr
 |a,[]=>a
 |a,t::r=>if a.any (λu=>key u==key t) then dd a r else dd (a++[t]) r
def C8a(l:List Tr):Tr:=
 if (J8 l).any (λt=>t.k==5) then .nd 5 [] []
 else match dd [] (J8 l) with
  |[]=> .nd 5 [] []
  |[t]=>t
  |t::u::r=> .nd 10 [] (t::u::r)
theorem N6b:∀(l a:List Tr) (x:Tr),x∈a->x∈dd a l
 |[],a,x,h=>h
 |t::r,a,x,h=>by
  rw[dd];split
  · exact N6b r a x h
  · exact N6b r _ x (by simp[h])
theorem N5b:∀(l a:List Tr) (x:Tr),x∈l->∃u∈dd a l,key u=key x
 |t::r,a,x,h=>by
  rw[dd];rcases jW.1 h with rfl|h
  · split
    · rename_i b;rw[List.any_eq_true]at b;obtain⟨u,c,e⟩:=b;exact⟨u,N6b r a u c,by simpa using e⟩
    · exact⟨x,N6b r _ x (by simp),rfl⟩
  · split
    · exact N5b r a x h
    · exact N5b r _ x h
theorem N4b:∀(l a:List Tr) (x:Tr),x∈dd a l->x∈a\/x∈l
 |[],a,x,h=> .inl h
 |t::r,a,x,h=>by
  rw[dd]at h;split at h
  · rcases N4b r a x h with h|h
    · exact .inl h
    · exact .inr (by simp[h])
  · rcases N4b r _ x h with h|h
    · rcases qW.1 h with h|h
      · exact .inl h
      · simp at h;exact .inr (by simp[h])
    · exact .inr (by simp[h])
theorem U7a:∀{l:List Tr} {x:Tr},x∈J8 l->∃t∈l,x∈flat t
 |t::r,x,h=>by
  rw[J8,qW]at h;rcases h with h|h
  · exact⟨t,by simp,h⟩
  · obtain⟨u,a,b⟩:=U7a h;exact⟨u,by simp[a],b⟩
theorem T2d(t:Tr)(h:Wf t):∀x∈flat t,Wf x/\x.k≠10:=by
 induction h with
 |plain k g i=>
  intro x e;rw[flat,yY (by omega)]at e;simp at e;subst e
  exact⟨Wf.plain k g i,by simp only[Tr.k];omega⟩
 |obj m f a b c d _=>
  intro x e;rw[flat,yY (by decide)]at e;simp at e;subst e
  exact⟨Wf.obj m f a b c d,by simp[Tr.k]⟩
 |arr t a _=>
  intro x e;rw[flat,yY (by decide)]at e;simp at e;subst e
  exact⟨Wf.arr t a,by simp[Tr.k]⟩
 |fn t n a b _ _=>
  intro x e;rw[flat,yY (by decide)]at e;simp at e;subst e
  exact⟨Wf.fn t n a b,by simp[Tr.k]⟩
 |uni f _ _ l=>
  intro x e;rw[flat,rY rfl]at e;obtain⟨t,j,e⟩:=U7a e;exact l t j x e
theorem T5c:Wf (.nd 5 [] []):=Wf.plain 5 (by decide) (by decide)
theorem U0c(l:List Tr)(h:∀t∈l,Wf t):Wf (C8a l):=by
 have b:∀x∈dd [] (J8 l),Wf x:=by
  intro x a;rcases N4b _ _ x a with a|a
  · simp at a
  · obtain⟨t,c,a⟩:=U7a a;exact(T2d t (h t c) x a).1
 unfold C8a;split
 · exact T5c
 · split
   · exact T5c
   · rename_i t e;exact b t (by rw[e];simp)
   · rename_i t u r e;exact Wf.uni _ (by simp) (λx a=>b x (by rw[e];exact a))
/-! ### Tags -/
def Q(L:List Tk)(t:Ty):Prop:=t.fields.length<=L.length/\t.list.length<=L.length/\(t.kind=8\/t.kind=9\/t.of'=0)
def Qs(L:List Tk)(s:St):Prop:=s.i<=L.length/\∀t∈s.T,Q L t
structure QF(L:List Tk)(f:Nat):Prop where
 typ:∀d s s' x,Qs L s->(sp' L f).typ d s=some (.ok s' x)->Qs L s'/\s.i<s'.i
 union:∀d s s' x,Qs L s->(sp' L f).union d s=some (.ok s' x)->Qs L s'/\s.i<s'.i
 unionL:∀d s acc s' l,Qs L s->acc.length<=s.i->(sp' L f).unionL d s acc=some (.ok s' l)->Qs L s'/\s.i<=s'.i/\l.length<=s'.i
 member:∀d s s' x,Qs L s->(sp' L f).member d s=some (.ok s' x)->Qs L s'/\s.i<s'.i
 objL:∀d s fs s' x,Qs L s->fs.length<=s.i->(sp' L f).objL d s fs=some (.ok s' x)->Qs L s'/\s.i<s'.i
 fob:∀d s s' x,Qs L s->(sp' L f).fob d s=some (.ok s' x)->Qs L s'/\s.i<s'.i
 list:∀d s nm acc s' l,Qs L s->acc.length<=s.i->(sp' L f).list .typ [41] d s nm acc=some (.ok s' l)->Qs L s'/\s.i<s'.i/\l.length<=s'.i
theorem O9b:∀a:List (bZ×Tr),N4a (a.map (·.1)) (a.map (·.2))=a.flatMap λp=>[32]++p.1++[58,32]++txt' p.2++[59]
 |[]=>rfl
 |p::r=>by
  rw[uY,uY,N4a,List.headD_cons,List.tail_cons,O9b r,List.flatMap_cons]
theorem W0c{a b:Type}(g:a->b)(l:List (bZ×a))(c:(l.map (·.1)).Nodup):P7a (l.map λp=>(p.1,g p.2))=(P7a l).map λp=>(p.1,g p.2):=by
 refine(N7a _ _ (((Y1 l).map _).trans (Y1 _).symm) ?_ ?_ (J6a _)).symm
 · rw[List.map_map];have e:((λp:bZ×b=>p.1) ∘ λp:bZ×a=>(p.1,g p.2))=λp=>p.1:=rfl;rw[e];exact((Y1 l).map _).nodup_iff.2 c
 · rw[List.pairwise_map];exact J6a l
theorem N9d(a:List (bZ×Int))(f:Int->Tr)(b:(a.map (·.1)).Nodup):srt (.nd 7 (a.map (·.1)) (a.map λp=>f p.2))= .nd 7 ((P7a a).map (·.1)) ((P7a a).map λp=>srt (f p.2)):=by
 have e:(a.map (·.1)).zip (E5b (a.map λp=>f p.2))=a.map λp=>(p.1,(λz=>srt (f z)) p.2):=by
  rw[P8a,List.map_map];induction a with
  |nil=>rfl
  |cons p r c=>
   rw[uY,List.nodup_cons]at b;simp only[uY,List.zip_cons_cons,c b.2];rfl
 rw[srt,rY rfl,e,W0c (λz=>srt (f z)) a b,List.map_map,List.map_map];rfl
theorem G8c(a:List (bZ×Int))(f:Int->Tr):txt' (.nd 7 (a.map (·.1)) (a.map λp=>f p.2))=[123]++(a.flatMap λp=>[32]++p.1++[58,32]++txt' (f p.2)++[59])++(if a.length=0 then [] else [32])++[125]:=by
 have e:=O9b (a.map λp=>(p.1,f p.2));rw[List.map_map,List.map_map]at e;have b:N4a (a.map (·.1)) (a.map λp=>f p.2)=a.flatMap λp=>[32]++p.1++[58,32]++txt' (f p.2)++[59]:=by
  refine Eq.trans e ?_;rw[List.flatMap_map]
 rw[txt',rY rfl,b,iZ]
theorem F0a{a:Type}(l:List (bZ×a)):(P7a l).length=l.length:=(Y1 l).length_eq
inductive Nt where
 |nd (k:Int) (tx:bZ) (n:Int) (ps:List Nt)
 |ty (t:Option Tr)
def Nt.k:Nt->Int
 | .nd k _ _ _=>k
 | .ty none=>-1
 | .ty (some _)=>0
def bnK(k:Int)(a:bZ):Nat:=if k=13 then 4 else if k=12 then (if a=[42] then 3 else if a=[43]\/a=[45] then 2 else 1) else 5
def bnd:Nt->Nat
 | .nd k a _ _=>bnK k a
 | .ty _=>5
structure Pc where
 b:Nat
 k:Int
 s:bZ
def wi(a:Nat)(c:Pc):bZ:=if a<=c.b then c.s else [40]++c.s++[41]
def E6a(c:Pc):bZ:=if c.k= -1 then [] else [58,32]++c.s
def U6(a:bZ):List Pc->bZ
 |[]=>[]
 |[c]=>c.s
 |c::r=>c.s++a++U6 a r
def mg(d:Nat):bZ:=(List.replicate d [32,32]).flatten
def I1(d:Nat)(a:List Pc):bZ:=a.flatMap λc=>mg d++c.s++[10]
def pc0:Pc:=⟨5,0,[]⟩
def c0(a:List Pc):Pc:=a.getD 0 pc0
def c1(a:List Pc):Pc:=a.getD 1 pc0
def c2(a:List Pc):Pc:=a.getD 2 pc0
def prE(k:Int)(b:bZ)(n:Int)(a:List Pc):bZ:=
 if k=1 then Lib.itoa n
 else if k=2 then [34]++b++[34]
 else if k=3 then Lib.formatBool (n==1)
 else if k=4 then [110,117,108,108]
 else if k=5 then b
 else if k=6 then [102,110,40]++U6 [44,32] a.dropLast.dropLast++[41]++E6a (a.dropLast.getLastD pc0)++[32]++(a.getLastD pc0).s
 else if k=7 then wi 5 (c0 a)++([40]++U6 [44,32] a.tail++[41])
 else if k=8 then wi 5 (c0 a)++([46]++b)
 else if k=9 then wi 5 (c0 a)++[91]++(c1 a).s++[93]
 else if k=10 then (if a.length=0 then [123,125] else [123,32]++U6 [44,32] a++[32,125])
 else if k=11 then [91]++U6 [44,32] a++[93]
 else if k=12 then wi (if bnK k b=1 then 2 else bnK k b) (c0 a)++([32]++b++[32])++wi (bnK k b+1) (c1 a)
 else if k=13 then b++(if b=[116,121,112,101,111,102] then [32] else [])++wi 4 (c0 a)
 else if k=14 then wi 5 (c0 a)++[32,97,115,32]++(c1 a).s
 else if k=15 then (b++[58,32])++(c0 a).s
 else b++E6a (c0 a)
def prS(d:Nat)(k:Int)(b:bZ)(a:List Pc):bZ:=
 if k=17 then ([108,101,116,32]++b)++E6a (c0 a)++[32,61,32]++(c1 a).s++[59]
 else if k=18 then (b++[32,61,32])++(c0 a).s++[59]
 else if k=19 then wi 5 (c0 a)++([46]++b)++[32,61,32]++(c1 a).s++[59]
 else if k=20 then wi 5 (c0 a)++[91]++(c1 a).s++[93]++[32,61,32]++(c2 a).s++[59]
 else if k=21 then [112,114,105,110,116,32]++(c0 a).s++[59]
 else if k=22 then [105,102,32,40]++(c0 a).s++[41,32]++(c1 a).s++(if (c2 a).k= -1 then [] else [32,101,108,115,101,32]++(c2 a).s)
 else if k=23 then [119,104,105,108,101,32,40]++(c0 a).s++[41,32]++(c1 a).s
 else if k=24 then [114,101,116,117,114,110,32]++(c0 a).s++[59]
 else if k=25 then (c0 a).s++[59]
 else [123,10]++I1 (d+1) a++mg d++[125]
mutual
def pr(d:Nat):Nt->bZ
 | .ty none=>[]
 | .ty (some t)=>txt' t
 | .nd k b n a=>if k=26 then prS d k b (prL (d+1) a) else if k<=16 then prE k b n (prL d a) else prS d k b (prL d a)
def prL(d:Nat):List Nt->List Pc
 |[]=>[]
 |p::r=>⟨bnd p,p.k,pr d p⟩::prL d r
end
def J7(k:Int)(a:uZ)(n:Nd):Prop:=
 if k=6 then n.list=a.dropLast.dropLast/\n.ty=a.dropLast.getLastD 0/\n.a=a.getLastD 0/\2<=a.length
 else if k=7 then n.a=a.headD 0/\n.list=a.tail/\1<=a.length
 else if k=10\/k=11\/k=26 then n.list=a
 else if k=14 then a=[n.a,n.ty]
 else if k=16 then a=[n.ty]
 else if k=17 then a=[n.ty,n.a]
 else if k=9\/k=12\/k=19\/k=23 then a=[n.a,n.b]
 else if k=20\/k=22 then a=[n.a,n.b,n.c]
 else if k=8\/k=13\/k=15\/k=18\/k=21\/k=24\/k=25 then a=[n.a]
 else a=[]
mutual
def At(N:List Nd)(T:List Ty):Nt->Int->Prop
 | .ty none,i=>i= -1
 | .ty (some t),i=>∃j:Nat,i=j/\j<T.length/\tr T j=t
 | .nd k d n c,i=>∃j:Nat,i=j/\∃h:j<N.length,N[j].kind=k/\N[j].text=d/\N[j].n=n/\∃a,J7 k a N[j]/\AtL N T c a
def AtL(N:List Nd)(T:List Ty):List Nt->uZ->Prop
 |[],a=>a=[]
 |p::r,a=>∃i b,a=i::b/\At N T p i/\AtL N T r b
end
def isE(k:Int):Prop:=1<=k/\k<=14
def isT(k:Int):Prop:=k= -1\/k=0
def shp(k:Int)(a:uZ):Prop:=
 if k=1\/k=2\/k=3\/k=4\/k=5 then a=[]
 else if k=6 then∃b r,a=b++[r,26]/\(∀x∈b,x=16)/\isT r
 else if k=7 then∃x c,a=x::c/\isE x/\∀y∈c,isE y
 else if k=8\/k=13\/k=15\/k=18\/k=21\/k=24\/k=25 then∃x,a=[x]/\isE x
 else if k=9\/k=12\/k=19 then∃x y,a=[x,y]/\isE x/\isE y
 else if k=10 then∀x∈a,x=15
 else if k=11 then∀x∈a,isE x
 else if k=14 then∃x,a=[x,0]/\isE x
 else if k=16 then∃x,a=[x]/\isT x
 else if k=17 then∃x y,a=[x,y]/\isT x/\isE y
 else if k=20 then∃x y z,a=[x,y,z]/\isE x/\isE y/\isE z
 else if k=22 then∃x z,a=[x,26,z]/\isE x/\(z=26\/z= -1)
 else if k=23 then∃x,a=[x,26]/\isE x
 else if k=26 then∀x∈a,17<=x/\x<=25
 else False
mutual
def Gd:Nt->Prop
 | .ty _=>True
 | .nd k _ _ a=>shp k (a.map Nt.k)/\GdL a
def GdL:List Nt->Prop
 |[]=>True
 |p::r=>Gd p/\GdL r
end
mutual
def szN:Nt->Nat
 | .ty _=>1
 | .nd _ _ _ a=>D8 a+1
def D8:List Nt->Nat
 |[]=>0
 |p::r=>szN p+D8 r
end
theorem X7(d:Nat):∀a,prL d a=a.map λp=>⟨bnd p,p.k,pr d p⟩
 |[]=>rfl
 |p::r=>by rw[prL,X7 d r];rfl
theorem U1:∀{b:List Nt} {p:Nt},GdL b->p∈b->Gd p
 |q::r,p,h,a=>by
  rw[jW]at a;rcases a with rfl|a
  · exact h.1
  · exact U1 h.2 a
theorem I3:∀{b:List Nt} {p:Nt},p∈b->szN p<=D8 b
 |q::r,p,a=>by
  rw[jW]at a;rw[D8];rcases a with rfl|a
  · omega
  · have:=I3 a;omega
theorem F5a{N:List Nd}{T:List Ty}:∀{b:List Nt} {a:uZ},AtL N T b a->a.length=b.length
 |[],a,h=>by rw[AtL]at h;rw[h];rfl
 |p::r,a,h=>by
  rw[AtL]at h;obtain⟨i,d,rfl,_,c⟩:=h;rw[jQ,jQ,F5a c]
theorem D9b{N:List Nd}{T:List Ty}:∀{c:List Nt} {b:uZ} (_:AtL N T c b) (j:Nat) (a:j<c.length) (d:j<b.length),At N T c[j] b[j]
 |[],_,_,_,a,_=>by simp at a
 |p::r,b,h,j,a,d=>by
  rw[AtL]at h;obtain⟨i,g,rfl,e,f⟩:=h;cases j with
  |zero=>exact e
  |succ j=>exact D9b f j (by simpa using a) (by simpa using d)
def G5a(d:Nat)(s:St)(r:Sp):Option (Out Int):=A3 (r.progL d s []) λa l=>addN a ⟨26,0,0,0,l,[],0,-1,0⟩
def PRes(l:bZ):(Int×Int) ⊕ (List Nd×List Ty)->Prop
 | .inl (b,p)=>b≠0/\(((F4 l).2.1=b/\((F4 l).2.2:Int)=p)\/((F4 l).2.1=0/\(Ev (F4 l).1 (G5a 0 ⟨0,[],[]⟩) (.fail b p)\/∃a x,Ev (F4 l).1 (G5a 0 ⟨0,[],[]⟩) (.ok a x)/\(1200<a.N.length\/300<a.T.length)/\b=2/\p=0)))
 | .inr (N,T)=>(F4 l).2.1=0/\∃a x,Ev (F4 l).1 (G5a 0 ⟨0,[],[]⟩) (.ok a x)/\a.N.length<=1200/\a.T.length<=300/\a.N=N/\a.T=T
theorem V5a{l:bZ}{a:Int×Int}{b:List Nd×List Ty}(h:PRes l (.inl a))(k:PRes l (.inr b)):False:=by
 obtain⟨e,p⟩:=a;obtain⟨N,T⟩:=b;obtain⟨d,h⟩:=h;obtain⟨k1,i,j,k,k3,g,_⟩:=k;rcases h with ⟨c,f⟩|⟨c,h⟩
 · exact absurd (c.symm.trans k1) d
 · rcases h with h|⟨s,x,h,h3,_⟩
   · cases h.one k
   · have:=h.one k;simp only[Out.ok.injEq]at this;obtain⟨rfl,_⟩:=this;omega
theorem PRes.one{l:bZ}{a b:(Int×Int) ⊕ (List Nd×List Ty)}(h:PRes l a)(k:PRes l b):a=b:=by
 rcases a with ⟨n,p⟩|⟨N,T⟩<;>rcases b with ⟨o,q⟩|⟨j,m⟩
 · obtain⟨d,h⟩:=h;obtain⟨f,k⟩:=k;rcases h with ⟨c,e⟩|⟨c,h⟩<;>rcases k with ⟨k1,k2⟩|⟨k1,k⟩
   · rw[<-c,<-e,<-k1,<-k2]
   · exact absurd (c.symm.trans k1) d
   · exact absurd (k1.symm.trans c) f
   · rcases h with h|⟨s,x,h,h3,rfl,rfl⟩<;>rcases k with k|⟨g,i,k,k3,rfl,rfl⟩
     · have:=h.one k;simp only[Out.fail.injEq]at this;rw[this.1,this.2]
     · cases h.one k
     · cases h.one k
     · rfl
 · exact absurd (V5a h k) (by simp)
 · exact absurd (V5a k h) (by simp)
 · obtain⟨_,s,x,h,_,_,rfl,rfl⟩:=h;obtain⟨_,g,i,k,_,_,rfl,rfl⟩:=k;have:=h.one k;simp only[Out.ok.injEq]at this;rw[this.1]
theorem H8b(L:List Tk):∀f d s a b l,(sp' L f).progL d s a=some (.ok b l)->(tk L b.i).kind=6
 |0,_,_,_,_,_,h=>by cases h
 |f+1,d,s,a,b,l,h=>by
  change (if (tk L s.i).kind=6 then some (.ok s a) else A3 ((sp' L f).stmt d s) λs x=>(sp' L f).progL d s (a++[x]))=_ at h
  split at h
  · rename_i c;simp only[zQ,Out.ok.injEq]at h;rw[<-h.1];exact c
  · unfold A3 at h;split at h
    · cases h
    · cases h
    · exact H8b L f _ _ _ _ _ h
theorem P2d{L:List Tk}{d:Nat}{s a:St}{x:Int}(h:Ev L (G5a d s) (.ok a x)):(tk L a.i).kind=6:=by
 obtain⟨f,b⟩:=h;have h:=b f (vQ _);unfold G5a A3 at h;split at h
 · cases h
 · cases h
 · rename_i e l c;have:=H8b L f _ _ _ _ _ c;simp only[addN,zQ,Out.ok.injEq]at h;rw[<-h.1];exact this
def M1d(x:bZ):Prop:=x≠[]/\x.length<=9/\∀c∈x,dig c.toNat=true
def NuL(L:List Tk):Prop:=∀i,(tk L i).kind=3->M1d (tk L i).text
theorem H2d(l:bZ)(h:(firstQ l).1=3):M1d (firstQ l).2.1:=by
 unfold firstQ at h⊢;cases b:l.head? with
 |none=>rw[b]at h;simp at h
 |some c=>
  rw[b]at h;simp only at h⊢;cases d:dig c.toNat with
  |true=>
   rw[d]at h;simp only[if_true]at h⊢;unfold C4a at h⊢;split at h
   · simp at h
   · rename_i i;rw[yY i];have g:=G3a dig l;cases l with
     |nil=>simp at b
     |cons a r=>
      simp only[List.head?_cons,zQ]at b;subst b;have m:1<=sp dig (a::r):=by have:=T2a dig (a::r) 0 (by simp) (wQ _) d;omega
      refine⟨?_, ?_, ?_⟩
      · intro e;have:=congrArg List.length e;rw[List.length_take]at this;simp only[jQ,xQ]at this g;omega
      · rw[List.length_take];omega
      · intro x j;obtain⟨k,f,rfl⟩:=List.getElem_of_mem j;rw[List.getElem_take];rw[List.length_take]at f;exact K9b dig (a::r) k (by omega) (by omega)
  |false=>
   rw[d]at h;simp only[rZ,if_false]at h;split at h
   · unfold name at h;split at h
     · simp at h
     · split at h<;>simp at h
   split at h
   · unfold text at h;split at h<;>simp at h
   · unfold T3a at h;split at h<;>simp at h
theorem Q9b:∀(f:Nat) (l:bZ) (a:Nat) (d:List Tk),(∀t∈d,t.kind=3->M1d t.text)->∀t∈(J5 f l a d).1,t.kind=3->M1d t.text
 |0,l,a,d,_=>by simp[J5]
 |f+1,l,a,d,h=>by
  simp only[J5];split
  · intro t b c;simp only[qW,zW]at b;rcases b with b|rfl
    · exact h t b c
    · simp at c
  split
  · simp
  split
  · simp
  refine Q9b f l _ _ λt b c=> ?_;simp only[qW,zW]at b;rcases b with b|rfl
  · exact h t b c
  · exact H2d _ c
theorem T0b(l:bZ):NuL (F4 l).1:=by
 intro i a;by_cases c:i<(F4 l).1.length
 · have e:tk (F4 l).1 i=(F4 l).1[i]:=by simp[tk,List.getD,c]
   rw[e]at a⊢;have b:=mQ c;revert a b;generalize (F4 l).1[i]=t;intro a b;unfold F4 at b;split at b
   · simp at b
   · exact Q9b _ _ _ _ (by simp) t b a
 · rw[N6a c]at a;simp at a
theorem V9b:∀(l:bZ) (a:Nat),(∀c∈l,dig c.toNat=true)->∃n:Nat,Lib.decFrom a l=some n/\(l.foldl (λn c=>10 * n+(c.toNat:Int) - 48) (a:Int))=(n:Int)
 |[],a,_=>⟨a,rfl,rfl⟩
 |c::r,a,h=>by
  have b:=h c (by simp);have g:48<=c.toNat/\c.toNat<=57:=by
   unfold dig at b;simpa using b
  obtain⟨n,d,f⟩:=V9b r (a * 10+(c.toNat - 48)) (λx i=>h x (by simp[i]));refine⟨n, ?_, ?_⟩
  · rw[Lib.decFrom,Lib.digitVal,rY g];exact d
  · rw[List.foldl_cons];have e:10 * (a:Int)+(c.toNat:Int) - 48=((a * 10+(c.toNat - 48):Nat):Int):=by omega
    rw[e];exact f
theorem F1c(x:bZ)(h:M1d x):Lib.atoi x=some (C7a x):=by
 obtain⟨f,_,d⟩:=h;cases x with
 |nil=>exact absurd rfl f
 |cons c r=>
  obtain⟨n,g,i⟩:=V9b (c::r) 0 d;have a:=d c (by simp);unfold dig at a;have b:48<=c.toNat/\c.toNat<=57:=by simpa using a
  have j:(c==45)=false:=by
   rw[beq_eq_false_iff_ne];rintro rfl;simp at b
  have k:(c==43)=false:=by
   rw[beq_eq_false_iff_ne];rintro rfl;simp at b
  have e:C7a (c::r)=(n:Int):=i;rw[Lib.atoi,j,k,e];simp[Lib.decNat,g]
def Up{c:Type}(n:Nat)(x:Option (Out c)):Prop:=∀b a,x=some (.ok b a)->n<=b.N.length
def Ix(n:Nat)(x:Option (Out Int)):Prop:=∀b a,x=some (.ok b a)->n<=b.N.length/\(n:Int)<=a
def Rx(n:Nat)(h:Int)(x:Option (Out Int)):Prop:=∀b a,x=some (.ok b a)->n<=b.N.length/\(a=h\/(n:Int)<=a)
theorem Up.none{a:Type}{n:Nat}:Up n (none:Option (Out a)):=by intro _ _ h;cases h
theorem Ix.none{n:Nat}:Ix n none:=by intro _ _ h;cases h
theorem Rx.none{n:Nat}{x:Int}:Rx n x none:=by intro _ _ h;cases h
theorem Up.flt{a:Type}{n:Nat}{L:List Tk}{i:Nat}{e:Int}:Up n (fltQ L i e:Option (Out a)):=by intro _ _ h;simp[fltQ]at h
theorem Ix.flt{n:Nat}{L:List Tk}{i:Nat}{e:Int}:Ix n (fltQ L i e):=by intro _ _ h;simp[fltQ]at h
theorem Rx.flt{n:Nat}{x:Int}{L:List Tk}{i:Nat}{e:Int}:Rx n x (fltQ L i e):=by intro _ _ h;simp[fltQ]at h
theorem Up.ok{b:Type}{n:Nat}{s:St}{a:b}(h:n<=s.N.length):Up n (some (.ok s a)):=by
 intro _ _ e;simp only[zQ,Out.ok.injEq]at e;obtain⟨rfl,rfl⟩:=e;exact h
theorem Rx.ok{n:Nat}{s:St}{a:Int}(h:n<=s.N.length):Rx n a (some (.ok s a)):=by
 intro _ _ e;simp only[zQ,Out.ok.injEq]at e;obtain⟨rfl,rfl⟩:=e;exact⟨h,.inl rfl⟩
theorem Ix.ok{n:Nat}{s:St}{a:Int}(h:n<=s.N.length)(b:(n:Int)<=a):Ix n (some (.ok s a)):=by
 intro _ _ e;simp only[zQ,Out.ok.injEq]at e;obtain⟨rfl,rfl⟩:=e;exact⟨h,b⟩
theorem Ix.up{n:Nat}{x:Option (Out Int)}(h:Ix n x):Up n x:=λ_ _ e=>(h _ _ e).1
theorem Up.low{b:Type}{n m:Nat}{x:Option (Out b)}(h:Up m x)(a:n<=m):Up n x:=λ_ _ e=>kQ a (h _ _ e)
theorem Ix.low{n m:Nat}{x:Option (Out Int)}(h:Ix m x)(a:n<=m):Ix n x:=λ_ _ e=>⟨kQ a (h _ _ e).1,by have:=(h _ _ e).2;omega⟩
theorem Up.bind{c j:Type}{n:Nat}{x:Option (Out c)}{k:St->c->Option (Out j)}(h:Up n x)(g:∀s a,n<=s.N.length->Up n (k s a)):Up n (A3 x k):=by
 intro l b e;obtain⟨i,a,d,f⟩:=B8 e;exact g i a (h _ _ d) _ _ f
theorem Ix.bind{c:Type}{n:Nat}{x:Option (Out c)}{k:St->c->Option (Out Int)}(h:Up n x)(g:∀s a,n<=s.N.length->Ix n (k s a)):Ix n (A3 x k):=by
 intro j b e;obtain⟨i,a,d,f⟩:=B8 e;exact g i a (h _ _ d) _ _ f
theorem Ix.bindx{n:Nat}{x:Option (Out Int)}{k:St->Int->Option (Out Int)}(h:Ix n x)(f:∀s a,n<=s.N.length->(n:Int)<=a->Ix n (k s a)):Ix n (A3 x k):=by
 intro i b e;obtain⟨g,a,c,d⟩:=B8 e;exact f g a (h _ _ c).1 (h _ _ c).2 _ _ d
theorem Up.bindx{n:Nat}{x:Option (Out Int)}{k:St->Int->Option (Out Int)}(h:Ix n x)(f:∀s a,n<=s.N.length->(n:Int)<=a->Up n (k s a)):Up n (A3 x k):=by
 intro i b e;obtain⟨g,a,c,d⟩:=B8 e;exact f g a (h _ _ c).1 (h _ _ c).2 _ _ d
theorem Rx.toIx{n:Nat}{h:Int}{x:Option (Out Int)}(c:Rx n h x)(f:(n:Int)<=h):Ix n x:=by
 intro g a e;obtain⟨b,d⟩:=c _ _ e;exact⟨b,by omega⟩
theorem Ix.toRx{n:Nat}{h:Int}{x:Option (Out Int)}(a:Ix n x):Rx n h x:=λ_ _ e=>⟨(a _ _ e).1,.inr (a _ _ e).2⟩
theorem Ix.add{n:Nat}{s:St}{t:Nd}(h:n<=s.N.length):Ix n (addN s t):=by
 intro b a e;simp only[addN,zQ,Out.ok.injEq]at e;obtain⟨rfl,rfl⟩:=e;simp;omega
theorem Up.addT{n:Nat}{s:St}{t:Ty}(h:n<=s.N.length):Up n (addTQ s t):=by
 intro b a e;simp only[addTQ,zQ,Out.ok.injEq]at e;obtain⟨rfl,rfl⟩:=e;exact h
theorem Up.need{n:Nat}{L:List Tk}{s:St}{m:bZ}(h:n<=s.N.length):Up n (needQ L s m):=by
 unfold needQ;split
 · exact Up.ok h
 · exact Up.flt
theorem Up.newName{n:Nat}{L:List Tk}{s:St}{a:List bZ}(h:n<=s.N.length):Up n (newNameQ L s a):=by
 unfold newNameQ;split
 · split
   · exact Up.flt
   · exact Up.ok h
 · exact Up.flt
theorem Up.inside{n:Nat}{L:List Tk}{b:Bool}{d:Nat}{s:St}{p:Nat->St->Option (Out Int)}(h:∀d,Up n (p d s)):Up n (insideQ L b d s p):=by
 unfold insideQ;split
 · split
   · exact Up.flt
   · exact h _
 · exact Up.flt
theorem Ix.inside{n:Nat}{L:List Tk}{b:Bool}{d:Nat}{s:St}{p:Nat->St->Option (Out Int)}(h:∀d,Ix n (p d s)):Ix n (insideQ L b d s p):=by
 unfold insideQ;split
 · split
   · exact Ix.flt
   · exact h _
 · exact Ix.flt
theorem Ix.two{n:Nat}{L:List Tk}{s:St}{l:Int}{p:St->Option (Out Int)}(h:Up n (p s.nx)):Ix n (twoQ L s l p):=by
 unfold twoQ;exact Ix.bind h λs a b=>Ix.add b
structure Nla(r:Sp):Prop where
 typ:∀d s,Up s.N.length (r.typ d s)
 union:∀d s,Up s.N.length (r.union d s)
 unionL:∀d s l,Up s.N.length (r.unionL d s l)
 member:∀d s,Up s.N.length (r.member d s)
 objL:∀d s l,Up s.N.length (r.objL d s l)
 fob:∀d s,Up s.N.length (r.fob d s)
 list:∀p e d s a b,Up s.N.length (r.list p e d s a b)
 expr:∀d s,Ix s.N.length (r.expr d s)
 comp:∀d s,Ix s.N.length (r.comp d s)
 sum:∀d s,Ix s.N.length (r.sum d s)
 prod:∀d s,Ix s.N.length (r.prod d s)
 row:∀b d s x,Rx s.N.length x (r.row b d s x)
 oper:∀d s,Ix s.N.length (r.oper d s)
 tail:∀d s x,Rx s.N.length x (r.tail d s x)
 simple:∀d s,Ix s.N.length (r.simple d s)
 block:∀d s,Up s.N.length (r.block d s)
 blockL:∀d s a,Up s.N.length (r.blockL d s a)
 stmt:∀d s,Up s.N.length (r.stmt d s)
 any:∀d s,Up s.N.length (r.any d s)
 progL:∀d s a,Up s.N.length (r.progL d s a)
theorem Rx.low{n m:Nat}{h:Int}{x:Option (Out Int)}(b:Rx m h x)(f:n<=m):Rx n h x:=λg a e=>by
 obtain⟨c,d⟩:=b _ _ e;exact⟨by omega,by omega⟩
theorem Nla.typeIf{r:Sp}(i:Nla r){n:Nat}{L:List Tk}{d:Nat}{s:St}(h:n<=s.N.length):Up n (typeIfQ L r d s):=by
 unfold typeIfQ;split
 · exact(i.typ d s.nx).low h
 · exact Up.ok h
theorem Nla.part{r:Sp}(i:Nla r){n:Nat}{L:List Tk}{d:Nat}{s:St}{k:List bZ}{p:V4a}(h:n<=s.N.length):Up n (part L r d s k p):=by
 cases p with
 |typ=>exact Up.bind ((i.typ d s).low h) λs a f=>Up.ok f
 |expr=>exact Up.bind ((i.expr d s).up.low h) λs a f=>Up.ok f
 |obj=>exact Up.bind (Up.newName h) λl _ b=>Up.bind (Up.need b) λg _ c=>Up.bind ((i.expr d g).up.low c) λo _ j=>Up.bind (Ix.add j).up λm _ e=>Up.ok e
 |par=>exact Up.bind (Up.newName h) λl _ b=>Up.bind (i.typeIf b) λg _ c=>Up.bind (Ix.add c).up λm _ e=>Up.ok e
theorem Nla.more{r:Sp}(i:Nla r){n:Nat}{e:Int}{d:Nat}{s:St}{t:Nd}(h:n<=s.N.length):Rx n e (A3 (addN s t) λs x=>r.tail d s x):=by
 refine Ix.toRx (Ix.bindx (Ix.add h) λs a c b=> ?_);exact((i.tail d s a).low c).toIx b
theorem Rx.bind{d:Type}{n:Nat}{c:Int}{x:Option (Out d)}{k:St->d->Option (Out Int)}(h:Up n x)(i:∀s a,n<=s.N.length->Rx n c (k s a)):Rx n c (A3 x k):=by
 intro l b e;obtain⟨j,a,f,g⟩:=B8 e;exact i j a (h _ _ f) _ _ g
theorem Z9c(L:List Tk)(r:Sp)(i:Nla r):Nla (step L r) where
 typ d s:=Up.inside λd=>i.union d s
 union d s:=Up.bind (i.member d s) λf a c=>by
  split
  · exact Up.bind ((i.unionL d f _).low c) λh l g=>Up.addT g
  · exact Up.ok c
 unionL d s acc:=by
  show Up _ (if _ then _ else _);split
  · exact Up.bind (i.member d s.nx) λf a c=>(i.unionL d f _).low c
  · exact Up.ok (vQ _)
 member d s:=by
  show Up _ (if _ then _ else _);split
  · exact i.objL d s.nx []
  split
  · exact Up.bind (i.typ d s.nx) λf a c=>Up.bind (Up.need c) λh _ g=>Up.addT g
  split
  · exact i.fob d s.nx
  split
  · exact Up.addT (vQ _)
  · exact Up.flt
 objL d s fs:=by
  show Up _ (if _ then _ else _);split
  · exact Up.addT (vQ _)
  · exact Up.bind (Up.newName (vQ _)) λf _ c=>Up.bind (Up.need c) λh _ g=>Up.bind ((i.typ d h).low g) λn _ j=>Up.bind (Up.need j) λo _ k=>(i.objL d o _).low k
 fob d s:=Up.bind (i.list _ _ d s _ _) λf l c=>by
  split
  · exact Up.bind ((i.typ d f.nx).low c) λh _ g=>Up.addT g
  · split
    · exact Up.ok c
    · exact Up.flt
 list p e d s ns acc:=by
  show Up _ (if _ then _ else _);split
  · exact Up.ok (vQ _)
  · refine Up.bind ?_ λf _ c=>Up.bind (i.part c) λh x g=>(i.list p e d h _ _).low g;split
    · exact Up.ok (vQ _)
    · exact Up.need (vQ _)
 expr d s:=Ix.inside λd=>i.comp d s
 comp d s:=Ix.bindx (i.sum d s) λf a c m=>by
  split
  · exact Ix.two ((i.sum d f.nx).up.low c)
  · exact Ix.ok c m
 sum d s:=Ix.bindx (i.prod d s) λf a c m=>((i.row true d f a).low c).toIx m
 prod d s:=Ix.bindx (i.oper d s) λf a c m=>((i.row false d f a).low c).toIx m
 row b d s x:=by
  show Rx _ _ (if _ then _ else _);split
  · refine Ix.toRx (Ix.bindx (Ix.two ?_) λf a c m=>((i.row b d f a).low c).toIx m);cases b
    · exact(i.oper d s.nx).up
    · exact(i.prod d s.nx).up
  · exact Rx.ok (vQ _)
 oper d s:=by
  show Ix _ (if _ then _ else _);split
  · exact Ix.bind (Up.inside λd=>(i.oper d s.nx).up) λf _ c=>Ix.add c
  · exact Ix.bindx (i.simple d s) λf a c m=>((i.tail d f a).low c).toIx m
 tail d s x:=by
  show Rx _ _ (if _ then _ else _);split
  · exact Rx.bind (i.list _ _ d s.nx _ _) λf l c=>i.more c
  split
  · split
    · exact i.more (vQ s.N.length)
    · exact Rx.flt
  split
  · exact Rx.bind (i.expr d s.nx).up λf _ c=>Rx.bind (Up.need c) λh _ g=>i.more g
  split
  · exact Rx.bind (i.typ d s.nx) λf _ c=>i.more c
  · exact Rx.ok (vQ _)
 simple d s:=by
  show Ix _ (if _ then _ else _);iterate 6
   split
   · exact Ix.add (vQ s.N.length)
  split
  · exact Ix.bind (Up.need (vQ s.N.length)) λf _ c=>Ix.bind ((i.list _ _ d f _ _).low c) λh _ g=>Ix.bind (i.typeIf g) λn _ j=>Ix.bind ((i.block d n).low j) λo _ k=>Ix.add k
  split
  · exact Ix.bind (i.list _ _ d s.nx _ _) λf _ c=>Ix.add c
  split
  · exact Ix.bind (i.list _ _ d s.nx _ _) λf _ c=>Ix.add c
  · exact Ix.bind (Up.need (vQ s.N.length)) λf _ c=>Ix.bindx ((i.expr d f).low c) λh x g q=>Ix.bind (Up.need g) λn _ j=>Ix.ok j q
 block d s:=Up.bind (Up.need (vQ _)) λf _ c=>Up.bind ((i.blockL d f _).low c) λh _ g=>(Ix.add g).up
 blockL d s acc:=by
  show Up _ (if _ then _ else _);split
  · exact Up.ok (vQ _)
  · exact Up.bind (i.stmt d s) λf _ c=>(i.blockL d f _).low c
 stmt d s:=Up.inside λd=>i.any d s
 any d s:=by
  show Up _ (if _ then _ else _);split
  · split
    · exact Up.bind (i.typeIf (vQ s.N.length)) λf _ c=>Up.bind (Up.need c) λh _ g=>Up.bind ((i.expr d h).up.low g) λn _ j=>Up.bind (Up.need j) λo _ k=>(Ix.add k).up
    · exact Up.flt
  split
  · exact Up.bind (i.expr d s.nx).up λf _ c=>Up.bind (Up.need c) λh _ g=>(Ix.add g).up
  split
  · exact Up.bind (i.expr d s.nx).up λf _ c=>Up.bind (Up.need c) λh _ g=>(Ix.add g).up
  split
  · refine Up.bind (Up.need (vQ s.N.length)) λf _ c=>Up.bind ((i.expr d f).up.low c) λh _ g=>Up.bind (Up.need g) λn _ j=>Up.bind ((i.block d n).low j) λo _ k=>Up.bind ?_ λv _ t=>(Ix.add t).up;split
    · exact(i.block d o.nx).low k
    · exact Up.ok k
  split
  · exact Up.bind (Up.need (vQ s.N.length)) λf _ c=>Up.bind ((i.expr d f).up.low c) λh _ g=>Up.bind (Up.need g) λn _ j=>Up.bind ((i.block d n).low j) λo _ k=>(Ix.add k).up
  · refine Up.bindx (i.expr d s) λf x c q=> ?_;split
    · split
      · exact Up.flt
      · have u:s.N.length<=(f.N.take x.toNat).length:=by rw[List.length_take];omega
        exact Up.bind ((i.expr d ⟨f.i+1,f.N.take x.toNat,f.T⟩).up.low u) λh _ g=>Up.bind (Up.need g) λn _ j=>(Ix.add j).up
    · exact Up.bind (Up.need c) λh _ g=>(Ix.add g).up
 progL d s acc:=by
  show Up _ (if _ then _ else _);split
  · exact Up.ok (vQ _)
  · exact Up.bind (i.stmt d s) λf _ c=>(i.progL d f _).low c
theorem I9c(L:List Tk):∀f,Nla (sp' L f)
 |0=>⟨λ_ _=>Up.none,λ_ _=>Up.none,λ_ _ _=>Up.none,λ_ _=>Up.none,λ_ _ _=>Up.none,λ_ _=>Up.none,λ_ _ _ _ _ _=>Up.none,λ_ _=>Ix.none,λ_ _=>Ix.none,λ_ _=>Ix.none,λ_ _=>Ix.none,λ_ _ _ _=>Rx.none,λ_ _=>Ix.none,λ_ _ _=>Rx.none,λ_ _=>Ix.none,λ_ _=>Up.none,λ_ _ _=>Up.none,λ_ _=>Up.none,λ_ _=>Up.none,λ_ _ _=>Up.none⟩
 |f+1=>Z9c L _ (I9c L f)
theorem H7d{L:List Tk}(d:Nat)(s b:St)(x:Int)(h:Ev L (λr=>r.expr d s) (.ok b x)):(s.N.length:Int)<=x:=by
 obtain⟨f,a⟩:=h;exact((I9c L f).expr d s _ _ (a f (vQ _))).2
theorem k1{b:List Nt}{x:Int}(h:b.map Nt.k=[x]):∃a,b=[a]/\a.k=x:=by
 match b,h with
 |[a],h=>exact⟨a,rfl,by simpa using h⟩
 |[],h=>simp at h
 |_::_::_,h=>simp at h
theorem k2{c:List Nt}{x y:Int}(h:c.map Nt.k=[x,y]):∃a b,c=[a,b]/\a.k=x/\b.k=y:=by
 match c,h with
 |[a,b],h=>exact⟨a,b,rfl,by simpa using h⟩
 |[],h=>simp at h
 |[_],h=>simp at h
 |_::_::_::_,h=>simp at h
theorem k3{d:List Nt}{x y z:Int}(h:d.map Nt.k=[x,y,z]):∃a b c,d=[a,b,c]/\a.k=x/\b.k=y/\c.k=z:=by
 match d,h with
 |[a,b,c],h=>exact⟨a,b,c,rfl,by simpa using h⟩
 |[],h=>simp at h
 |[_],h=>simp at h
 |[_,_],h=>simp at h
 |_::_::_::_::_,h=>simp at h
theorem E5a{a:Nt}(b:Gd a)(h:isT a.k):∃t,a= .ty t:=by
 cases a with
 |ty t=>exact⟨t,rfl⟩
 |nd k e n d=>
  exfalso;rw[Gd]at b;have c:=b.1;rcases h with h|h<;>(simp only[Nt.k]at h;subst h;simp[shp]at c)
theorem at1{N:List Nd}{T:List Ty}{a:Nt}{i:Int}(h:AtL N T [a] [i]):At N T a i:=by
 rw[AtL]at h;obtain⟨c,d,e,b,_⟩:=h;simp only[List.cons.injEq]at e;rw[e.1];exact b
theorem at2Q{N:List Nd}{T:List Ty}{a b:Nt}{i j:Int}(h:AtL N T [a,b] [i,j]):At N T a i/\At N T b j:=by
 rw[AtL]at h;obtain⟨f,g,e,c,d⟩:=h;simp only[List.cons.injEq]at e;obtain⟨rfl,rfl⟩:=e;exact⟨c,at1 d⟩
theorem at3{N:List Nd}{T:List Ty}{a b c:Nt}{i j k:Int}(h:AtL N T [a,b,c] [i,j,k]):At N T a i/\At N T b j/\At N T c k:=by
 rw[AtL]at h;obtain⟨g,l,e,d,f⟩:=h;simp only[List.cons.injEq]at e;obtain⟨rfl,rfl⟩:=e;exact⟨d,at2Q f⟩
theorem E9a(t:Nt):1<=szN t:=by
 cases t<;>simp[szN]
theorem K4a:∀a:List Nt,a.length<=D8 a
 |[]=>vQ _
 |p::r=>by
  have b:=E9a p;have c:=K4a r;rw[D8,jQ];omega
mutual
def nTy:Tr->Nat
 | .nd _ _ a=>M3 a+1
def M3:List Tr->Nat
 |[]=>0
 |t::r=>nTy t+M3 r
end
def ixT:Nat->List Tr->uZ
 |_,[]=>[]
 |b,t::r=>(((b+nTy t:Nat):Int) - 1)::ixT (b+nTy t) r
def G0a(k:Int)(b:List bZ)(a:uZ):Ty:=
 if k=7 then ⟨7,b.zip a,[],0⟩ else if k=8 then ⟨8,[],[],a.headD 0⟩ else if k=10 then ⟨10,[],a,0⟩ else ⟨k,[],[],0⟩
mutual
def emT(b:Nat):Tr->List Ty
 | .nd k c a=>if k=9 then emB b a else M9 b a++[G0a k c (ixT b a)]
def M9(b:Nat):List Tr->List Ty
 |[]=>[]
 |t::r=>emT b t++M9 (b+nTy t) r
def emB(b:Nat):List Tr->List Ty
 |[]=>[⟨9,[],[],0⟩]
 |t::r=>M9 b r++emT (b+M3 r) t++[⟨9,[],ixT b r,((b+M3 r+nTy t:Nat):Int) - 1⟩]
end
mutual
def nN:Nt->Nat
 | .ty _=>0
 | .nd _ _ _ a=>nNL a+1
def nNL:List Nt->Nat
 |[]=>0
 |p::r=>nN p+nNL r
end
mutual
def nT:Nt->Nat
 | .ty none=>0
 | .ty (some t)=>nTy t
 | .nd _ _ _ a=>nTL a
def nTL:List Nt->Nat
 |[]=>0
 |p::r=>nT p+nTL r
end
def ixN(b c:Nat):Nt->Int
 | .ty none=>-1
 | .ty (some t)=>((c+nTy t:Nat):Int) - 1
 | .nd k d n a=>((b+nN (.nd k d n a):Nat):Int) - 1
def ixL:Nat->Nat->List Nt->uZ
 |_,_,[]=>[]
 |b,a,p::r=>ixN b a p::ixL (b+nN p) (a+nT p) r
def mkN(k:Int)(b:bZ)(n:Int)(a:uZ):Nd:=
 if k=6 then ⟨6,a.getLastD 0,0,0,a.dropLast.dropLast,b,n,a.dropLast.getLastD 0,0⟩
 else if k=7 then ⟨7,a.headD 0,0,0,a.tail,b,n,-1,0⟩
 else if k=10\/k=11\/k=26 then ⟨k,0,0,0,a,b,n,-1,0⟩
 else if k=14 then ⟨14,a.getD 0 0,0,0,[],b,n,a.getD 1 0,0⟩
 else if k=16 then ⟨16,0,0,0,[],b,n,a.getD 0 0,0⟩
 else if k=17 then ⟨17,a.getD 1 0,0,0,[],b,n,a.getD 0 0,0⟩
 else ⟨k,a.getD 0 0,a.getD 1 0,a.getD 2 0,[],b,n,-1,0⟩
mutual
def emN(b a:Nat):Nt->List Nd
 | .ty _=>[]
 | .nd k d n c=>R9 b a c++[mkN k d n (ixL b a c)]
def R9(b a:Nat):List Nt->List Nd
 |[]=>[]
 |p::r=>emN b a p++R9 (b+nN p) (a+nT p) r
end
mutual
def emY(a:Nat):Nt->List Ty
 | .ty none=>[]
 | .ty (some t)=>emT a t
 | .nd _ _ _ b=>W9 a b
def W9(a:Nat):List Nt->List Ty
 |[]=>[]
 |p::r=>emY a p++W9 (a+nT p) r
end
mutual
theorem Z8(b a:Nat):∀t:Nt,(emN b a t).length=nN t
 | .ty _=>rfl
 | .nd k d n c=>by rw[emN,qQ,S7 b a c,nN];rfl
theorem S7(b a:Nat):∀c:List Nt,(R9 b a c).length=nNL c
 |[]=>rfl
 |p::r=>by rw[R9,qQ,Z8 b a p,S7 _ _ r,nNL]
end
mutual
theorem D3a(b:Nat):∀t:Tr,(emT b t).length=nTy t
 | .nd k c a=>by
  rw[emT,nTy];split
  · exact U4d b a
  · rw[qQ,G9a b a];rfl
theorem G9a(b:Nat):∀l:List Tr,(M9 b l).length=M3 l
 |[]=>rfl
 |t::r=>by rw[M9,qQ,D3a b t,G9a _ r,M3]
theorem U4d(b:Nat):∀l:List Tr,(emB b l).length=M3 l+1
 |[]=>rfl
 |t::r=>by
  rw[emB,qQ,qQ,G9a b r,D3a _ t,M3];simp only[jQ,xQ];omega
end
mutual
theorem I4a(a:Nat):∀t:Nt,(emY a t).length=nT t
 | .ty none=>rfl
 | .ty (some t)=>by rw[emY,D3a,nT]
 | .nd k c n b=>by rw[emY,L0a a b,nT]
theorem L0a(a:Nat):∀b:List Nt,(W9 a b).length=nTL b
 |[]=>rfl
 |p::r=>by rw[W9,qQ,I4a a p,L0a _ r,nTL]
end
theorem M2a(t:Tr):1<=nTy t:=by
 cases t with
 |nd k b a=>rw[nTy];omega
def Nd.fl(n:Nd):Nd:=⟨n.kind,n.a,n.b,n.c,n.list,n.text,n.n,n.ty,0⟩
theorem T1d(k:Int)(a:uZ)(n:Nd):J7 k a n.fl ↔ J7 k a n:=Iff.rfl
theorem T0d{k:Int}{q:bZ}{n:Int}{e g:uZ}(d:shp k e)(f:e.length=g.length):J7 k g (mkN k q n g):=by
 have p:k=1\/k=2\/k=3\/k=4\/k=5\/k=6\/k=7\/k=8\/k=9\/k=10\/k=11\/k=12\/k=13\/k=14\/k=15\/k=16\/k=17\/k=18\/k=19\/k=20\/k=21\/k=22\/k=23\/k=24\/k=25\/k=26:=by
  refine Classical.byContradiction λh=> ?_;rw[shp,yY (by omega),yY (by omega),yY (by omega),yY (by omega),yY (by omega),yY (by omega),yY (by omega),yY (by omega),yY (by omega),yY (by omega),yY (by omega),yY (by omega),yY (by omega),yY (by omega)]at d;exact d
 have i:∀{l:uZ},l.length=1->l=[l.getD 0 0]:=λ{l} h=>by match l,h with|[a],_=>rfl
 have j:∀{l:uZ},l.length=2->l=[l.getD 0 0,l.getD 1 0]:=λ{l} h=>by match l,h with|[a,b],_=>rfl
 have o:∀{l:uZ},l.length=3->l=[l.getD 0 0,l.getD 1 0,l.getD 2 0]:=λ{l} h=>by match l,h with|[a,b,c],_=>rfl
 rcases p with rfl|rfl|rfl|rfl|rfl|rfl|rfl|rfl|rfl|rfl|rfl|rfl|rfl|rfl|rfl|rfl|rfl|rfl|rfl|rfl|rfl|rfl|rfl|rfl|rfl|rfl
 · have h:e=[]:=by simpa[shp]using d
   show g=[];exact iY (by rw[<-f,h];rfl)
 · have h:e=[]:=by simpa[shp]using d
   show g=[];exact iY (by rw[<-f,h];rfl)
 · have h:e=[]:=by simpa[shp]using d
   show g=[];exact iY (by rw[<-f,h];rfl)
 · have h:e=[]:=by simpa[shp]using d
   show g=[];exact iY (by rw[<-f,h];rfl)
 · have h:e=[]:=by simpa[shp]using d
   show g=[];exact iY (by rw[<-f,h];rfl)
 · obtain⟨a,r,h,_⟩:∃a r,e=a++[r,26]/\(∀x∈a,x=16)/\isT r:=by simpa[shp]using d
   exact⟨rfl,rfl,rfl,by rw[<-f,h];simp⟩
 · obtain⟨x,m,h,_⟩:∃x m,e=x::m/\isE x/\∀y∈m,isE y:=by simpa[shp]using d
   exact⟨rfl,rfl,by rw[<-f,h];simp⟩
 · obtain⟨x,h,_⟩:∃x,e=[x]/\isE x:=by simpa[shp]using d
   exact i (by rw[<-f,h];rfl)
 · obtain⟨x,y,h,_⟩:∃x y,e=[x,y]/\isE x/\isE y:=by simpa[shp]using d
   exact j (by rw[<-f,h];rfl)
 · rfl
 · rfl
 · obtain⟨x,y,h,_⟩:∃x y,e=[x,y]/\isE x/\isE y:=by simpa[shp]using d
   exact j (by rw[<-f,h];rfl)
 · obtain⟨x,h,_⟩:∃x,e=[x]/\isE x:=by simpa[shp]using d
   exact i (by rw[<-f,h];rfl)
 · obtain⟨x,h,_⟩:∃x,e=[x,0]/\isE x:=by simpa[shp]using d
   exact j (by rw[<-f,h];rfl)
 · obtain⟨x,h,_⟩:∃x,e=[x]/\isE x:=by simpa[shp]using d
   exact i (by rw[<-f,h];rfl)
 · obtain⟨x,h,_⟩:∃x,e=[x]/\isT x:=by simpa[shp]using d
   exact i (by rw[<-f,h];rfl)
 · obtain⟨x,y,h,_⟩:∃x y,e=[x,y]/\isT x/\isE y:=by simpa[shp]using d
   exact j (by rw[<-f,h];rfl)
 · obtain⟨x,h,_⟩:∃x,e=[x]/\isE x:=by simpa[shp]using d
   exact i (by rw[<-f,h];rfl)
 · obtain⟨x,y,h,_⟩:∃x y,e=[x,y]/\isE x/\isE y:=by simpa[shp]using d
   exact j (by rw[<-f,h];rfl)
 · obtain⟨x,y,z,h,_⟩:∃x y z,e=[x,y,z]/\isE x/\isE y/\isE z:=by simpa[shp]using d
   exact o (by rw[<-f,h];rfl)
 · obtain⟨x,h,_⟩:∃x,e=[x]/\isE x:=by simpa[shp]using d
   exact i (by rw[<-f,h];rfl)
 · obtain⟨x,z,h,_⟩:∃x z,e=[x,26,z]/\isE x/\(z=26\/z= -1):=by simpa[shp]using d
   exact o (by rw[<-f,h];rfl)
 · obtain⟨x,h,_⟩:∃x,e=[x,26]/\isE x:=by simpa[shp]using d
   exact j (by rw[<-f,h];rfl)
 · obtain⟨x,h,_⟩:∃x,e=[x]/\isE x:=by simpa[shp]using d
   exact i (by rw[<-f,h];rfl)
 · obtain⟨x,h,_⟩:∃x,e=[x]/\isE x:=by simpa[shp]using d
   exact i (by rw[<-f,h];rfl)
 · rfl
def nsW(a:List bZ):Nat:=(a.map λn=>n.length+8).sum
mutual
def wg:Tr->Nat
 | .nd _ b a=>16+nsW b+wgL a
def wgL:List Tr->Nat
 |[]=>0
 |t::r=>wg t+5+wgL r
end
theorem S5a:∀l:List Tr,wgL l=(l.map λt=>wg t+5).sum
 |[]=>rfl
 |t::r=>by rw[wgL,S5a r,uY,List.sum_cons]
theorem G4c(l a:List Tr):wgL (l++a)=wgL l+wgL a:=by rw[S5a,S5a,S5a,wY,List.sum_append]
theorem N1d(t:Tr):wgL [t]=wg t+5:=by simp[wgL]
theorem K1b:∀{l:List Tr} {x:Tr},x∈l->wg x+5<=wgL l
 |t::r,x,h=>by
  rw[wgL];rcases jW.1 h with rfl|h
  · omega
  · have:=K1b h;omega
theorem P7b{l a:List Nat}(h:l.Perm a):l.sum=a.sum:=by
 induction h with
 |nil=>rfl
 |cons x _ b=>rw[List.sum_cons,List.sum_cons,b]
 |swap x y l=>simp only[List.sum_cons];omega
 |trans _ _ c d=>rw[c,d]
theorem T4c{l a:List Tr}(h:l.Perm a):wgL l=wgL a:=by rw[S5a,S5a,P7b (h.map _)]
theorem Z1c{l a:List bZ}(h:l.Perm a):nsW l=nsW a:=P7b (h.map _)
theorem U0b:∀(r:List Tr) (b:Bool),(∀x∈r,(txt' x).length<=wg x)->(D1a b r).length<=wgL r
 |[],_,_=>by simp[D1a]
 |t::r,b,h=>by
  have c:=h t (by simp);have d:=U0b r false (λx a=>h x (by simp[a]));rw[D1a,wgL];simp only[qQ];have:(if b=true then ([]:bZ) else [44,32]).length<=2:=by split<;>simp
  omega
theorem T8b:∀(r:List Tr) (b:Bool),(∀x∈r,(txt' x).length<=wg x)->(C2a b r).length<=wgL r
 |[],_,_=>by simp[C2a]
 |t::r,b,h=>by
  have e:=h t (by simp);have f:=T8b r false (λx a=>h x (by simp[a]));rw[C2a,wgL];simp only[qQ];have c:(if b=true then ([]:bZ) else [32,124,32]).length<=3:=by split<;>simp
  have d:(if t.k=10\/t.k=9/\r.length≠0 then [40]++txt' t++[41] else txt' t).length<=(txt' t).length+2:=by split<;>simp
  omega
theorem T9b:∀(r:List Tr) (a:List bZ),(∀x∈r,(txt' x).length<=wg x)->(N4a a r).length<=nsW a+wgL r
 |[],_,_=>by simp[N4a]
 |t::r,a,h=>by
  have c:=h t (by simp);have d:=T9b r a.tail (λx b=>h x (by simp[b]));rw[N4a,wgL];simp only[qQ,jQ,xQ];cases a with
  |nil=>simp only[List.headD_nil,List.tail_nil,xQ]at *;omega
  |cons n a=>
   have e:nsW (n::a)=n.length+8+nsW a:=by simp[nsW]
   simp only[List.headD_cons,List.tail_cons]at *;omega
theorem E0d(k:Int):(U2 k).length<=7:=by
 unfold U2;split
 · simp
 split
 · simp
 split
 · simp
 split
 · simp
 split<;>simp
theorem T7b(t:Tr):(txt' t).length<=wg t:=by
 induction t using Tr.ind with
 |h k d b a=>
  rw[txt',wg];split
  · have c:=T9b b d a;have e:(if d.length=0 then ([]:bZ) else [32]).length<=1:=by split<;>simp
    simp only[qQ,jQ,xQ];omega
  split
  · cases b with
    |nil=>simp[N0c];omega
    |cons t r=>
     have c:=a t (by simp);simp only[N0c,qQ,jQ,xQ,wgL];omega
  split
  · cases b with
    |nil=>simp[Y1b]
    |cons t r=>
     have c:=a t (by simp);have e:=U0b r true (λx f=>a x (by simp[f]));simp only[Y1b,qQ,jQ,xQ,wgL];omega
  split
  · have:=T8b b true a;omega
  · have:=E0d k;omega
theorem O6b:∀(a:List bZ) (l:List Tr),nsW ((a.zip l).map (·.1))<=nsW a
 |[],_=>by simp[nsW]
 |_::_,[]=>by simp[nsW]
 |n::a,t::l=>by
  have:=O6b a l;unfold nsW at *;simp only[List.zip_cons_cons,uY,List.sum_cons]at *;omega
theorem O5b:∀(a:List bZ) (l:List Tr),wgL ((a.zip l).map (·.2))<=wgL l
 |[],_=>by simp[wgL]
 |_::_,[]=>by simp[wgL]
 |n::a,t::l=>by
  have:=O5b a l;simp only[List.zip_cons_cons,uY,wgL]at *;omega
theorem G2c:∀(l:List Tr),(∀x∈l,wg (srt x)<=wg x)->wgL (l.map srt)<=wgL l
 |[],_=>by simp[wgL]
 |t::r,h=>by
  have b:=h t (by simp);have c:=G2c r (λx a=>h x (by simp[a]));simp only[uY,wgL];omega
theorem Z0d(t:Tr):wg (srt t)<=wg t:=by
 induction t using Tr.ind with
 |h k b a e=>
  have i:=G2c a e;by_cases c:k=7
  · subst c;rw[srt,rY rfl,wg,wg];have d:=Y1 (b.zip (E5b a));have f:=Z1c (d.map (·.1));have g:=T4c (d.map (·.2));have j:=O6b b (E5b a);have l:=O5b b (E5b a);rw[P8a]at *;omega
  · rw[T1a c,wg,wg];omega
theorem P3a:∀(l:List Tr),(∀x∈l,wgL (flat x)<=wg x+5)->wgL (J8 l)<=wgL l
 |[],_=>by simp[J8,wgL]
 |t::r,h=>by
  have b:=h t (by simp);have c:=P3a r (λx a=>h x (by simp[a]));rw[J8,G4c,wgL];omega
theorem G1c(t:Tr):wgL (flat t)<=wg t+5:=by
 induction t using Tr.ind with
 |h k c b a=>
  rw[flat];split
  · have:=P3a b a;rw[wg];omega
  · rw[N1d];omega
theorem U5c(t:Tr)(h:Wf t):txt' t≠[]:=by
 induction h with
 |plain k l f=>
  rw[txt',yY (by omega),yY (by omega),yY (by omega),yY (by omega)];unfold U2;split
  · simp
  split
  · simp
  split
  · simp
  split
  · simp
  split<;>simp
 |obj o g a b c d _=>rw[txt',rY rfl];simp
 |arr t a _=>rw[txt',yY (by decide),rY rfl];simp
 |fn t p a b _ _=>rw[txt',yY (by decide),yY (by decide),rY rfl,Y1b];simp
 |uni g f h j=>
  rw[txt',yY (by decide),yY (by decide),yY (by decide),rY rfl];cases g with
  |nil=>simp at f
  |cons t r=>
   have m:0<(txt' t).length:=List.length_pos_iff.2 (j t (by simp));have n:(txt' t).length<=(if t.k=10\/t.k=9/\r.length≠0 then [40]++txt' t++[41] else txt' t).length:=by split<;>simp;omega
   rw[C2a];intro e;have i:=congrArg List.length e;simp only[qQ,xQ]at i;omega
