/-
  A part of the proof.
-/
import Derived.Lib.ItoaNum
import Derived.Lib.Small
import Derived.Lib.Atoi
import Derived.Lib.Bytealg
set_option maxHeartbeats 16000000
set_option maxRecDepth 100000
namespace Go.Proofs.YtfhhipefecekkaaGreatDoor
theorem zQ{α : Type}{a b : α} : (some a = some b) = (a = b) := Option.some.injEq a b
theorem qQ{α : Type}{a b : List α} : (a ++ b).length = a.length + b.length := List.length_append
theorem jQ{α : Type}{a : α}{l : List α} : (a :: l).length = l.length + 1 := rfl
theorem xQ{α : Type} : ([] : List α).length = 0 := rfl
theorem kQ{a b c : Nat}(h : a <= b)(k : b <= c) : a <= c := Nat.le_trans h k
theorem vQ(a : Nat) : a <= a := Nat.le_refl a
theorem wQ(a : Nat) : 0 <= a := Nat.zero_le a
theorem yQ{a b c : Nat}(h : a < b)(k : b <= c) : a < c := Nat.lt_of_lt_of_le h k
theorem lQ{α : Type}{l : List α}{i : Nat}{a : α} : l.getD i a = l[i]?.getD a := List.getD_eq_getElem?_getD ..
theorem gQ{α : Type}{l : List α}{i : Nat}(h : i < l.length) : l[i]? = some l[i] := List.getElem?_eq_getElem h
theorem mQ{α : Type}{l : List α}{i : Nat}(h : i < l.length) : l[i] ∈ l := List.getElem_mem h
theorem nQ{α : Type}{l : List α}{i : Nat}(h : i < l.length) : l.take (i + 1) = l.take i ++ [l[i]] := List.take_succ_eq_append_getElem h
theorem tQ(n : Nat) : ((n : Int)).toNat = n := Int.toNat_natCast n
theorem zW{α : Type}{a b : α} : a ∈ [b] ↔ a = b := List.mem_singleton
theorem qW{α : Type}{a : α}{l k : List α} : a ∈ l ++ k ↔ a ∈ l \/ a ∈ k := List.mem_append
theorem jW{α : Type}{a b : α}{l : List α} : a ∈ b :: l ↔ a = b \/ a ∈ l := List.mem_cons
end Go.Proofs.YtfhhipefecekkaaGreatDoor
namespace Go.Proofs.YtfhhipefecekkaaGreatDoor.M
def dig(n:Nat):Bool:=decide (48<=n) && decide (n<=57)
def let'(n:Nat):Bool:=(decide (97<=n) && decide (n<=122))||(decide (65<=n) && decide (n<=90))||decide (n=95)
def blank(n:Nat):Bool:=decide (n=32)||decide (n=10)
def nam(n:Nat):Bool:=let' n||dig n
def txt(n:Nat):Bool:=decide (32<=n) && decide (n<=126) && decide (n≠34)
def sp(p:Nat->Bool):List UInt8->Nat
 |[]=>0
 |c::r=>if p c.toNat then sp p r+1 else 0
theorem B8a(p:Nat->Bool)(l:List UInt8):sp p l<=l.length:=by
 induction l with
 |nil=>simp[sp]
 |cons c r ih=>simp only[sp];split<;>simp<;>omega
theorem M5a(p:Nat->Bool):∀(l:List UInt8) (k:Nat) (h:k<l.length),k<=sp p l->p l[k].toNat=true->k+1<=sp p l
 |[],_,h,_,_=>by simp at h
 |c::r,0,_,_,hp=>by simp only[List.getElem_cons_zero]at hp;simp[sp,hp]
 |c::r,k+1,h,hk,hp=>by
  simp only[sp]at hk⊢;split at hk
  · rename_i hc;rw[if_pos hc];have:=M5a p r k (by simpa using h) (by omega) (by simpa using hp);omega
  · omega
theorem G9b(p:Nat->Bool):∀(l:List UInt8) (k:Nat) (h:k<l.length),k<=sp p l->p l[k].toNat=false->sp p l=k
 |[],_,h,_,_=>by simp at h
 |c::r,0,_,_,hp=>by simp only[List.getElem_cons_zero]at hp;simp[sp,hp]
 |c::r,k+1,h,hk,hp=>by
  simp only[sp]at hk⊢;split at hk
  · rename_i hc;rw[if_pos hc];have:=G9b p r k (by simpa using h) (by omega) (by simpa using hp);omega
  · omega
def B4d:List (List UInt8):=[[108,101,116],[102,110],[105,102],[101,108,115,101],[119,104,105,108,101],[114,101,116,117,114,110],[112,114,105,110,116],[116,114,117,101],[102,97,108,115,101],[110,117,108,108],[97,115],[116,121,112,101,111,102],[110,117,109],[98,111,111,108],[116,101,120,116],[97,110,121],[117,110,107,110,111,119,110]]
def has(gs:List (List UInt8))(l:List UInt8):Bool:=gs.contains l
def Y3(l:List UInt8):Bool:=has B4d l
def Z8:List (List UInt8):=[[61,61],[61,62],[40],[41],[123],[125],[91],[93],[44],[59],[58],[46],[61],[60],[43],[45],[42],[33],[124]]
def I8(l:List UInt8)(gs:List (List UInt8)):Nat:=gs.foldl (λm g=>if g.isPrefixOf l then max m g.length else m) 0
theorem N7c(l:List UInt8)(gs:List (List UInt8))(k:Nat)(h:k<gs.length):has (gs.take (k+1)) l=(has (gs.take k) l||l==gs[k]):=by
 rw[nQ h];generalize gs.take k=a;generalize gs[k]=b;rw[Bool.eq_iff_iff];simp[has]
theorem Y1c{l:List UInt8}{gs:List (List UInt8)}(h:l∈gs):has gs l=true:=by simp[has,h]
structure Tk where
 kind:Int
 text:List UInt8
 at':Nat
def A3a(l:List UInt8):Int×List UInt8×Nat:=
 if 9<sp dig l\/l.head? =some 48/\1<sp dig l then (0,[],0) else (3,l.take (sp dig l),sp dig l)
def name(l:List UInt8):Int×List UInt8×Nat:=
 if 20<sp nam l then (0,[],0) else (if Y3 (l.take (sp nam l)) then 2 else 1,l.take (sp nam l),sp nam l)
def text(l:List UInt8):Int×List UInt8×Nat:=
 if 30<sp txt l.tail\/(l.tail.drop (sp txt l.tail)).head? ≠some 34 then (0,[],0) else (4,l.tail.take (sp txt l.tail),sp txt l.tail+2)
def W4a(l:List UInt8):Int×List UInt8×Nat:=
 if I8 l Z8=0 then (0,[],0) else (5,l.take (I8 l Z8),I8 l Z8)
def first(l:List UInt8):Int×List UInt8×Nat:=
 match l.head? with
 |none=>(0,[],0)
 |some c=>if dig c.toNat then A3a l else if let' c.toNat then name l else if c.toNat=34 then text l else W4a l
def O0:Nat->List UInt8->Nat->List Tk->List Tk×Int×Nat
 |0,_,_,_=>([],0,0)
 |f+1,l,a,acc=>
  if l.length<=a+sp blank (l.drop a) then (acc++[⟨6,[],l.length⟩],0,0)
  else if (first (l.drop (a+sp blank (l.drop a)))).2.2=0 then ([],1,a+sp blank (l.drop a))
  else if acc.length=1000 then ([],2,a+sp blank (l.drop a))
  else O0 f l (a+sp blank (l.drop a)+(first (l.drop (a+sp blank (l.drop a)))).2.2)
   (acc++[⟨(first (l.drop (a+sp blank (l.drop a)))).1,(first (l.drop (a+sp blank (l.drop a)))).2.1,a+sp blank (l.drop a)⟩])
def I5(l:List UInt8):List Tk×Int×Nat:=if 4000<l.length then ([],2,0) else O0 (l.length+1) l 0 []
theorem longest_len(l:List UInt8):∀(gs:List (List UInt8)) (m:Nat),m<=l.length->gs.foldl (λm g=>if g.isPrefixOf l then max m g.length else m) m<=l.length
 |[],m,hm=>hm
 |g::r,m,hm=>by
  simp only[List.foldl_cons];refine longest_len l r _ ?_;split
  · rename_i h;exact Nat.max_le.2 ⟨hm,(List.isPrefixOf_iff_prefix.1 h).length_le⟩
  · exact hm
theorem K8b(l:List UInt8):(first l).2.2<=l.length:=by
 unfold first;cases h:l.head? with
 |none=>simp
 |some c=>
  simp only;split
  · unfold A3a;split
    · simp
    · exact B8a _ _
  split
  · unfold name;split
    · simp
    · exact B8a _ _
  split
  · unfold text;split
    · simp
    · rename_i h1;rw[not_or]at h1;have h2:(l.tail.drop (sp txt l.tail)).head? =some 34:=Classical.not_not.1 h1.2;have h3:sp txt l.tail<l.tail.length:=by
       apply Classical.byContradiction;intro h4;rw[List.drop_of_length_le (by omega)]at h2;simp at h2
      rw[List.length_tail]at h3;show sp txt l.tail+2<=l.length;omega
  · unfold W4a;split
    · simp
    · exact longest_len l Z8 0 (by omega)
theorem H6b(f:Nat)(l:List UInt8)(a:Nat)(acc:List Tk)(hb:sp blank (l.drop a)=0):O0 (f+1) l a acc=
 if l.length<=a then (acc++[⟨6,[],l.length⟩],0,0)
 else if (first (l.drop a)).2.2=0 then ([],1,a)
 else if acc.length=1000 then ([],2,a)
 else O0 f l (a+(first (l.drop a)).2.2) (acc++[⟨(first (l.drop a)).1,(first (l.drop a)).2.1,a⟩]):=by
 simp only[O0,hb,Nat.add_zero]
theorem Q3a(p:Nat->Bool):∀(l:List UInt8),sp p (l.drop (sp p l))=0
 |[]=>by simp[sp]
 |c::r=>by
  simp only[sp];split
  · rw[List.drop_succ_cons];exact Q3a p r
  · rename_i h;simp[sp,h]
theorem S3a(f:Nat)(l:List UInt8)(a:Nat)(acc:List Tk):O0 (f+1) l a acc=O0 (f+1) l (a+sp blank (l.drop a)) acc:=by
 have h:=Q3a blank (l.drop a);rw[List.drop_drop]at h;rw[H6b f l (a+sp blank (l.drop a)) acc h];simp only[O0]
def plain(k:Int):Bool:=k==1||k==2||k==3
theorem O2b(p:Nat->Bool):∀(l:List UInt8) (h:sp p l<l.length),p l[sp p l].toNat=false
 |[],h=>by simp[sp]at h
 |c::r,h=>by
  cases hc:p c.toNat
  · simp[sp,hc]
  · have h2:sp p (c::r)=sp p r+1:=by simp[sp,hc]
    simp only[h2,List.getElem_cons_succ];rw[h2]at h;exact O2b p r (by simpa using h)
theorem B7b(p:Nat->Bool):∀(l:List UInt8) (k:Nat) (h:k<l.length),k<sp p l->p l[k].toNat=true
 |[],k,h,_=>by simp at h
 |c::r,0,_,hk=>by
  cases hc:p c.toNat
  · simp[sp,hc]at hk
  · simpa using hc
 |c::r,k+1,h,hk=>by
  cases hc:p c.toNat
  · simp[sp,hc]at hk
  · simp only[sp,hc,if_true]at hk;simpa using B7b p r k (by simpa using h) (by omega)
structure B2d(l:List UInt8)(r:Int×List UInt8×Nat):Prop where
 le:r.2.2<=l.length
 size:r.2.2=r.2.1.length+if r.1=4 then 2 else 0
 kind:r.1≠6
 name:r.1=1\/r.1=2->(∀h:0<l.length,let' l[0].toNat=true)/\(∀h:r.2.2<l.length,nam l[r.2.2].toNat=false)
 num:r.1=3->(∀h:0<l.length,dig l[0].toNat=true)/\(∀h:r.2.2<l.length,dig l[r.2.2].toNat=false)
theorem P3c(l:List UInt8)(hr:(first l).2.2≠0):B2d l (first l):=by
 have hle:=K8b l;unfold first at hr hle⊢;cases hh:l.head? with
 |none=>rw[hh]at hr;simp at hr
 |some c=>
  rw[hh]at hr hle;simp only at hr hle⊢;have h0:∀h:0<l.length,l[0]=c:=by
   intro h;rw[List.head?_eq_getElem?,gQ h]at hh;exact Option.some.inj hh
  cases hd:dig c.toNat
  · rw[hd]at hr hle;cases hl:let' c.toNat
    · rw[hl]at hr hle;by_cases h34:c.toNat=34
      · rw[if_pos h34]at hr hle⊢;simp only[Bool.false_eq_true,if_false]at hr hle⊢;unfold text at hr hle⊢;split at hr
        · simp at hr
        · rename_i hn;rw[if_neg hn]at hle⊢;have h2:sp txt l.tail+2<=l.length:=hle;refine⟨hle, ?_,by simp,by simp,by simp⟩
          simp;omega
      · rw[if_neg h34]at hr hle⊢;simp only[Bool.false_eq_true,if_false]at hr hle⊢;unfold W4a at hr hle⊢;split at hr
        · simp at hr
        · rename_i hn;rw[if_neg hn]at hle⊢;have h2:I8 l Z8<=l.length:=hle;refine⟨hle, ?_,by simp,by simp,by simp⟩
          simp;omega
    · rw[hl]at hr hle;simp only[Bool.false_eq_true,if_false,if_true]at hr hle⊢;unfold name at hr hle⊢;split at hr
      · simp at hr
      · rename_i hn;rw[if_neg hn]at hle⊢;have h2:sp nam l<=l.length:=hle;refine⟨hle, ?_, ?_, ?_, ?_⟩
        · cases Y3 (l.take (sp nam l))<;>simp<;>omega
        · cases Y3 (l.take (sp nam l))<;>simp
        · intro _;exact⟨λh=>by rw[h0 h];exact hl,λh=>O2b nam l h⟩
        · cases Y3 (l.take (sp nam l))<;>simp
  · rw[hd]at hr hle;simp only[if_true]at hr hle⊢;unfold A3a at hr hle⊢;split at hr
    · simp at hr
    · rename_i hn;rw[if_neg hn]at hle⊢;have h2:sp dig l<=l.length:=hle;refine⟨hle, ?_,by simp,by simp, ?_⟩
      · simp;omega
      · intro _;exact⟨λh=>by rw[h0 h];exact hd,λh=>O2b dig l h⟩
structure Ty where
 kind:Int
 fields:List (List UInt8×Int)
 list:List Int
 of':Int
structure Nd where
 kind:Int
 a:Int
 b:Int
 c:Int
 list:List Int
 text:List UInt8
 n:Int
 ty:Int
 at':Int
structure St where
 i:Nat
 N:List Nd
 T:List Ty
inductive Out(α:Type) where
 |ok (s:St) (x:α)
 |fail (e:Int) (p:Int)
def tk(L:List Tk)(i:Nat):Tk:=L.getD i ⟨6,[],0⟩
def isM(L:List Tk)(i:Nat)(ms:List (List UInt8)):Bool:=((tk L i).kind==5||(tk L i).kind==2) && has ms (tk L i).text
def flt{α:Type}(L:List Tk)(i:Nat)(e:Int):Option (Out α):=some (.fail e ((tk L i).at':Int))
def St.nx(s:St):St:=⟨s.i+1,s.N,s.T⟩
def need(L:List Tk)(s:St)(m:List UInt8):Option (Out Unit):=if isM L s.i [m] then some (.ok s.nx ()) else flt L s.i 1
def addT(s:St)(t:Ty):Option (Out Int):=some (.ok ⟨s.i,s.N,s.T++[t]⟩ s.T.length)
def addN(s:St)(n:Nd):Option (Out Int):=some (.ok ⟨s.i,s.N++[n],s.T⟩ s.N.length)
def nd0:Nd:=⟨0,0,0,0,[],[],0,-1,0⟩
def atN(s:St)(n:Int):Int:=(s.N.getD n.toNat nd0).at'
def A4{α β:Type}(x:Option (Out α))(k:St->α->Option (Out β)):Option (Out β):=
 match x with
 |none=>none
 |some (.fail e p)=>some (.fail e p)
 |some (.ok s a)=>k s a
def Z4:List (List UInt8):=[[110,117,109],[98,111,111,108],[116,101,120,116],[110,117,108,108],[97,110,121],[117,110,107,110,111,119,110],[123],[91],[40]]
def A6a:List (List UInt8):=[[116,114,117,101],[102,97,108,115,101],[110,117,108,108],[102,110],[40],[91],[123],[33],[45],[116,121,112,101,111,102]]
def S2a:List (List UInt8):=[[108,101,116],[112,114,105,110,116],[114,101,116,117,114,110],[105,102],[119,104,105,108,101]]
def H0a(L:List Tk)(i:Nat):Bool:=(tk L i).kind==1||(tk L i).kind==3||(tk L i).kind==4||isM L i A6a
def H9d(L:List Tk)(i:Nat):Bool:=isM L i S2a||H0a L i
def I1(t:List UInt8):Int:=
 if t=[110,117,109] then 1 else if t=[98,111,111,108] then 2 else if t=[116,101,120,116] then 3 else if t=[110,117,108,108] then 4 else if t=[97,110,121] then 5 else if t=[117,110,107,110,111,119,110] then 6 else 0
inductive Q0a where
 |typ|expr|obj|par
structure Sp where
 typ:Nat->St->Option (Out Int)
 union:Nat->St->Option (Out Int)
 unionL:Nat->St->List Int->Option (Out (List Int))
 member:Nat->St->Option (Out Int)
 objL:Nat->St->List (List UInt8×Int)->Option (Out Int)
 fob:Nat->St->Option (Out Int)
 list:Q0a->List UInt8->Nat->St->List (List UInt8)->List Int->Option (Out (List Int))
 expr:Nat->St->Option (Out Int)
 comp:Nat->St->Option (Out Int)
 sum:Nat->St->Option (Out Int)
 prod:Nat->St->Option (Out Int)
 row:Bool->Nat->St->Int->Option (Out Int)
 oper:Nat->St->Option (Out Int)
 tail:Nat->St->Int->Option (Out Int)
 simple:Nat->St->Option (Out Int)
 block:Nat->St->Option (Out Int)
 blockL:Nat->St->List Int->Option (Out (List Int))
 stmt:Nat->St->Option (Out Int)
 any:Nat->St->Option (Out Int)
 progL:Nat->St->List Int->Option (Out (List Int))
def inside(L:List Tk)(begins:Bool)(d:Nat)(s:St)(part:Nat->St->Option (Out Int)):Option (Out Int):=
 if begins then if 20<=d then flt L s.i 8 else part (d+1) s else flt L s.i 1
def J2:Bool->List (List UInt8)
 |true=>[[43],[45]]
 |false=>[[42]]
def two(L:List Tk)(s:St)(left:Int)(part:St->Option (Out Int)):Option (Out Int):=
 A4 (part s.nx) λs' x=>addN s' ⟨12,left,x,0,[],(tk L s.i).text,0,-1,atN s' left⟩
def typeIf(L:List Tk)(r:Sp)(d:Nat)(s:St):Option (Out Int):=if isM L s.i [[58]] then r.typ d s.nx else some (.ok s (-1))
def newName(L:List Tk)(s:St)(names:List (List UInt8)):Option (Out (List UInt8)):=
 if (tk L s.i).kind=1 then if has names (tk L s.i).text then flt L s.i 6 else some (.ok s.nx (tk L s.i).text) else flt L s.i 1
def part(L:List Tk)(r:Sp)(d:Nat)(s:St)(names:List (List UInt8)):Q0a->Option (Out (Int×List (List UInt8)))
 | .typ=>A4 (r.typ d s) λs x=>some (.ok s (x,names))
 | .expr=>A4 (r.expr d s) λs x=>some (.ok s (x,names))
 | .obj=>A4 (newName L s names) λs1 nm=>A4 (need L s1 [58]) λs2 _=>A4 (r.expr d s2) λs3 x=>
  A4 (addN s3 ⟨15,x,0,0,[],nm,0,-1,(tk L s.i).at'⟩) λs4 y=>some (.ok s4 (y,names++[nm]))
 | .par=>A4 (newName L s names) λs1 nm=>A4 (typeIf L r d s1) λs2 t=>
  A4 (addN s2 ⟨16,0,0,0,[],nm,0,t,(tk L s.i).at'⟩) λs3 y=>some (.ok s3 (y,names++[nm]))
def G9a(k:Int):Int:=if k=5 then 18 else if k=8 then 19 else if k=9 then 20 else 0
def B9a(n:Nd)(v:Int):Nd:=
 if n.kind=5 then ⟨18,v,n.b,n.c,n.list,n.text,n.n,-1,n.at'⟩
 else if n.kind=8 then ⟨19,n.a,v,n.c,n.list,n.text,n.n,-1,n.at'⟩
 else ⟨20,n.a,n.b,v,n.list,n.text,n.n,-1,n.at'⟩
def E2a(l:List UInt8):Int:=l.foldl (λn c=>10 * n+(c.toNat:Int) - 48) 0
def step(L:List Tk)(r:Sp):Sp where
 typ d s:=inside L (isM L s.i Z4) d s r.union
 union d s:=A4 (r.member d s) λs x=>if isM L s.i [[124]] then A4 (r.unionL d s [x]) λs l=>addT s ⟨10,[],l,0⟩ else some (.ok s x)
 unionL d s acc:=if isM L s.i [[124]] then A4 (r.member d s.nx) λs x=>r.unionL d s (acc++[x]) else some (.ok s acc)
 member d s:=
  if isM L s.i [[123]] then r.objL d s.nx []
  else if isM L s.i [[91]] then A4 (r.typ d s.nx) λs x=>A4 (need L s [93]) λs _=>addT s ⟨8,[],[],x⟩
  else if isM L s.i [[40]] then r.fob d s.nx
  else if (tk L s.i).kind=2/\I1 (tk L s.i).text≠0 then addT s.nx ⟨I1 (tk L s.i).text,[],[],0⟩ else flt L s.i 1
 objL d s fields:=
  if isM L s.i [[125]] then addT s.nx ⟨7,fields,[],0⟩
  else A4 (newName L s (fields.map (·.1))) λs nm=>A4 (need L s [58]) λs _=>A4 (r.typ d s) λs x=>A4 (need L s [59]) λs _=>r.objL d s (fields++[(nm,x)])
 fob d s:=A4 (r.list .typ [41] d s [] []) λs l=>
  if isM L s.i [[61,62]] then A4 (r.typ d s.nx) λs x=>addT s ⟨9,[],l,x⟩
  else match l with
   |[x]=>some (.ok s x)
   |_=>flt L s.i 1
 list p e d s names acc:=
  if isM L s.i [e] then some (.ok s.nx acc)
  else A4 (if acc.length=0 then some (.ok s ()) else need L s [44]) λs _=>A4 (part L r d s names p) λs x=>r.list p e d s x.2 (acc++[x.1])
 expr d s:=inside L (H0a L s.i) d s r.comp
 comp d s:=A4 (r.sum d s) λs x=>if isM L s.i [[61,61],[60]] then two L s x (r.sum d) else some (.ok s x)
 sum d s:=A4 (r.prod d s) λs x=>r.row true d s x
 prod d s:=A4 (r.oper d s) λs x=>r.row false d s x
 row b d s x:=if isM L s.i (J2 b) then A4 (two L s x (if b then r.prod d else r.oper d)) λs y=>r.row b d s y else some (.ok s x)
 oper d s:=
  if isM L s.i [[33],[45],[116,121,112,101,111,102]] then A4 (inside L (H0a L (s.i+1)) d s.nx r.oper) λs' x=>addN s' ⟨13,x,0,0,[],(tk L s.i).text,0,-1,(tk L s.i).at'⟩
  else A4 (r.simple d s) λs x=>r.tail d s x
 tail d s h:=
  if isM L s.i [[40]] then A4 (r.list .expr [41] d s.nx [] []) λs' l=>A4 (addN s' ⟨7,h,0,0,l,[],0,-1,atN s h⟩) λs x=>r.tail d s x
  else if isM L s.i [[46]] then
   if (tk L (s.i+1)).kind=1 then A4 (addN s.nx.nx ⟨8,h,0,0,[],(tk L (s.i+1)).text,0,-1,atN s h⟩) λs x=>r.tail d s x else flt L (s.i+1) 1
  else if isM L s.i [[91]] then A4 (r.expr d s.nx) λs' x=>A4 (need L s' [93]) λs' _=>A4 (addN s' ⟨9,h,x,0,[],[],0,-1,atN s h⟩) λs x=>r.tail d s x
  else if isM L s.i [[97,115]] then A4 (r.typ d s.nx) λs' t=>A4 (addN s' ⟨14,h,0,0,[],[],0,t,atN s h⟩) λs x=>r.tail d s x
  else some (.ok s h)
 simple d s:=
  if (tk L s.i).kind=3 then addN s.nx ⟨1,0,0,0,[],[],E2a (tk L s.i).text,-1,(tk L s.i).at'⟩
  else if (tk L s.i).kind=4 then addN s.nx ⟨2,0,0,0,[],(tk L s.i).text,0,-1,(tk L s.i).at'⟩
  else if (tk L s.i).kind=1 then addN s.nx ⟨5,0,0,0,[],(tk L s.i).text,0,-1,(tk L s.i).at'⟩
  else if isM L s.i [[116,114,117,101]] then addN s.nx ⟨3,0,0,0,[],[],1,-1,(tk L s.i).at'⟩
  else if isM L s.i [[102,97,108,115,101]] then addN s.nx ⟨3,0,0,0,[],[],0,-1,(tk L s.i).at'⟩
  else if isM L s.i [[110,117,108,108]] then addN s.nx ⟨4,0,0,0,[],[],0,-1,(tk L s.i).at'⟩
  else if isM L s.i [[102,110]] then A4 (need L s.nx [40]) λs1 _=>A4 (r.list .par [41] d s1 [] []) λs2 l=>A4 (typeIf L r d s2) λs3 t=>A4 (r.block d s3) λs4 x=>
   addN s4 ⟨6,x,0,0,l,[],0,t,(tk L s.i).at'⟩
  else if isM L s.i [[91]] then A4 (r.list .expr [93] d s.nx [] []) λs' l=>addN s' ⟨11,0,0,0,l,[],0,-1,(tk L s.i).at'⟩
  else if isM L s.i [[123]] then A4 (r.list .obj [125] d s.nx [] []) λs' l=>addN s' ⟨10,0,0,0,l,[],0,-1,(tk L s.i).at'⟩
  else A4 (need L s [40]) λs _=>A4 (r.expr d s) λs x=>A4 (need L s [41]) λs _=>some (.ok s x)
 block d s:=A4 (need L s [123]) λs1 _=>A4 (r.blockL d s1 []) λs2 l=>addN s2 ⟨26,0,0,0,l,[],0,-1,(tk L s.i).at'⟩
 blockL d s acc:=if isM L s.i [[125]] then some (.ok s.nx acc) else A4 (r.stmt d s) λs x=>r.blockL d s (acc++[x])
 stmt d s:=inside L (H9d L s.i) d s r.any
 any d s:=
  if isM L s.i [[108,101,116]] then
   if (tk L (s.i+1)).kind=1 then A4 (typeIf L r d s.nx.nx) λs1 t=>A4 (need L s1 [61]) λs2 _=>A4 (r.expr d s2) λs3 x=>A4 (need L s3 [59]) λs4 _=>
    addN s4 ⟨17,x,0,0,[],(tk L (s.i+1)).text,0,t,(tk L s.i).at'⟩
   else flt L (s.i+1) 1
  else if isM L s.i [[112,114,105,110,116]] then A4 (r.expr d s.nx) λs1 x=>A4 (need L s1 [59]) λs2 _=>addN s2 ⟨21,x,0,0,[],[],0,-1,(tk L s.i).at'⟩
  else if isM L s.i [[114,101,116,117,114,110]] then A4 (r.expr d s.nx) λs1 x=>A4 (need L s1 [59]) λs2 _=>addN s2 ⟨24,x,0,0,[],[],0,-1,(tk L s.i).at'⟩
  else if isM L s.i [[105,102]] then A4 (need L s.nx [40]) λs1 _=>A4 (r.expr d s1) λs2 x=>A4 (need L s2 [41]) λs3 _=>A4 (r.block d s3) λs4 y=>
   A4 (if isM L s4.i [[101,108,115,101]] then r.block d s4.nx else some (.ok s4 (-1))) λs5 z=>addN s5 ⟨22,x,y,z,[],[],0,-1,(tk L s.i).at'⟩
  else if isM L s.i [[119,104,105,108,101]] then A4 (need L s.nx [40]) λs1 _=>A4 (r.expr d s1) λs2 x=>A4 (need L s2 [41]) λs3 _=>A4 (r.block d s3) λs4 y=>
   addN s4 ⟨23,x,y,0,[],[],0,-1,(tk L s.i).at'⟩
  else A4 (r.expr d s) λs1 x=>
   if isM L s1.i [[61]] then
    if G9a (s1.N.getD x.toNat nd0).kind=0 then flt L s1.i 1
    else A4 (r.expr d ⟨s1.i+1,s1.N.take x.toNat,s1.T⟩) λs2 v=>A4 (need L s2 [59]) λs3 _=>addN s3 (B9a (s1.N.getD x.toNat nd0) v)
   else A4 (need L s1 [59]) λs2 _=>addN s2 ⟨25,x,0,0,[],[],0,-1,atN s1 x⟩
 progL d s acc:=if (tk L s.i).kind=6 then some (.ok s acc) else A4 (r.stmt d s) λs x=>r.progL d s (acc++[x])
def bot:Sp:=⟨λ_ _=>none,λ_ _=>none,λ_ _ _=>none,λ_ _=>none,λ_ _ _=>none,λ_ _=>none,λ_ _ _ _ _ _=>none,λ_ _=>none,λ_ _=>none,λ_ _=>none,λ_ _=>none,
 λ_ _ _ _=>none,λ_ _=>none,λ_ _ _=>none,λ_ _=>none,λ_ _=>none,λ_ _ _=>none,λ_ _=>none,λ_ _=>none,λ_ _ _=>none⟩
def sp'(L:List Tk):Nat->Sp
 |0=>bot
 |f+1=>step L (sp' L f)
def Ev{α:Type}(L:List Tk)(φ:Sp->Option (Out α))(o:Out α):Prop:=∃f0,∀f,f0<=f->φ (sp' L f)=some o
theorem Ev.one{α:Type}{L:List Tk}{φ:Sp->Option (Out α)}{o o':Out α}(h:Ev L φ o)(h':Ev L φ o'):o=o':=by
 obtain⟨a,ha⟩:=h;obtain⟨b,hb⟩:=h';have:=(ha (a+b) (by omega)).symm.trans (hb (a+b) (by omega));exact Option.some.inj this
theorem Ev.pure{α:Type}{L:List Tk}{o:Out α}:Ev L (λ_=>some o) o:=⟨0,λ_ _=>rfl⟩
theorem Ev.eq{α:Type}{L:List Tk}{φ ψ:Sp->Option (Out α)}{o:Out α}(h:Ev L φ o)(e:∀r,ψ r=φ r):Ev L ψ o:=by
 obtain⟨a,ha⟩:=h;exact⟨a,λf hf=>(e _).trans (ha f hf)⟩
theorem Ev.bind{α β:Type}{L:List Tk}{φ:Sp->Option (Out α)}{k:Sp->St->α->Option (Out β)}{s:St}{x:α}{o:Out β}(h:Ev L φ (.ok s x))(h2:Ev L (λr=>k r s x) o):Ev L (λr=>A4 (φ r) (k r)) o:=by
 obtain⟨a,ha⟩:=h;obtain⟨b,hb⟩:=h2;refine⟨a+b,λf hf=> ?_⟩;show A4 (φ (sp' L f)) (k (sp' L f))=some o;rw[ha f (by omega)];exact hb f (by omega)
theorem Ev.bad{α β:Type}{L:List Tk}{φ:Sp->Option (Out α)}{k:Sp->St->α->Option (Out β)}{e p:Int}(h:Ev L φ (.fail e p)):Ev L (λr=>A4 (φ r) (k r)) (.fail e p):=by
 obtain⟨a,ha⟩:=h;refine⟨a,λf hf=> ?_⟩;show A4 (φ (sp' L f)) (k (sp' L f))=some _;rw[ha f (by omega)];rfl
theorem Ev.step{α:Type}{L:List Tk}{φ:Sp->Option (Out α)}{o:Out α}(h:Ev L (λr=>φ (step L r)) o):Ev L φ o:=by
 obtain⟨a,ha⟩:=h;refine⟨a+1,λf hf=> ?_⟩;obtain⟨g,rfl⟩:∃g,f=g+1:=⟨f - 1,by omega⟩;exact ha g (by omega)
theorem O4a:∀(f:Nat) (l:List UInt8) (a:Nat) (acc:List Tk),l.length - a<f->a<=l.length->(∀t∈acc,t.kind≠6)->acc.length<=1000->(O0 f l a acc).2.1=0->
 ∃pre,(O0 f l a acc).1=pre++[⟨6,[],l.length⟩]/\(∀t∈pre,t.kind≠6)/\pre.length<=1000
 |0,l,a,acc,hf,_,_,_,_=>by omega
 |f+1,l,a,acc,hf,ha,hm,hn,he=>by
  simp only[O0]at he⊢;by_cases h1:l.length<=a+sp blank (l.drop a)
  · rw[if_pos h1];exact⟨acc,rfl,hm,hn⟩
  · rw[if_neg h1]at he⊢;by_cases h2:(first (l.drop (a+sp blank (l.drop a)))).2.2=0
    · rw[if_pos h2]at he;simp at he
    · rw[if_neg h2]at he⊢;by_cases h3:acc.length=1000
      · rw[if_pos h3]at he;simp at he
      · rw[if_neg h3]at he⊢;have ho:=P3c (l.drop (a+sp blank (l.drop a))) h2;have hle:=ho.le;rw[List.length_drop]at hle;refine O4a f l _ _ (by omega) (by omega) ?_ (by simp;omega) he;intro t ht;rw[qW]at ht;rcases ht with ht|ht
        · exact hm t ht
        · simp only[zW]at ht;subst ht;exact ho.kind
theorem O7b(l:List UInt8)(h:(I5 l).2.1=0):∃pre,(I5 l).1=pre++[⟨6,[],l.length⟩]/\(∀t∈pre,t.kind≠6)/\pre.length<=1000:=by
 unfold I5 at h⊢;split at h
 · simp at h
 · rename_i hn;rw[if_neg hn];exact O4a (l.length+1) l 0 [] (by omega) (by omega) (by simp) (by simp) h
theorem A2c(l:List UInt8)(h:(I5 l).2.1=0):(I5 l).1.length<=1001/\0<(I5 l).1.length/\∀i,i<(I5 l).1.length->((tk (I5 l).1 i).kind=6 ↔ i+1=(I5 l).1.length):=by
 obtain⟨pre,h1,h2,h3⟩:=O7b l h;rw[h1];refine⟨by simp;omega,by simp,λi hi=> ?_⟩;simp only[qQ,jQ,xQ]at hi⊢;by_cases hp:i<pre.length
 · have e:tk (pre++[⟨6,[],l.length⟩]) i=pre[i]:=by
    unfold tk List.getD;rw[List.getElem?_append_left hp,gQ hp];rfl
   rw[e];have:=h2 pre[i] (mQ _);constructor
   · intro h;exact absurd h this
   · omega
 · have hi2:i=pre.length:=by omega
   subst hi2;simp[tk,List.getD]
inductive Tr where
 |nd (k:Int) (ns:List (List UInt8)) (ks:List Tr)
def Tr.k:Tr->Int
 | .nd k _ _=>k
def Tr.ns:Tr->List (List UInt8)
 | .nd _ ns _=>ns
def Tr.ks:Tr->List Tr
 | .nd _ _ ks=>ks
theorem Tr.ind{P:Tr->Prop}(h:∀k ns ks,(∀x∈ks,P x)->P (.nd k ns ks)):∀t,P t
 | .nd k ns ks=>h k ns ks (λx _=>Tr.ind h x)
def P4a(k:Int):List UInt8:=
 if k=1 then [110,117,109] else if k=2 then [98,111,111,108] else if k=3 then [116,101,120,116] else if k=4 then [110,117,108,108] else if k=6 then [117,110,107,110,111,119,110] else [97,110,121]
mutual
def txt':Tr->List UInt8
 | .nd k ns ks=>
  if k=7 then [123]++G1b ns ks++(if ns.length=0 then [] else [32])++[125]
  else if k=8 then [91]++U2c ks++[93]
  else if k=9 then G2c ks
  else if k=10 then M0a true ks
  else P4a k
def U2c:List Tr->List UInt8
 |[]=>[]
 |t::_=>txt' t
def G2c:List Tr->List UInt8
 |[]=>[]
 |t::r=>[40]++P5a true r++[41,32,61,62,32]++txt' t
def P5a:Bool->List Tr->List UInt8
 |_,[]=>[]
 |fst,t::r=>(if fst then [] else [44,32])++txt' t++P5a false r
def M0a:Bool->List Tr->List UInt8
 |_,[]=>[]
 |fst,t::r=>(if fst then [] else [32,124,32])++(if t.k=10\/t.k=9/\r.length≠0 then [40]++txt' t++[41] else txt' t)++M0a false r
def G1b:List (List UInt8)->List Tr->List UInt8
 |_,[]=>[]
 |ns,t::r=>[32]++ns.headD []++[58,32]++txt' t++[59]++G1b ns.tail r
end
abbrev TT:=Int×List UInt8
def sg(x:List UInt8):TT:=(5,x)
mutual
def tks:Tr->List TT
 | .nd k ns ks=>
  if k=7 then sg [123]::(W1a ns ks++[sg [125]])
  else if k=8 then sg [91]::(K5d ks++[sg [93]])
  else if k=9 then K6d ks
  else if k=10 then R7a true ks
  else [(2,P4a k)]
def K5d:List Tr->List TT
 |[]=>[]
 |t::_=>tks t
def K6d:List Tr->List TT
 |[]=>[]
 |t::r=>sg [40]::(P6a true r++sg [41]::sg [61,62]::tks t)
def P6a:Bool->List Tr->List TT
 |_,[]=>[]
 |fst,t::r=>(if fst then [] else [sg [44]])++tks t++P6a false r
def R7a:Bool->List Tr->List TT
 |_,[]=>[]
 |fst,t::r=>(if fst then [] else [sg [124]])++(if t.k=10\/t.k=9/\r.length≠0 then sg [40]::(tks t++[sg [41]]) else tks t)++R7a false r
def W1a:List (List UInt8)->List Tr->List TT
 |_,[]=>[]
 |ns,t::r=>(1,ns.headD [])::sg [58]::(tks t++sg [59]::W1a ns.tail r)
end
def L9(nm:List UInt8):Prop:=nm≠[]/\nm.length<=20/\Y3 nm=false/\(∀c∈nm,nam c.toNat=true)/\(∀c,nm.head? =some c->let' c.toNat=true)
inductive Wf:Tr->Prop
 |plain (k:Int):1<=k->k<=6->Wf (.nd k [] [])
 |obj (ns:List (List UInt8)) (ks:List Tr):ns.length=ks.length->ns.Nodup->(∀n∈ns,L9 n)->(∀x∈ks,Wf x)->Wf (.nd 7 ns ks)
 |arr (t:Tr):Wf t->Wf (.nd 8 [] [t])
 |fn (t:Tr) (ps:List Tr):Wf t->(∀x∈ps,Wf x)->Wf (.nd 9 [] (t::ps))
 |uni (ks:List Tr):2<=ks.length->(∀x∈ks,Wf x)->Wf (.nd 10 [] ks)
/-! ### Tags -/
def O1a(k:Int):Nat:=
 if k=1 then 1 else if k=2 then 2 else if k=3 then 4 else if k=4 then 8 else if k=7 then 16 else if k=8 then 32 else if k=9 then 64 else 127
mutual
def Z7:Tr->Nat
 | .nd k _ ks=>if k=10 then U0 ks else O1a k
def U0:List Tr->Nat
 |[]=>0
 |t::r=>Z7 t|||U0 r
end
/-! ### What D9 -/
def H7(nm:List UInt8):List (List UInt8)->List Tr->Option Tr
 |n::ns,t::ks=>if n=nm then some t else H7 nm ns ks
 |_,_=>none
def J9:Nat->Tr->Tr->Bool
 |0,_,_=>false
 |f+1,a,b=>
  if a.k=5\/b.k=5\/b.k=6 then true
  else if a.k=10 then a.ks.all λx=>J9 f x b
  else if b.k=10 then b.ks.any λy=>J9 f a y
  else if a.k≠b.k then false
  else if a.k=7 then (b.ns.zip b.ks).all λp=>match H7 p.1 a.ns a.ks with
   |none=>false
   |some x=>J9 f x p.2
  else if a.k=8 then match a.ks,b.ks with
   |x::_,y::_=>J9 f x y
   |_,_=>false
  else if a.k=9 then match a.ks,b.ks with
   |x::xs,y::ys=>decide (xs.length<=ys.length) && ((xs.zip ys).all λp=>J9 f p.1 p.2||J9 f p.2 p.1) && J9 f x y
   |_,_=>false
  else true
mutual
def sz:Tr->Nat
 | .nd _ _ ks=>szL ks+1
def szL:List Tr->Nat
 |[]=>0
 |t::r=>sz t+szL r
end
theorem H4c:∀{ks:List Tr} {x:Tr},x∈ks->sz x<=szL ks
 |t::r,x,h=>by
  rcases jW.1 h with rfl|h
  · simp[szL]
  · have:=H4c h;simp only[szL];omega
theorem N8{t x:Tr}(h:x∈t.ks):sz x<sz t:=by
 obtain⟨k,ns,ks⟩:=t;have:=H4c h;simp only[sz,Tr.ks]at *;omega
theorem B4b(t:Tr):0<sz t:=by obtain⟨k,ns,ks⟩:=t;simp[sz]
theorem Y0{nm:List UInt8}:∀{ns:List (List UInt8)} {ks:List Tr} {t:Tr},H7 nm ns ks=some t->t∈ks
 |[],_,_,h=>by simp[H7]at h
 |_::_,[],_,h=>by simp[H7]at h
 |n::ns,x::ks,t,h=>by
  simp only[H7]at h;split at h
  · simp only[zQ]at h;simp[h]
  · exact List.mem_cons_of_mem _ (Y0 h)
theorem R2:∀(f g:Nat) (a b:Tr),sz a+sz b<f->sz a+sz b<g->J9 f a b=J9 g a b
 |0,_,_,_,h,_=>by omega
 |_,0,_,_,_,h=>by omega
 |f+1,g+1,a,b,hf,hg=>by
  have ha:=B4b a;have hb:=B4b b;simp only[J9];have e1:a.ks.all (λx=>J9 f x b)=a.ks.all (λx=>J9 g x b):=by
   rw[Bool.eq_iff_iff,List.all_eq_true,List.all_eq_true];exact forall_congr' λx=>forall_congr' λhx=>by have:=N8 hx;rw[R2 f g x b (by omega) (by omega)]
  have e2:b.ks.any (λy=>J9 f a y)=b.ks.any (λy=>J9 g a y):=by
   rw[Bool.eq_iff_iff,List.any_eq_true,List.any_eq_true];refine exists_congr λy=> ?_;constructor
   · rintro⟨hy,h⟩;have:=N8 hy;exact⟨hy,by rw[<-R2 f g a y (by omega) (by omega)];exact h⟩
   · rintro⟨hy,h⟩;have:=N8 hy;exact⟨hy,by rw[R2 f g a y (by omega) (by omega)];exact h⟩
  have e3:((b.ns.zip b.ks).all λp=>match H7 p.1 a.ns a.ks with|none=>false|some x=>J9 f x p.2)=((b.ns.zip b.ks).all λp=>match H7 p.1 a.ns a.ks with|none=>false|some x=>J9 g x p.2):=by
   rw[Bool.eq_iff_iff,List.all_eq_true,List.all_eq_true];refine forall_congr' λp=>forall_congr' λhp=> ?_;have hy:=N8 (List.of_mem_zip hp).2;cases h:H7 p.1 a.ns a.ks with
   |none=>simp
   |some x=>
    have hx:=N8 (Y0 h);simp only;rw[R2 f g x p.2 (by omega) (by omega)]
  rw[e1,e2,e3];obtain⟨ak,an,as'⟩:=a;obtain⟨bk,bn,bs⟩:=b;simp only[Tr.k,Tr.ns,Tr.ks]at *;have e4:∀(xs ys:List Tr),(∀x∈xs,x∈as')->(∀y∈ys,y∈bs)->((xs.zip ys).all λp=>J9 f p.1 p.2||J9 f p.2 p.1)=((xs.zip ys).all λp=>J9 g p.1 p.2||J9 g p.2 p.1):=by
   intro xs ys hxs hys;rw[Bool.eq_iff_iff,List.all_eq_true,List.all_eq_true];refine forall_congr' λp=>forall_congr' λhp=> ?_;have h1:=List.of_mem_zip hp;have h2:=N8 (t:= .nd ak an as') (hxs _ h1.1);have h3:=N8 (t:= .nd bk bn bs) (hys _ h1.2);rw[R2 f g p.1 p.2 (by omega) (by omega),R2 f g p.2 p.1 (by omega) (by omega)]
  cases as' with
  |nil=>rfl
  |cons x xs=>
   cases bs with
   |nil=>rfl
   |cons y ys=>
    have h2:=N8 (t:= .nd ak an (x::xs)) (x:=x) (by simp[Tr.ks]);have h3:=N8 (t:= .nd bk bn (y::ys)) (x:=y) (by simp[Tr.ks]);simp only;rw[R2 f g x y (by omega) (by omega),e4 xs ys (λz hz=>by simp[hz]) (λz hz=>by simp[hz])]
termination_by f=>f
def D9(a b:Tr):Bool:=J9 (sz a+sz b+1) a b
theorem W4(f:Nat)(a b:Tr)(h:sz a+sz b<f):J9 f a b=D9 a b:=R2 _ _ _ _ h (by omega)
theorem B2a(a b:Tr):D9 a b=
 if a.k=5\/b.k=5\/b.k=6 then true
 else if a.k=10 then a.ks.all λx=>D9 x b
 else if b.k=10 then b.ks.any λy=>D9 a y
 else if a.k≠b.k then false
 else if a.k=7 then (b.ns.zip b.ks).all λp=>match H7 p.1 a.ns a.ks with
  |none=>false
  |some x=>D9 x p.2
 else if a.k=8 then match a.ks,b.ks with
  |x::_,y::_=>D9 x y
  |_,_=>false
 else if a.k=9 then match a.ks,b.ks with
  |x::xs,y::ys=>decide (xs.length<=ys.length) && ((xs.zip ys).all λp=>D9 p.1 p.2||D9 p.2 p.1) && D9 x y
  |_,_=>false
 else true:=by
 have hb:=B4b b;have ha:=B4b a;rw[show D9 a b=J9 (sz a+sz b+1) a b from rfl,J9];have e1:a.ks.all (λx=>J9 (sz a+sz b) x b)=a.ks.all (λx=>D9 x b):=by
  rw[Bool.eq_iff_iff,List.all_eq_true,List.all_eq_true];exact forall_congr' λx=>forall_congr' λhx=>by have:=N8 hx;rw[W4 _ x b (by omega)]
 have e2:b.ks.any (λy=>J9 (sz a+sz b) a y)=b.ks.any (λy=>D9 a y):=by
  rw[Bool.eq_iff_iff,List.any_eq_true,List.any_eq_true];refine exists_congr λy=> ?_;constructor
  · rintro⟨hy,h⟩;have:=N8 hy;exact⟨hy,by rw[<-W4 (sz a+sz b) a y (by omega)];exact h⟩
  · rintro⟨hy,h⟩;have:=N8 hy;exact⟨hy,by rw[W4 (sz a+sz b) a y (by omega)];exact h⟩
 have e3:((b.ns.zip b.ks).all λp=>match H7 p.1 a.ns a.ks with|none=>false|some x=>J9 (sz a+sz b) x p.2)=((b.ns.zip b.ks).all λp=>match H7 p.1 a.ns a.ks with|none=>false|some x=>D9 x p.2):=by
  rw[Bool.eq_iff_iff,List.all_eq_true,List.all_eq_true];refine forall_congr' λp=>forall_congr' λhp=> ?_;have hy:=N8 (List.of_mem_zip hp).2;cases h:H7 p.1 a.ns a.ks with
  |none=>simp
  |some x=>
   have hx:=N8 (Y0 h);simp only;rw[W4 _ x p.2 (by omega)]
 rw[e1,e2,e3];obtain⟨ak,an,as'⟩:=a;obtain⟨bk,bn,bs⟩:=b;simp only[Tr.k,Tr.ns,Tr.ks]at *;have e4:∀(xs ys:List Tr),(∀x∈xs,x∈as')->(∀y∈ys,y∈bs)->((xs.zip ys).all λp=>J9 (sz (.nd ak an as')+sz (.nd bk bn bs)) p.1 p.2||J9 (sz (.nd ak an as')+sz (.nd bk bn bs)) p.2 p.1)=((xs.zip ys).all λp=>D9 p.1 p.2||D9 p.2 p.1):=by
  intro xs ys hxs hys;rw[Bool.eq_iff_iff,List.all_eq_true,List.all_eq_true];refine forall_congr' λp=>forall_congr' λhp=> ?_;have h1:=List.of_mem_zip hp;have h2:=N8 (t:= .nd ak an as') (hxs _ h1.1);have h3:=N8 (t:= .nd bk bn bs) (hys _ h1.2);rw[W4 _ p.1 p.2 (by omega),W4 _ p.2 p.1 (by omega)]
 cases as' with
 |nil=>rfl
 |cons x xs=>
  cases bs with
  |nil=>rfl
  |cons y ys=>
   have h2:=N8 (t:= .nd ak an (x::xs)) (x:=x) (by simp[Tr.ks]);have h3:=N8 (t:= .nd bk bn (y::ys)) (x:=y) (by simp[Tr.ks]);simp only;rw[W4 _ x y (by omega),e4 xs ys (λz hz=>by simp[hz]) (λz hz=>by simp[hz])]
def isS(l:List TT)(m:List UInt8):Bool:=match l with
 |[]=>false
 |(k,x)::_=>(k==5||k==2) && has [m] x
def Fol(r:List TT):Prop:=isS r [124]=false/\isS r [61,62]=false
def one(t:Tr)(last:Bool):List TT:=if t.k=10\/t.k=9/\last=false then sg [40]::(tks t++[sg [41]]) else tks t
def TyOk(t:Ty)(i:Nat):Prop:=
 (1<=t.kind/\t.kind<=6/\t.fields=[]/\t.list=[])\/
 (t.kind=7/\t.list=[]/\(t.fields.map (·.1)).Nodup/\∀p∈t.fields,L9 p.1/\0<=p.2/\p.2<i)\/
 (t.kind=8/\t.fields=[]/\t.list=[]/\0<=t.of'/\t.of'<i)\/
 (t.kind=9/\t.fields=[]/\0<=t.of'/\t.of'<i/\∀x∈t.list,0<=x/\x<i)\/
 (t.kind=10/\t.fields=[]/\2<=t.list.length/\∀x∈t.list,0<=x/\x<i)
def TsOk(T:List Ty):Prop:=∀i (h:i<T.length),TyOk T[i] i
theorem TyOk.fld{t:Ty}{i:Nat}(h:TyOk t i):∀p∈t.fields,0<=p.2/\p.2<i:=by
 intro p hp;rcases h with ⟨_,_,h,_⟩|⟨_,_,_,h⟩|⟨_,h,_⟩|⟨_,h,_⟩|⟨_,h,_⟩
 · simp[h]at hp
 · exact(h p hp).2
 · simp[h]at hp
 · simp[h]at hp
 · simp[h]at hp
theorem TyOk.lst{t:Ty}{i:Nat}(h:TyOk t i):∀x∈t.list,0<=x/\x<i:=by
 intro p hp;rcases h with ⟨_,_,_,h⟩|⟨_,h,_⟩|⟨_,_,h,_⟩|⟨_,_,_,_,h⟩|⟨_,_,_,h⟩
 · simp[h]at hp
 · simp[h]at hp
 · simp[h]at hp
 · exact h p hp
 · exact h p hp
theorem TyOk.of{t:Ty}{i:Nat}(h:TyOk t i)(hk:t.kind=8\/t.kind=9):0<=t.of'/\t.of'<i:=by
 rcases h with h|h|h|h|h
 · omega
 · omega
 · exact h.2.2.2
 · exact⟨h.2.2.1,h.2.2.2.1⟩
 · omega
def ty0:Ty:=⟨0,[],[],0⟩
def trF(T:List Ty):Nat->Nat->Tr
 |0,_=> .nd 0 [] []
 |f+1,i=> .nd (T.getD i ty0).kind ((T.getD i ty0).fields.map (·.1))
  ((if (T.getD i ty0).kind=8\/(T.getD i ty0).kind=9 then [trF T f (T.getD i ty0).of'.toNat] else [])++((T.getD i ty0).fields.map λp=>trF T f p.2.toNat)++(T.getD i ty0).list.map λx=>trF T f x.toNat)
def tr(T:List Ty)(i:Nat):Tr:=trF T (i+1) i
theorem getD_at{T:List Ty}{i:Nat}(h:i<T.length):T.getD i ty0=T[i]:=by simp[h]
theorem C9a{t:Ty}{i:Nat}(ht:TyOk t i)(g h:Nat->Tr)(e:∀j,j<i->g j=h j):
 (if t.kind=8\/t.kind=9 then [g t.of'.toNat] else [])++(t.fields.map λp=>g p.2.toNat)++(t.list.map λx=>g x.toNat)=(if t.kind=8\/t.kind=9 then [h t.of'.toNat] else [])++(t.fields.map λp=>h p.2.toNat)++(t.list.map λx=>h x.toNat):=by
 have e1:t.fields.map (λp=>g p.2.toNat)=t.fields.map (λp=>h p.2.toNat):=List.map_congr_left λp hp=>e _ (by have:=ht.fld p hp;omega);have e2:t.list.map (λx=>g x.toNat)=t.list.map (λx=>h x.toNat):=List.map_congr_left λp hp=>e _ (by have:=ht.lst p hp;omega);rw[e1,e2];by_cases hk:t.kind=8\/t.kind=9
 · rw[if_pos hk,if_pos hk,e _ (by have:=ht.of hk;omega)]
 · rw[if_neg hk,if_neg hk]
theorem G3b{T:List Ty}(hT:TsOk T):∀(f g i:Nat),i<T.length->i<f->i<g->trF T f i=trF T g i
 |0,_,_,_,h,_=>by omega
 |_,0,_,_,_,h=>by omega
 |f+1,g+1,i,hi,hf,hg=>by
  simp only[trF,getD_at hi];rw[C9a (hT i hi) (trF T f) (trF T g) (λj hj=>G3b hT f g j (by omega) (by omega) (by omega))]
theorem V4b{T X:List Ty}(hT:TsOk T):∀(f i:Nat),i<T.length->trF (T++X) f i=trF T f i
 |0,_,_=>rfl
 |f+1,i,hi=>by
  have e:(T++X).getD i ty0=T[i]:=by rw[getD_at (by simp;omega)];exact List.getElem_append_left hi
  simp only[trF,getD_at hi,e];rw[C9a (hT i hi) (trF (T++X) f) (trF T f) (λj hj=>V4b hT f j (by omega))]
theorem C4a{T:List Ty}(X:List Ty){i:Nat}(hT:TsOk T)(hi:i<T.length):tr (T++X) i=tr T i:=V4b hT _ _ hi
theorem R9{T:List Ty}{i:Nat}(hT:TsOk T)(hi:i<T.length):tr T i= .nd T[i].kind (T[i].fields.map (·.1))
 ((if T[i].kind=8\/T[i].kind=9 then [tr T T[i].of'.toNat] else [])++(T[i].fields.map λp=>tr T p.2.toNat)++T[i].list.map λx=>tr T x.toNat):=by
 rw[tr,trF,getD_at hi];rw[C9a (hT i hi) (trF T i) (tr T) (λj hj=>G3b hT _ _ _ (by omega) (by omega) (by omega))]
theorem X9a{T:List Ty}(hT:TsOk T)(i:Nat):i<T.length->Wf (tr T i):=by
 induction i using Nat.strongRecOn with
 |ind i ih=>
  intro hi;have h:=hT i hi;rw[R9 hT hi];have h':=h;rcases h' with ⟨h1,h2,h3,h4⟩|⟨h1,h2,h3,h4⟩|⟨h1,h2,h3,h4⟩|⟨h1,h2,h3,h4,h5⟩|⟨h1,h2,h3,h4⟩
  · rw[if_neg (by omega),h3,h4];exact Wf.plain _ h1 h2
  · rw[if_neg (by omega),h1,h2];simp only[List.map_nil,List.nil_append,List.append_nil];refine Wf.obj _ _ (by simp) h3 (λn hn=> ?_) (λx hx=> ?_)
    · obtain⟨p,hp,rfl⟩:=List.mem_map.1 hn;exact(h4 p hp).1
    · obtain⟨p,hp,rfl⟩:=List.mem_map.1 hx;have:=(h4 p hp).2;exact ih _ (by omega) (by omega)
  · rw[if_pos (.inl h1),h1,h2,h3];exact Wf.arr _ (ih _ (by omega) (by omega))
  · rw[if_pos (.inr h1),h1,h2];refine Wf.fn _ _ (ih _ (by omega) (by omega)) (λx hx=> ?_);obtain⟨p,hp,rfl⟩:=List.mem_map.1 hx;have:=h5 p hp;exact ih _ (by omega) (by omega)
  · rw[if_neg (by omega),h1,h2];simp only[List.map_nil,List.nil_append];refine Wf.uni _ (by simpa using h3) (λx hx=> ?_);obtain⟨p,hp,rfl⟩:=List.mem_map.1 hx;have:=h4 p hp;exact ih _ (by omega) (by omega)
theorem TsOk.snoc{T:List Ty}{t:Ty}(hT:TsOk T)(ht:TyOk t T.length):TsOk (T++[t]):=by
 intro i hi;by_cases h:i<T.length
 · rw[List.getElem_append_left h];exact hT i h
 · have:i=T.length:=by simp at hi;omega
   subst this;simpa using ht
theorem H7a{T:List Ty}{t:Ty}(hT:TsOk T)(ht:TyOk t T.length):tr (T++[t]) T.length= .nd t.kind (t.fields.map (·.1))
 ((if t.kind=8\/t.kind=9 then [tr T t.of'.toNat] else [])++(t.fields.map λp=>tr T p.2.toNat)++t.list.map λx=>tr T x.toNat):=by
 rw[R9 (hT.snoc ht) (by simp)];simp only[List.getElem_concat_length];rw[C9a ht (tr (T++[t])) (tr T) (λj hj=>C4a _ hT hj)]
/-! ### The reader reads the same -/
def tt(L:List Tk)(i:Nat):List TT:=(L.drop i).map λt=>(t.kind,t.text)
theorem tt_nil{L:List Tk}{i:Nat}(h:¬i<L.length):tt L i=[]:=by rw[tt,List.drop_of_length_le (by omega)];rfl
theorem B3b{L:List Tk}{i:Nat}(h:¬i<L.length):tk L i=⟨6,[],0⟩:=by
 simp only[tk,List.getD];rw[List.getElem?_eq_none (by omega)];rfl
theorem B6{α β:Type}{x:Option (Out α)}{k:St->α->Option (Out β)}{s:St}{b:β}(h:A4 x k=some (.ok s b)):∃s1 a,x=some (.ok s1 a)/\k s1 a=some (.ok s b):=by
 unfold A4 at h;split at h
 · simp at h
 · simp at h
 · exact⟨_,_,rfl,h⟩
theorem I9{L:List Tk}{s s':St}{m:List UInt8}{u:Unit}(h:need L s m=some (.ok s' u)):isM L s.i [m]=true/\s'=s.nx:=by
 unfold need at h;split at h
 · rename_i hm;simp only[zQ,Out.ok.injEq]at h;exact⟨hm,h.1.symm⟩
 · simp[flt]at h
theorem L6a{s s':St}{t:Ty}{x:Int}(h:addT s t=some (.ok s' x)):s'=⟨s.i,s.N,s.T++[t]⟩/\x=s.T.length:=by
 simp only[addT,zQ,Out.ok.injEq]at h;exact⟨h.1.symm,h.2.symm⟩
def NmL(L:List Tk):Prop:=∀i,(tk L i).kind=1->L9 (tk L i).text
theorem P7a(x:List UInt8)(h:I1 x≠0):1<=I1 x/\I1 x<=6:=by
 unfold I1 at *;split<;>simp_all
 split<;>simp_all
 split<;>simp_all
 split<;>simp_all
 split<;>simp_all
section
variable{L:List Tk}{f:Nat}
end
inductive Nt where
 |nd (k:Int) (tx:List UInt8) (n:Int) (ps:List Nt)
 |ty (t:Option Tr)
def Nt.k:Nt->Int
 | .nd k _ _ _=>k
 | .ty none=>-1
 | .ty (some _)=>0
def bnK(k:Int)(tx:List UInt8):Nat:=if k=13 then 4 else if k=12 then (if tx=[42] then 3 else if tx=[43]\/tx=[45] then 2 else 1) else 5
def bnd:Nt->Nat
 | .nd k tx _ _=>bnK k tx
 | .ty _=>5
structure Pc where
 b:Nat
 k:Int
 s:List UInt8
def wi(least:Nat)(c:Pc):List UInt8:=if least<=c.b then c.s else [40]++c.s++[41]
def R3c(c:Pc):List UInt8:=if c.k= -1 then [] else [58,32]++c.s
def N5c(sep:List UInt8):List Pc->List UInt8
 |[]=>[]
 |[c]=>c.s
 |c::r=>c.s++sep++N5c sep r
def mg(d:Nat):List UInt8:=(List.replicate d [32,32]).flatten
def N4d(d:Nat)(cs:List Pc):List UInt8:=cs.flatMap λc=>mg d++c.s++[10]
def pc0:Pc:=⟨5,0,[]⟩
def c0(cs:List Pc):Pc:=cs.getD 0 pc0
def c1(cs:List Pc):Pc:=cs.getD 1 pc0
def c2(cs:List Pc):Pc:=cs.getD 2 pc0
def prE(k:Int)(tx:List UInt8)(n:Int)(cs:List Pc):List UInt8:=
 if k=1 then Lib.itoa n
 else if k=2 then [34]++tx++[34]
 else if k=3 then Lib.formatBool (n==1)
 else if k=4 then [110,117,108,108]
 else if k=5 then tx
 else if k=6 then [102,110,40]++N5c [44,32] cs.dropLast.dropLast++[41]++R3c (cs.dropLast.getLastD pc0)++[32]++(cs.getLastD pc0).s
 else if k=7 then wi 5 (c0 cs)++([40]++N5c [44,32] cs.tail++[41])
 else if k=8 then wi 5 (c0 cs)++([46]++tx)
 else if k=9 then wi 5 (c0 cs)++[91]++(c1 cs).s++[93]
 else if k=10 then (if cs.length=0 then [123,125] else [123,32]++N5c [44,32] cs++[32,125])
 else if k=11 then [91]++N5c [44,32] cs++[93]
 else if k=12 then wi (if bnK k tx=1 then 2 else bnK k tx) (c0 cs)++([32]++tx++[32])++wi (bnK k tx+1) (c1 cs)
 else if k=13 then tx++(if tx=[116,121,112,101,111,102] then [32] else [])++wi 4 (c0 cs)
 else if k=14 then wi 5 (c0 cs)++[32,97,115,32]++(c1 cs).s
 else if k=15 then (tx++[58,32])++(c0 cs).s
 else tx++R3c (c0 cs)
def prS(d:Nat)(k:Int)(tx:List UInt8)(cs:List Pc):List UInt8:=
 if k=17 then ([108,101,116,32]++tx)++R3c (c0 cs)++[32,61,32]++(c1 cs).s++[59]
 else if k=18 then (tx++[32,61,32])++(c0 cs).s++[59]
 else if k=19 then wi 5 (c0 cs)++([46]++tx)++[32,61,32]++(c1 cs).s++[59]
 else if k=20 then wi 5 (c0 cs)++[91]++(c1 cs).s++[93]++[32,61,32]++(c2 cs).s++[59]
 else if k=21 then [112,114,105,110,116,32]++(c0 cs).s++[59]
 else if k=22 then [105,102,32,40]++(c0 cs).s++[41,32]++(c1 cs).s++(if (c2 cs).k= -1 then [] else [32,101,108,115,101,32]++(c2 cs).s)
 else if k=23 then [119,104,105,108,101,32,40]++(c0 cs).s++[41,32]++(c1 cs).s
 else if k=24 then [114,101,116,117,114,110,32]++(c0 cs).s++[59]
 else if k=25 then (c0 cs).s++[59]
 else [123,10]++N4d (d+1) cs++mg d++[125]
mutual
def pr(d:Nat):Nt->List UInt8
 | .ty none=>[]
 | .ty (some t)=>txt' t
 | .nd k tx n ps=>if k=26 then prS d k tx (prL (d+1) ps) else if k<=16 then prE k tx n (prL d ps) else prS d k tx (prL d ps)
def prL(d:Nat):List Nt->List Pc
 |[]=>[]
 |p::r=>⟨bnd p,p.k,pr d p⟩::prL d r
end
def Q9(k:Int)(is:List Int)(n:Nd):Prop:=
 if k=6 then n.list=is.dropLast.dropLast/\n.ty=is.dropLast.getLastD 0/\n.a=is.getLastD 0/\2<=is.length
 else if k=7 then n.a=is.headD 0/\n.list=is.tail/\1<=is.length
 else if k=10\/k=11\/k=26 then n.list=is
 else if k=14 then is=[n.a,n.ty]
 else if k=16 then is=[n.ty]
 else if k=17 then is=[n.ty,n.a]
 else if k=9\/k=12\/k=19\/k=23 then is=[n.a,n.b]
 else if k=20\/k=22 then is=[n.a,n.b,n.c]
 else if k=8\/k=13\/k=15\/k=18\/k=21\/k=24\/k=25 then is=[n.a]
 else is=[]
mutual
def At(N:List Nd)(T:List Ty):Nt->Int->Prop
 | .ty none,i=>i= -1
 | .ty (some t),i=>∃j:Nat,i=j/\j<T.length/\tr T j=t
 | .nd k tx n ps,i=>∃j:Nat,i=j/\∃h:j<N.length,N[j].kind=k/\N[j].text=tx/\N[j].n=n/\∃is,Q9 k is N[j]/\AtL N T ps is
def AtL(N:List Nd)(T:List Ty):List Nt->List Int->Prop
 |[],is=>is=[]
 |p::r,is=>∃i js,is=i::js/\At N T p i/\AtL N T r js
end
def isE(k:Int):Prop:=1<=k/\k<=14
def isT(k:Int):Prop:=k= -1\/k=0
def shp(k:Int)(ks:List Int):Prop:=
 if k=1\/k=2\/k=3\/k=4\/k=5 then ks=[]
 else if k=6 then∃ps r,ks=ps++[r,26]/\(∀x∈ps,x=16)/\isT r
 else if k=7 then∃x xs,ks=x::xs/\isE x/\∀y∈xs,isE y
 else if k=8\/k=13\/k=15\/k=18\/k=21\/k=24\/k=25 then∃x,ks=[x]/\isE x
 else if k=9\/k=12\/k=19 then∃x y,ks=[x,y]/\isE x/\isE y
 else if k=10 then∀x∈ks,x=15
 else if k=11 then∀x∈ks,isE x
 else if k=14 then∃x,ks=[x,0]/\isE x
 else if k=16 then∃x,ks=[x]/\isT x
 else if k=17 then∃x y,ks=[x,y]/\isT x/\isE y
 else if k=20 then∃x y z,ks=[x,y,z]/\isE x/\isE y/\isE z
 else if k=22 then∃x z,ks=[x,26,z]/\isE x/\(z=26\/z= -1)
 else if k=23 then∃x,ks=[x,26]/\isE x
 else if k=26 then∀x∈ks,17<=x/\x<=25
 else False
mutual
def Gd:Nt->Prop
 | .ty _=>True
 | .nd k _ _ ps=>shp k (ps.map Nt.k)/\GdL ps
def GdL:List Nt->Prop
 |[]=>True
 |p::r=>Gd p/\GdL r
end
mutual
def szN:Nt->Nat
 | .ty _=>1
 | .nd _ _ _ ps=>H5c ps+1
def H5c:List Nt->Nat
 |[]=>0
 |p::r=>szN p+H5c r
end
theorem Y7:∀{ps:List Nt} {p:Nt},GdL ps->p∈ps->Gd p
 |q::r,p,h,hm=>by
  rw[jW]at hm;rcases hm with rfl|hm
  · exact h.1
  · exact Y7 h.2 hm
theorem J6a:∀{ps:List Nt} {p:Nt},p∈ps->szN p<=H5c ps
 |q::r,p,hm=>by
  rw[jW]at hm;rw[H5c];rcases hm with rfl|hm
  · omega
  · have:=J6a hm;omega
theorem F3b{N:List Nd}{T:List Ty}:∀{ps:List Nt} {is:List Int},AtL N T ps is->is.length=ps.length
 |[],is,h=>by rw[AtL]at h;rw[h];rfl
 |p::r,is,h=>by
  rw[AtL]at h;obtain⟨i,js,rfl,_,h2⟩:=h;rw[jQ,jQ,F3b h2]
theorem k1{ps:List Nt}{x:Int}(h:ps.map Nt.k=[x]):∃a,ps=[a]/\a.k=x:=by
 match ps,h with
 |[a],h=>exact⟨a,rfl,by simpa using h⟩
 |[],h=>simp at h
 |_::_::_,h=>simp at h
theorem k2{ps:List Nt}{x y:Int}(h:ps.map Nt.k=[x,y]):∃a b,ps=[a,b]/\a.k=x/\b.k=y:=by
 match ps,h with
 |[a,b],h=>exact⟨a,b,rfl,by simpa using h⟩
 |[],h=>simp at h
 |[_],h=>simp at h
 |_::_::_::_,h=>simp at h
theorem k3{ps:List Nt}{x y z:Int}(h:ps.map Nt.k=[x,y,z]):∃a b c,ps=[a,b,c]/\a.k=x/\b.k=y/\c.k=z:=by
 match ps,h with
 |[a,b,c],h=>exact⟨a,b,c,rfl,by simpa using h⟩
 |[],h=>simp at h
 |[_],h=>simp at h
 |[_,_],h=>simp at h
 |_::_::_::_::_,h=>simp at h
theorem N1a{a:Nt}(hg:Gd a)(h:isT a.k):∃t,a= .ty t:=by
 cases a with
 |ty t=>exact⟨t,rfl⟩
 |nd k tx n ps=>
  exfalso;rw[Gd]at hg;have h1:=hg.1;rcases h with h|h<;>(simp only[Nt.k]at h;subst h;simp[shp]at h1)
theorem at1{N:List Nd}{T:List Ty}{a:Nt}{i:Int}(h:AtL N T [a] [i]):At N T a i:=by
 rw[AtL]at h;obtain⟨i',js,e,ha,_⟩:=h;simp only[List.cons.injEq]at e;rw[e.1];exact ha
theorem at2{N:List Nd}{T:List Ty}{a b:Nt}{i j:Int}(h:AtL N T [a,b] [i,j]):At N T a i/\At N T b j:=by
 rw[AtL]at h;obtain⟨i',js,e,ha,hb⟩:=h;simp only[List.cons.injEq]at e;obtain⟨rfl,rfl⟩:=e;exact⟨ha,at1 hb⟩
theorem U4c(t:Nt):1<=szN t:=by
 cases t<;>simp[szN]
mutual
def nTy:Tr->Nat
 | .nd _ _ ks=>M7 ks+1
def M7:List Tr->Nat
 |[]=>0
 |t::r=>nTy t+M7 r
end
def ixT:Nat->List Tr->List Int
 |_,[]=>[]
 |b,t::r=>(((b+nTy t:Nat):Int) - 1)::ixT (b+nTy t) r
def C0a(k:Int)(ns:List (List UInt8))(is:List Int):Ty:=
 if k=7 then ⟨7,ns.zip is,[],0⟩ else if k=8 then ⟨8,[],[],is.headD 0⟩ else if k=10 then ⟨10,[],is,0⟩ else ⟨k,[],[],0⟩
mutual
def emT(b:Nat):Tr->List Ty
 | .nd k ns ks=>if k=9 then emB b ks else K8 b ks++[C0a k ns (ixT b ks)]
def K8(b:Nat):List Tr->List Ty
 |[]=>[]
 |t::r=>emT b t++K8 (b+nTy t) r
def emB(b:Nat):List Tr->List Ty
 |[]=>[⟨9,[],[],0⟩]
 |t::r=>K8 b r++emT (b+M7 r) t++[⟨9,[],ixT b r,((b+M7 r+nTy t:Nat):Int) - 1⟩]
end
mutual
def nN:Nt->Nat
 | .ty _=>0
 | .nd _ _ _ ps=>nNL ps+1
def nNL:List Nt->Nat
 |[]=>0
 |p::r=>nN p+nNL r
end
mutual
def nT:Nt->Nat
 | .ty none=>0
 | .ty (some t)=>nTy t
 | .nd _ _ _ ps=>nTL ps
def nTL:List Nt->Nat
 |[]=>0
 |p::r=>nT p+nTL r
end
def ixN(b tb:Nat):Nt->Int
 | .ty none=>-1
 | .ty (some t)=>((tb+nTy t:Nat):Int) - 1
 | .nd k tx n ps=>((b+nN (.nd k tx n ps):Nat):Int) - 1
def ixL:Nat->Nat->List Nt->List Int
 |_,_,[]=>[]
 |b,tb,p::r=>ixN b tb p::ixL (b+nN p) (tb+nT p) r
def mkN(k:Int)(tx:List UInt8)(n:Int)(is:List Int):Nd:=
 if k=6 then ⟨6,is.getLastD 0,0,0,is.dropLast.dropLast,tx,n,is.dropLast.getLastD 0,0⟩
 else if k=7 then ⟨7,is.headD 0,0,0,is.tail,tx,n,-1,0⟩
 else if k=10\/k=11\/k=26 then ⟨k,0,0,0,is,tx,n,-1,0⟩
 else if k=14 then ⟨14,is.getD 0 0,0,0,[],tx,n,is.getD 1 0,0⟩
 else if k=16 then ⟨16,0,0,0,[],tx,n,is.getD 0 0,0⟩
 else if k=17 then ⟨17,is.getD 1 0,0,0,[],tx,n,is.getD 0 0,0⟩
 else ⟨k,is.getD 0 0,is.getD 1 0,is.getD 2 0,[],tx,n,-1,0⟩
mutual
def emN(b tb:Nat):Nt->List Nd
 | .ty _=>[]
 | .nd k tx n ps=>M8 b tb ps++[mkN k tx n (ixL b tb ps)]
def M8(b tb:Nat):List Nt->List Nd
 |[]=>[]
 |p::r=>emN b tb p++M8 (b+nN p) (tb+nT p) r
end
mutual
def emY(tb:Nat):Nt->List Ty
 | .ty none=>[]
 | .ty (some t)=>emT tb t
 | .nd _ _ _ ps=>S9 tb ps
def S9(tb:Nat):List Nt->List Ty
 |[]=>[]
 |p::r=>emY tb p++S9 (tb+nT p) r
end
mutual
theorem U3(b tb:Nat):∀t:Nt,(emN b tb t).length=nN t
 | .ty _=>rfl
 | .nd k tx n ps=>by rw[emN,qQ,M6 b tb ps,nN];rfl
theorem M6(b tb:Nat):∀ps:List Nt,(M8 b tb ps).length=nNL ps
 |[]=>rfl
 |p::r=>by rw[M8,qQ,U3 b tb p,M6 _ _ r,nNL]
end
mutual
theorem Y8(b:Nat):∀t:Tr,(emT b t).length=nTy t
 | .nd k ns ks=>by
  rw[emT,nTy];split
  · exact Z8c b ks
  · rw[qQ,C3a b ks];rfl
theorem C3a(b:Nat):∀l:List Tr,(K8 b l).length=M7 l
 |[]=>rfl
 |t::r=>by rw[K8,qQ,Y8 b t,C3a _ r,M7]
theorem Z8c(b:Nat):∀l:List Tr,(emB b l).length=M7 l+1
 |[]=>rfl
 |t::r=>by
  rw[emB,qQ,qQ,C3a b r,Y8 _ t,M7];simp only[jQ,xQ];omega
end
mutual
theorem D3a(tb:Nat):∀t:Nt,(emY tb t).length=nT t
 | .ty none=>rfl
 | .ty (some t)=>by rw[emY,Y8,nT]
 | .nd k tx n ps=>by rw[emY,L1a tb ps,nT]
theorem L1a(tb:Nat):∀ps:List Nt,(S9 tb ps).length=nTL ps
 |[]=>rfl
 |p::r=>by rw[S9,qQ,D3a tb p,L1a _ r,nTL]
end
theorem G5a(t:Tr):1<=nTy t:=by
 cases t with
 |nd k ns ks=>rw[nTy];omega
def Nd.fl(n:Nd):Nd:=⟨n.kind,n.a,n.b,n.c,n.list,n.text,n.n,n.ty,0⟩
theorem Y7c(k:Int)(is:List Int)(n:Nd):Q9 k is n.fl ↔ Q9 k is n:=Iff.rfl
theorem Y6c{k:Int}{tx:List UInt8}{n:Int}{ks is:List Int}(hs:shp k ks)(hlm:ks.length=is.length):Q9 k is (mkN k tx n is):=by
 have hk:k=1\/k=2\/k=3\/k=4\/k=5\/k=6\/k=7\/k=8\/k=9\/k=10\/k=11\/k=12\/k=13\/k=14\/k=15\/k=16\/k=17\/k=18\/k=19\/k=20\/k=21\/k=22\/k=23\/k=24\/k=25\/k=26:=by
  refine Classical.byContradiction λh=> ?_;rw[shp,if_neg (by omega),if_neg (by omega),if_neg (by omega),if_neg (by omega),if_neg (by omega),if_neg (by omega),if_neg (by omega),if_neg (by omega),if_neg (by omega),if_neg (by omega),if_neg (by omega),if_neg (by omega),if_neg (by omega),if_neg (by omega)]at hs;exact hs
 have l1:∀{l:List Int},l.length=1->l=[l.getD 0 0]:=λ{l} h=>by match l,h with|[a],_=>rfl
 have l2:∀{l:List Int},l.length=2->l=[l.getD 0 0,l.getD 1 0]:=λ{l} h=>by match l,h with|[a,b],_=>rfl
 have l3:∀{l:List Int},l.length=3->l=[l.getD 0 0,l.getD 1 0,l.getD 2 0]:=λ{l} h=>by match l,h with|[a,b,c],_=>rfl
 rcases hk with rfl|rfl|rfl|rfl|rfl|rfl|rfl|rfl|rfl|rfl|rfl|rfl|rfl|rfl|rfl|rfl|rfl|rfl|rfl|rfl|rfl|rfl|rfl|rfl|rfl|rfl
 · have h:ks=[]:=by simpa[shp]using hs
   show is=[];exact List.eq_nil_of_length_eq_zero (by rw[<-hlm,h];rfl)
 · have h:ks=[]:=by simpa[shp]using hs
   show is=[];exact List.eq_nil_of_length_eq_zero (by rw[<-hlm,h];rfl)
 · have h:ks=[]:=by simpa[shp]using hs
   show is=[];exact List.eq_nil_of_length_eq_zero (by rw[<-hlm,h];rfl)
 · have h:ks=[]:=by simpa[shp]using hs
   show is=[];exact List.eq_nil_of_length_eq_zero (by rw[<-hlm,h];rfl)
 · have h:ks=[]:=by simpa[shp]using hs
   show is=[];exact List.eq_nil_of_length_eq_zero (by rw[<-hlm,h];rfl)
 · obtain⟨a,r,h,_⟩:∃a r,ks=a++[r,26]/\(∀x∈a,x=16)/\isT r:=by simpa[shp]using hs
   exact⟨rfl,rfl,rfl,by rw[<-hlm,h];simp⟩
 · obtain⟨x,xs,h,_⟩:∃x xs,ks=x::xs/\isE x/\∀y∈xs,isE y:=by simpa[shp]using hs
   exact⟨rfl,rfl,by rw[<-hlm,h];simp⟩
 · obtain⟨x,h,_⟩:∃x,ks=[x]/\isE x:=by simpa[shp]using hs
   exact l1 (by rw[<-hlm,h];rfl)
 · obtain⟨x,y,h,_⟩:∃x y,ks=[x,y]/\isE x/\isE y:=by simpa[shp]using hs
   exact l2 (by rw[<-hlm,h];rfl)
 · rfl
 · rfl
 · obtain⟨x,y,h,_⟩:∃x y,ks=[x,y]/\isE x/\isE y:=by simpa[shp]using hs
   exact l2 (by rw[<-hlm,h];rfl)
 · obtain⟨x,h,_⟩:∃x,ks=[x]/\isE x:=by simpa[shp]using hs
   exact l1 (by rw[<-hlm,h];rfl)
 · obtain⟨x,h,_⟩:∃x,ks=[x,0]/\isE x:=by simpa[shp]using hs
   exact l2 (by rw[<-hlm,h];rfl)
 · obtain⟨x,h,_⟩:∃x,ks=[x]/\isE x:=by simpa[shp]using hs
   exact l1 (by rw[<-hlm,h];rfl)
 · obtain⟨x,h,_⟩:∃x,ks=[x]/\isT x:=by simpa[shp]using hs
   exact l1 (by rw[<-hlm,h];rfl)
 · obtain⟨x,y,h,_⟩:∃x y,ks=[x,y]/\isT x/\isE y:=by simpa[shp]using hs
   exact l2 (by rw[<-hlm,h];rfl)
 · obtain⟨x,h,_⟩:∃x,ks=[x]/\isE x:=by simpa[shp]using hs
   exact l1 (by rw[<-hlm,h];rfl)
 · obtain⟨x,y,h,_⟩:∃x y,ks=[x,y]/\isE x/\isE y:=by simpa[shp]using hs
   exact l2 (by rw[<-hlm,h];rfl)
 · obtain⟨x,y,z,h,_⟩:∃x y z,ks=[x,y,z]/\isE x/\isE y/\isE z:=by simpa[shp]using hs
   exact l3 (by rw[<-hlm,h];rfl)
 · obtain⟨x,h,_⟩:∃x,ks=[x]/\isE x:=by simpa[shp]using hs
   exact l1 (by rw[<-hlm,h];rfl)
 · obtain⟨x,z,h,_⟩:∃x z,ks=[x,26,z]/\isE x/\(z=26\/z= -1):=by simpa[shp]using hs
   exact l3 (by rw[<-hlm,h];rfl)
 · obtain⟨x,h,_⟩:∃x,ks=[x,26]/\isE x:=by simpa[shp]using hs
   exact l2 (by rw[<-hlm,h];rfl)
 · obtain⟨x,h,_⟩:∃x,ks=[x]/\isE x:=by simpa[shp]using hs
   exact l1 (by rw[<-hlm,h];rfl)
 · obtain⟨x,h,_⟩:∃x,ks=[x]/\isE x:=by simpa[shp]using hs
   exact l1 (by rw[<-hlm,h];rfl)
 · rfl
theorem P5c(l:List UInt8)(h:(first l).1=1):L9 (first l).2.1:=by
 unfold first at h⊢;cases hh:l.head? with
 |none=>rw[hh]at h;simp at h
 |some c=>
  rw[hh]at h;simp only at h⊢;cases hd:dig c.toNat
  · rw[hd]at h;cases hl:let' c.toNat
    · rw[hl]at h;simp only[Bool.false_eq_true,if_false]at h;split at h
      · unfold text at h;split at h<;>simp at h
      · unfold W4a at h;split at h<;>simp at h
    · rw[hl]at h;simp only[Bool.false_eq_true,if_false,if_true]at h⊢;unfold name at h⊢;split at h
      · simp at h
      · rename_i hn;rw[if_neg hn];cases hw:Y3 (l.take (sp nam l))
        · cases l with
          |nil=>simp at hh
          |cons c' r=>
           simp only[List.head?_cons,zQ]at hh;subst hh;have hnam:nam c'.toNat=true:=by simp[nam,hl]
           have hs:sp nam (c'::r)=sp nam r+1:=by simp[sp,hnam]
           refine⟨by simp[hs], ?_,hw,λd hd'=> ?_,λd hd'=> ?_⟩
           · have:=List.length_take_le (sp nam (c'::r)) (c'::r);simp only;omega
           · simp only at hd';obtain⟨j,hj,rfl⟩:=List.mem_iff_getElem.1 hd';rw[List.getElem_take];simp only[List.length_take]at hj;exact B7b nam _ _ _ (by omega)
           · simp only[hs,List.take_succ_cons,List.head?_cons,zQ]at hd';subst hd';exact hl
        · simp[hw]at h
  · rw[hd]at h;simp only[if_true]at h;unfold A3a at h;split at h<;>simp at h
theorem H5b:∀(f:Nat) (l:List UInt8) (a:Nat) (acc:List Tk),(∀t∈acc,t.kind=1->L9 t.text)->∀t∈(O0 f l a acc).1,t.kind=1->L9 t.text
 |0,l,a,acc,_=>by simp[O0]
 |f+1,l,a,acc,h=>by
  simp only[O0];split
  · intro t ht hk;simp only[qW,zW]at ht;rcases ht with ht|rfl
    · exact h t ht hk
    · simp at hk
  split
  · simp
  split
  · simp
  refine H5b f l _ _ λt ht hk=> ?_;simp only[qW,zW]at ht;rcases ht with ht|rfl
  · exact h t ht hk
  · exact P5c _ hk
theorem L3c(l:List UInt8):NmL (I5 l).1:=by
 intro i hk;by_cases hi:i<(I5 l).1.length
 · have e:tk (I5 l).1 i=(I5 l).1[i]:=by simp[tk,List.getD,hi]
   rw[e]at hk⊢;have hm:=mQ hi;revert hk hm;generalize (I5 l).1[i]=t;intro hk hm;unfold I5 at hm;split at hm
   · simp at hm
   · exact H5b _ _ _ _ (by simp) t hm hk
 · rw[B3b hi]at hk;simp at hk
def D7a(d:Nat)(s:St)(r:Sp):Option (Out Int):=A4 (r.progL d s []) λs2 l=>addN s2 ⟨26,0,0,0,l,[],0,-1,0⟩
def PRes(l:List UInt8):(Int×Int) ⊕ (List Nd×List Ty)->Prop
 | .inl (er,p)=>er≠0/\(((I5 l).2.1=er/\((I5 l).2.2:Int)=p)\/((I5 l).2.1=0/\(Ev (I5 l).1 (D7a 0 ⟨0,[],[]⟩) (.fail er p)\/∃s' x,Ev (I5 l).1 (D7a 0 ⟨0,[],[]⟩) (.ok s' x)/\(1200<s'.N.length\/300<s'.T.length)/\er=2/\p=0)))
 | .inr (N,T)=>(I5 l).2.1=0/\∃s' x,Ev (I5 l).1 (D7a 0 ⟨0,[],[]⟩) (.ok s' x)/\s'.N.length<=1200/\s'.T.length<=300/\s'.N=N/\s'.T=T
theorem A7b{l:List UInt8}{a:Int×Int}{b:List Nd×List Ty}(h:PRes l (.inl a))(k:PRes l (.inr b)):False:=by
 obtain⟨er,p⟩:=a;obtain⟨N,T⟩:=b;obtain⟨h0,h⟩:=h;obtain⟨k1,s',x',k,k3,k4,_⟩:=k;rcases h with ⟨h1,h2⟩|⟨h1,h⟩
 · exact absurd (h1.symm.trans k1) h0
 · rcases h with h|⟨s,x,h,h3,_⟩
   · cases h.one k
   · have:=h.one k;simp only[Out.ok.injEq]at this;obtain⟨rfl,_⟩:=this;omega
theorem PRes.one{l:List UInt8}{a b:(Int×Int) ⊕ (List Nd×List Ty)}(h:PRes l a)(k:PRes l b):a=b:=by
 rcases a with ⟨er,p⟩|⟨N,T⟩<;>rcases b with ⟨er',p'⟩|⟨N',T'⟩
 · obtain⟨h0,h⟩:=h;obtain⟨k0,k⟩:=k;rcases h with ⟨h1,h2⟩|⟨h1,h⟩<;>rcases k with ⟨k1,k2⟩|⟨k1,k⟩
   · rw[<-h1,<-h2,<-k1,<-k2]
   · exact absurd (h1.symm.trans k1) h0
   · exact absurd (k1.symm.trans h1) k0
   · rcases h with h|⟨s,x,h,h3,rfl,rfl⟩<;>rcases k with k|⟨s',x',k,k3,rfl,rfl⟩
     · have:=h.one k;simp only[Out.fail.injEq]at this;rw[this.1,this.2]
     · cases h.one k
     · cases h.one k
     · rfl
 · exact absurd (A7b h k) (by simp)
 · exact absurd (A7b k h) (by simp)
 · obtain⟨_,s,x,h,_,_,rfl,rfl⟩:=h;obtain⟨_,s',x',k,_,_,rfl,rfl⟩:=k;have:=h.one k;simp only[Out.ok.injEq]at this;rw[this.1]
theorem Z2a(L:List Tk):∀f d s acc s' l,(sp' L f).progL d s acc=some (.ok s' l)->(tk L s'.i).kind=6
 |0,_,_,_,_,_,h=>by cases h
 |f+1,d,s,acc,s',l,h=>by
  change (if (tk L s.i).kind=6 then some (.ok s acc) else A4 ((sp' L f).stmt d s) λs x=>(sp' L f).progL d s (acc++[x]))=_ at h
  split at h
  · rename_i h6;simp only[zQ,Out.ok.injEq]at h;rw[<-h.1];exact h6
  · unfold A4 at h;split at h
    · cases h
    · cases h
    · exact Z2a L f _ _ _ _ _ h
theorem V8c{L:List Tk}{d:Nat}{s s':St}{x:Int}(h:Ev L (D7a d s) (.ok s' x)):(tk L s'.i).kind=6:=by
 obtain⟨f,hf⟩:=h;have h:=hf f (vQ _);unfold D7a A4 at h;split at h
 · cases h
 · cases h
 · rename_i s2 l hh;have:=Z2a L f _ _ _ _ _ hh;simp only[addN,zQ,Out.ok.injEq]at h;rw[<-h.1];exact this
def T1c(x:List UInt8):Prop:=x≠[]/\x.length<=9/\∀c∈x,dig c.toNat=true
def NuL(L:List Tk):Prop:=∀i,(tk L i).kind=3->T1c (tk L i).text
theorem P4c(l:List UInt8)(h:(first l).1=3):T1c (first l).2.1:=by
 unfold first at h⊢;cases hc:l.head? with
 |none=>rw[hc]at h;simp at h
 |some c=>
  rw[hc]at h;simp only at h⊢;cases hd:dig c.toNat with
  |true=>
   rw[hd]at h;simp only[if_true]at h⊢;unfold A3a at h⊢;split at h
   · simp at h
   · rename_i hn;rw[if_neg hn];have hle:=B8a dig l;cases l with
     |nil=>simp at hc
     |cons a r=>
      simp only[List.head?_cons,zQ]at hc;subst hc;have hp:1<=sp dig (a::r):=by have:=M5a dig (a::r) 0 (by simp) (wQ _) hd;omega
      refine⟨?_, ?_, ?_⟩
      · intro e;have:=congrArg List.length e;rw[List.length_take]at this;simp only[jQ,xQ]at this hle;omega
      · rw[List.length_take];omega
      · intro x hx;obtain⟨k,hk,rfl⟩:=List.getElem_of_mem hx;rw[List.getElem_take];rw[List.length_take]at hk;exact B7b dig (a::r) k (by omega) (by omega)
  |false=>
   rw[hd]at h;simp only[Bool.false_eq_true,if_false]at h;split at h
   · unfold name at h;split at h
     · simp at h
     · split at h<;>simp at h
   split at h
   · unfold text at h;split at h<;>simp at h
   · unfold W4a at h;split at h<;>simp at h
theorem H4b:∀(f:Nat) (l:List UInt8) (a:Nat) (acc:List Tk),(∀t∈acc,t.kind=3->T1c t.text)->∀t∈(O0 f l a acc).1,t.kind=3->T1c t.text
 |0,l,a,acc,_=>by simp[O0]
 |f+1,l,a,acc,h=>by
  simp only[O0];split
  · intro t ht hk;simp only[qW,zW]at ht;rcases ht with ht|rfl
    · exact h t ht hk
    · simp at hk
  split
  · simp
  split
  · simp
  refine H4b f l _ _ λt ht hk=> ?_;simp only[qW,zW]at ht;rcases ht with ht|rfl
  · exact h t ht hk
  · exact P4c _ hk
theorem J0b(l:List UInt8):NuL (I5 l).1:=by
 intro i hk;by_cases hi:i<(I5 l).1.length
 · have e:tk (I5 l).1 i=(I5 l).1[i]:=by simp[tk,List.getD,hi]
   rw[e]at hk⊢;have hm:=mQ hi;revert hk hm;generalize (I5 l).1[i]=t;intro hk hm;unfold I5 at hm;split at hm
   · simp at hm
   · exact H4b _ _ _ _ (by simp) t hm hk
 · rw[B3b hi]at hk;simp at hk
theorem L4b:∀(l:List UInt8) (acc:Nat),(∀c∈l,dig c.toNat=true)->∃n:Nat,Lib.decFrom acc l=some n/\(l.foldl (λn c=>10 * n+(c.toNat:Int) - 48) (acc:Int))=(n:Int)
 |[],acc,_=>⟨acc,rfl,rfl⟩
 |c::r,acc,h=>by
  have hc:=h c (by simp);have hd:48<=c.toNat/\c.toNat<=57:=by
   unfold dig at hc;simpa using hc
  obtain⟨n,h1,h2⟩:=L4b r (acc * 10+(c.toNat - 48)) (λx hx=>h x (by simp[hx]));refine⟨n, ?_, ?_⟩
  · rw[Lib.decFrom,Lib.digitVal,if_pos hd];exact h1
  · rw[List.foldl_cons];have e:10 * (acc:Int)+(c.toNat:Int) - 48=((acc * 10+(c.toNat - 48):Nat):Int):=by omega
    rw[e];exact h2
theorem T7b(x:List UInt8)(h:T1c x):Lib.atoi x=some (E2a x):=by
 obtain⟨h0,_,hd⟩:=h;cases x with
 |nil=>exact absurd rfl h0
 |cons c r=>
  obtain⟨n,h1,h2⟩:=L4b (c::r) 0 hd;have hc:=hd c (by simp);unfold dig at hc;have hc2:48<=c.toNat/\c.toNat<=57:=by simpa using hc
  have n1:(c==45)=false:=by
   rw[beq_eq_false_iff_ne];rintro rfl;simp at hc2
  have n2:(c==43)=false:=by
   rw[beq_eq_false_iff_ne];rintro rfl;simp at hc2
  have e:E2a (c::r)=(n:Int):=h2;rw[Lib.atoi,n1,n2,e];simp[Lib.decNat,h1]
/-! ### Behind others -/
def mvT(b:Int)(t:Ty):Ty:=⟨t.kind,t.fields.map λp=>(p.1,p.2+b),t.list.map λx=>x+b,t.of'+b⟩
theorem TyOk.mv{t:Ty}{i:Nat}(h:TyOk t i)(b:Nat):TyOk (mvT b t) (b+i):=by
 have hl:∀x∈t.list,0<=x/\x<i:=h.lst;rcases h with ⟨h1,h2,h3,h4⟩|⟨h1,h2,h3,h4⟩|⟨h1,h2,h3,h4,h5⟩|⟨h1,h2,h3,h4,h5⟩|⟨h1,h2,h3,h4⟩
 · exact .inl ⟨h1,h2,by simp[mvT,h3],by simp[mvT,h4]⟩
 · refine .inr (.inl ⟨h1,by simp[mvT,h2], ?_,λp hp=> ?_⟩)
   · have:(mvT b t).fields.map (·.1)=t.fields.map (·.1):=by simp[mvT]
     rw[this];exact h3
   · obtain⟨q,hq,rfl⟩:=List.mem_map.1 hp;have:=h4 q hq;exact⟨this.1,by show 0<=q.2+b;omega,by show q.2+(b:Int)<((b+i:Nat):Int);omega⟩
 · exact .inr (.inr (.inl ⟨h1,by simp[mvT,h2],by simp[mvT,h3],by show 0<=t.of'+b;omega,by show t.of'+(b:Int)<((b+i:Nat):Int);omega⟩))
 · refine .inr (.inr (.inr (.inl ⟨h1,by simp[mvT,h2],by show 0<=t.of'+b;omega,by show t.of'+(b:Int)<((b+i:Nat):Int);omega,λx hx=> ?_⟩)));obtain⟨q,hq,rfl⟩:=List.mem_map.1 hx;have:=hl q hq;exact⟨by omega,by omega⟩
 · refine .inr (.inr (.inr (.inr ⟨h1,by simp[mvT,h2],by simpa[mvT]using h3,λx hx=> ?_⟩)));obtain⟨q,hq,rfl⟩:=List.mem_map.1 hx;have:=hl q hq;exact⟨by omega,by omega⟩
def U5(T X:List Ty):List Ty:=T++X.map (mvT T.length)
def ltN(a b:List UInt8):Bool:=decide (Lib.compareBytes a b<0)
theorem A5b:∀a:List UInt8,Lib.compareBytes a a=0
 |[]=>rfl
 |a::as=>by
  unfold Lib.compareBytes;rw[if_neg (UInt8.lt_irrefl a),if_neg (UInt8.lt_irrefl a)];exact A5b as
theorem Y4b:∀a b:List UInt8,Lib.compareBytes a b=0->a=b
 |[],[],_=>rfl
 |[],_::_,h=>by simp[Lib.compareBytes]at h
 |_::_,[],h=>by simp[Lib.compareBytes]at h
 |a::as,b::bs,h=>by
  unfold Lib.compareBytes at h;split at h
  · simp at h
  split at h
  · simp at h
  rename_i h1 h2;have:a=b:=UInt8.le_antisymm (UInt8.not_lt.1 h2) (UInt8.not_lt.1 h1);rw[this,Y4b as bs h]
theorem R5:∀a b:List UInt8,Lib.compareBytes b a= - Lib.compareBytes a b
 |[],[]=>rfl
 |[],_::_=>rfl
 |_::_,[]=>rfl
 |a::as,b::bs=>by
  unfold Lib.compareBytes;by_cases h1:a<b
  · have h2:=UInt8.lt_asymm h1;simp[h1,h2]
  · by_cases h2:b<a
    · simp[h1,h2]
    · simp only[h1,h2,if_false];exact R5 as bs
theorem D4a:∀a b c:List UInt8,Lib.compareBytes a b<=0->Lib.compareBytes b c<=0->Lib.compareBytes a c<=0/\(Lib.compareBytes a b<0\/Lib.compareBytes b c<0->Lib.compareBytes a c<0)
 |[],[],c,_,h=>by
  refine⟨h,λh'=> ?_⟩;rcases h' with h'|h'
  · simp[Lib.compareBytes]at h'
  · exact h'
 |[],_::_,[],_,h=>by simp[Lib.compareBytes]at h
 |[],_::_,_::_,_,_=>by simp[Lib.compareBytes]
 |_::_,[],_,h,_=>by simp[Lib.compareBytes]at h
 |_::_,_::_,[],_,h=>by simp[Lib.compareBytes]at h
 |a::as,b::bs,c::cs,h1,h2=>by
  have ih:=D4a as bs cs;unfold Lib.compareBytes at h1 h2⊢;by_cases hab:a<b
  · by_cases hbc:b<c
    · rw[if_pos (UInt8.lt_trans hab hbc)];simp
    · by_cases hcb:c<b
      · rw[if_neg hbc,if_pos hcb]at h2;simp at h2
      · have:b=c:=UInt8.le_antisymm (UInt8.not_lt.1 hcb) (UInt8.not_lt.1 hbc);subst this;rw[if_pos hab];simp
  · by_cases hba:b<a
    · rw[if_neg hab,if_pos hba]at h1;simp at h1
    · have:a=b:=UInt8.le_antisymm (UInt8.not_lt.1 hba) (UInt8.not_lt.1 hab);subst this;rw[if_neg (UInt8.lt_irrefl a),if_neg (UInt8.lt_irrefl a)]at h1⊢;by_cases hbc:a<c
      · rw[if_pos hbc];simp
      · by_cases hcb:c<a
        · rw[if_neg hbc,if_pos hcb]at h2;simp at h2
        · simp only[hbc,hcb,if_false]at h2⊢;exact ih h1 h2
theorem Y9c(n n':List (List UInt8))(x y:Tr)(xs ys:List Tr):D9 (.nd 9 n (x::xs)) (.nd 9 n' (y::ys))=(decide (xs.length<=ys.length) && ((xs.zip ys).all λp=>D9 p.1 p.2||D9 p.2 p.1) && D9 x y):=by rw[B2a];rfl
def leN{α:Type}(a b:List UInt8×α):Bool:= !ltN b.1 a.1
def J8a{α:Type}(l:List (List UInt8×α)):List (List UInt8×α):=l.mergeSort leN
theorem C0c{α:Type}(a b c:List UInt8×α)(h1:leN a b=true)(h2:leN b c=true):leN a c=true:=by
 simp only[leN,ltN,Bool.not_eq_true',decide_eq_false_iff_not,Int.not_lt]at *;have e1:=R5 a.1 b.1;have e2:=R5 b.1 c.1;have e3:=R5 a.1 c.1;have:=(D4a a.1 b.1 c.1 (by omega) (by omega)).1;omega
theorem C1c{α:Type}(a b:List UInt8×α):(leN a b||leN b a)=true:=by
 simp only[leN,ltN,Bool.or_eq_true,Bool.not_eq_true',decide_eq_false_iff_not,Int.not_lt];have e1:=R5 a.1 b.1;omega
theorem T2{α:Type}(l:List (List UInt8×α)):(J8a l).Perm l:=List.mergeSort_perm l leN
theorem E4a{α:Type}(l:List (List UInt8×α)):(J8a l).Pairwise (λa b=>leN a b=true):=List.pairwise_mergeSort C0c C1c l
theorem H8a{α:Type}:∀(l l':List (List UInt8×α)),l.Perm l'->(l.map (·.1)).Nodup->l.Pairwise (λa b=>leN a b=true)->l'.Pairwise (λa b=>leN a b=true)->l=l'
 |[],l',hp,_,_,_=>(List.nil_perm.1 hp).symm
 |x::l,[],hp,_,_,_=>by simp at hp
 |x::l,y::l',hp,hn,h1,h2=>by
  have hx:x∈y::l':=hp.subset (by simp);have hy:y∈x::l:=hp.symm.subset (by simp);have hxy:x=y:=by
   rcases jW.1 hx with h|h
   · exact h
   · rcases jW.1 hy with h'|h'
     · exact h'.symm
     · have a1:=(List.pairwise_cons.1 h1).1 y h';have a2:=(List.pairwise_cons.1 h2).1 x h;simp only[leN,ltN,Bool.not_eq_true',decide_eq_false_iff_not,Int.not_lt]at a1 a2;have e1:=R5 x.1 y.1;have e2:=Y4b x.1 y.1 (by omega);rw[List.map_cons,List.nodup_cons]at hn;exact absurd (List.mem_map.2 ⟨y,h',e2.symm⟩) hn.1
  subst hxy;rw[H8a l l' (List.perm_cons x|>.1 hp) (by rw[List.map_cons,List.nodup_cons]at hn;exact hn.2) (List.pairwise_cons.1 h1).2 (List.pairwise_cons.1 h2).2]
mutual
def srt:Tr->Tr
 | .nd k ns ks=>if k=7 then .nd 7 ((J8a (ns.zip (W3a ks))).map (·.1)) ((J8a (ns.zip (W3a ks))).map (·.2)) else .nd k ns (W3a ks)
def W3a:List Tr->List Tr
 |[]=>[]
 |t::r=>srt t::W3a r
end
theorem J9a:∀ks:List Tr,W3a ks=ks.map srt
 |[]=>rfl
 |t::r=>by rw[W3a,J9a r];rfl
def key(t:Tr):List UInt8:=txt' (srt t)
theorem K9d(t:Tr):(srt t).k=t.k:=by
 obtain⟨k,ns,ks⟩:=t;rw[srt];split
 · rename_i h;rw[h];rfl
 · rfl
theorem M4a{k:Int}{ns:List (List UInt8)}{ks:List Tr}(h:k≠7):srt (.nd k ns ks)= .nd k ns (ks.map srt):=by rw[srt,if_neg h,J9a]
theorem D4d(t:Tr)(h:Wf t):Wf (srt t):=by
 induction h with
 |plain k h1 h2=>
  rw[M4a (by omega)];exact Wf.plain k h1 h2
 |obj ns ks hl hn hm _ ih=>
  rw[srt,if_pos rfl,J9a];have hp:=T2 (ns.zip (ks.map srt));have e1:(ns.zip (ks.map srt)).map (·.1)=ns:=by
   rw[List.map_fst_zip];simp[hl]
  refine Wf.obj _ _ (by simp) ?_ (λn hn'=> ?_) (λx hx=> ?_)
  · have:=hp.map (·.1);rw[e1]at this;exact this.nodup_iff.2 hn
  · have:=(hp.map (·.1)).subset hn';rw[e1]at this;exact hm n this
  · have:=(hp.map (·.2)).subset hx;obtain⟨p,hp',rfl⟩:=List.mem_map.1 this;obtain⟨y,hy,e⟩:=List.mem_map.1 (List.of_mem_zip hp').2;rw[<-e];exact ih y hy
 |arr t _ ih=>
  rw[M4a (by decide)];exact Wf.arr _ ih
 |fn t ps _ _ iht ihp=>
  rw[M4a (by decide)];refine Wf.fn _ _ iht (λx hx=> ?_);obtain⟨y,hy,rfl⟩:=List.mem_map.1 hx;exact ihp y hy
 |uni ks h2 _ ih=>
  rw[M4a (by decide)];refine Wf.uni _ (by simpa using h2) (λx hx=> ?_);obtain⟨y,hy,rfl⟩:=List.mem_map.1 hx;exact ih y hy
/-! ### Unions -/
mutual
def flat:Tr->List Tr
 | .nd k ns ks=>if k=10 then I4 ks else [.nd k ns ks]
def I4:List Tr->List Tr
 |[]=>[]
 |t::r=>flat t++I4 r
end
def dd:List Tr->List Tr->List Tr
 |acc,[]=>acc
 |acc,t::r=>if acc.any (λu=>key u==key t) then dd acc r else dd (acc++[t]) r
def Y4(l:List Tr):Tr:=
 if (I4 l).any (λt=>t.k==5) then .nd 5 [] []
 else match dd [] (I4 l) with
  |[]=> .nd 5 [] []
  |[t]=>t
  |t::u::r=> .nd 10 [] (t::u::r)
theorem E5b:∀(l acc:List Tr) (x:Tr),x∈acc->x∈dd acc l
 |[],acc,x,h=>h
 |t::r,acc,x,h=>by
  rw[dd];split
  · exact E5b r acc x h
  · exact E5b r _ x (by simp[h])
theorem E4b:∀(l acc:List Tr) (x:Tr),x∈l->∃u∈dd acc l,key u=key x
 |t::r,acc,x,h=>by
  rw[dd];rcases jW.1 h with rfl|h
  · split
    · rename_i hc;rw[List.any_eq_true]at hc;obtain⟨u,hu,e⟩:=hc;exact⟨u,E5b r acc u hu,by simpa using e⟩
    · exact⟨x,E5b r _ x (by simp),rfl⟩
  · split
    · exact E4b r acc x h
    · exact E4b r _ x h
theorem E3b:∀(l acc:List Tr) (x:Tr),x∈dd acc l->x∈acc\/x∈l
 |[],acc,x,h=> .inl h
 |t::r,acc,x,h=>by
  rw[dd]at h;split at h
  · rcases E3b r acc x h with h|h
    · exact .inl h
    · exact .inr (by simp[h])
  · rcases E3b r _ x h with h|h
    · rcases qW.1 h with h|h
      · exact .inl h
      · simp at h;exact .inr (by simp[h])
    · exact .inr (by simp[h])
theorem N4a:∀{l:List Tr} {x:Tr},x∈I4 l->∃t∈l,x∈flat t
 |t::r,x,h=>by
  rw[I4,qW]at h;rcases h with h|h
  · exact⟨t,by simp,h⟩
  · obtain⟨u,hu,hx⟩:=N4a h;exact⟨u,by simp[hu],hx⟩
theorem Y8c(t:Tr)(h:Wf t):∀x∈flat t,Wf x/\x.k≠10:=by
 induction h with
 |plain k h1 h2=>
  intro x hx;rw[flat,if_neg (by omega)]at hx;simp at hx;subst hx
  exact⟨Wf.plain k h1 h2,by simp only[Tr.k];omega⟩
 |obj ns ks a b c d _=>
  intro x hx;rw[flat,if_neg (by decide)]at hx;simp at hx;subst hx
  exact⟨Wf.obj ns ks a b c d,by simp[Tr.k]⟩
 |arr t a _=>
  intro x hx;rw[flat,if_neg (by decide)]at hx;simp at hx;subst hx
  exact⟨Wf.arr t a,by simp[Tr.k]⟩
 |fn t ps a b _ _=>
  intro x hx;rw[flat,if_neg (by decide)]at hx;simp at hx;subst hx
  exact⟨Wf.fn t ps a b,by simp[Tr.k]⟩
 |uni ks _ _ ih=>
  intro x hx;rw[flat,if_pos rfl]at hx;obtain⟨t,ht,hx⟩:=N4a hx;exact ih t ht x hx
theorem F4c:Wf (.nd 5 [] []):=Wf.plain 5 (by decide) (by decide)
theorem G0c(l:List Tr)(h:∀t∈l,Wf t):Wf (Y4 l):=by
 have hd:∀x∈dd [] (I4 l),Wf x:=by
  intro x hx;rcases E3b _ _ x hx with hx|hx
  · simp at hx
  · obtain⟨t,ht,hx⟩:=N4a hx;exact(Y8c t (h t ht) x hx).1
 unfold Y4;split
 · exact F4c
 · split
   · exact F4c
   · rename_i t e;exact hd t (by rw[e];simp)
   · rename_i t u r e;exact Wf.uni _ (by simp) (λx hx=>hd x (by rw[e];exact hx))
/-! ### Tags -/
mutual
theorem Q2a:∀t:Tr,Z7 t<128
 | .nd k ns ks=>by
  rw[Z7];split
  · exact R9a ks
  · unfold O1a;repeat' split
    all_goals decide
theorem R9a:∀l:List Tr,U0 l<128
 |[]=>by simp[U0]
 |t::r=>by
  rw[U0];exact Nat.or_lt_two_pow (n:=7) (Q2a t) (R9a r)
end
theorem G0b:∀qs:List (List UInt8×Tr),G1b (qs.map (·.1)) (qs.map (·.2))=qs.flatMap λp=>[32]++p.1++[58,32]++txt' p.2++[59]
 |[]=>rfl
 |p::r=>by
  rw[List.map_cons,List.map_cons,G1b,List.headD_cons,List.tail_cons,G0b r,List.flatMap_cons]
theorem H9c{α β:Type}(g:α->β)(l:List (List UInt8×α))(hn:(l.map (·.1)).Nodup):J8a (l.map λp=>(p.1,g p.2))=(J8a l).map λp=>(p.1,g p.2):=by
 refine(H8a _ _ (((T2 l).map _).trans (T2 _).symm) ?_ ?_ (E4a _)).symm
 · rw[List.map_map];have e:((λp:List UInt8×β=>p.1) ∘ λp:List UInt8×α=>(p.1,g p.2))=λp=>p.1:=rfl;rw[e];exact((T2 l).map _).nodup_iff.2 hn
 · rw[List.pairwise_map];exact E4a l
theorem U7c(fs:List (List UInt8×Int))(f:Int->Tr)(hn:(fs.map (·.1)).Nodup):srt (.nd 7 (fs.map (·.1)) (fs.map λp=>f p.2))= .nd 7 ((J8a fs).map (·.1)) ((J8a fs).map λp=>srt (f p.2)):=by
 have e:(fs.map (·.1)).zip (W3a (fs.map λp=>f p.2))=fs.map λp=>(p.1,(λz=>srt (f z)) p.2):=by
  rw[J9a,List.map_map];induction fs with
  |nil=>rfl
  |cons p r ih=>
   rw[List.map_cons,List.nodup_cons]at hn;simp only[List.map_cons,List.zip_cons_cons,ih hn.2];rfl
 rw[srt,if_pos rfl,e,H9c (λz=>srt (f z)) fs hn,List.map_map,List.map_map];rfl
theorem V3b(fs:List (List UInt8×Int))(f:Int->Tr):txt' (.nd 7 (fs.map (·.1)) (fs.map λp=>f p.2))=[123]++(fs.flatMap λp=>[32]++p.1++[58,32]++txt' (f p.2)++[59])++(if fs.length=0 then [] else [32])++[125]:=by
 have e:=G0b (fs.map λp=>(p.1,f p.2));rw[List.map_map,List.map_map]at e;have e2:G1b (fs.map (·.1)) (fs.map λp=>f p.2)=fs.flatMap λp=>[32]++p.1++[58,32]++txt' (f p.2)++[59]:=by
  refine Eq.trans e ?_;rw[List.flatMap_map]
 rw[txt',if_pos rfl,e2,List.length_map]
theorem B0a{α:Type}(l:List (List UInt8×α)):(J8a l).length=l.length:=(T2 l).length_eq
def Q(L:List Tk)(t:Ty):Prop:=t.fields.length<=L.length/\t.list.length<=L.length/\(t.kind=8\/t.kind=9\/t.of'=0)
def Qs(L:List Tk)(s:St):Prop:=s.i<=L.length/\∀t∈s.T,Q L t
structure QF(L:List Tk)(f:Nat):Prop where
 typ:∀d s s' x,Qs L s->(sp' L f).typ d s=some (.ok s' x)->Qs L s'/\s.i<s'.i
 union:∀d s s' x,Qs L s->(sp' L f).union d s=some (.ok s' x)->Qs L s'/\s.i<s'.i
 unionL:∀d s acc s' l,Qs L s->acc.length<=s.i->(sp' L f).unionL d s acc=some (.ok s' l)->Qs L s'/\s.i<=s'.i/\l.length<=s'.i
 member:∀d s s' x,Qs L s->(sp' L f).member d s=some (.ok s' x)->Qs L s'/\s.i<s'.i
 objL:∀d s fs s' x,Qs L s->fs.length<=s.i->(sp' L f).objL d s fs=some (.ok s' x)->Qs L s'/\s.i<s'.i
 fob:∀d s s' x,Qs L s->(sp' L f).fob d s=some (.ok s' x)->Qs L s'/\s.i<s'.i
 list:∀d s nm acc s' l,Qs L s->acc.length<=s.i->(sp' L f).list .typ [41] d s nm acc=some (.ok s' l)->Qs L s'/\s.i<s'.i/\l.length<=s'.i
def nsW(ns:List (List UInt8)):Nat:=(ns.map λn=>n.length+8).sum
mutual
def wg:Tr->Nat
 | .nd _ ns ks=>16+nsW ns+wgL ks
def wgL:List Tr->Nat
 |[]=>0
 |t::r=>wg t+5+wgL r
end
theorem L8a:∀l:List Tr,wgL l=(l.map λt=>wg t+5).sum
 |[]=>rfl
 |t::r=>by rw[wgL,L8a r,List.map_cons,List.sum_cons]
theorem U7b(l l':List Tr):wgL (l++l')=wgL l+wgL l':=by rw[L8a,L8a,L8a,List.map_append,List.sum_append]
theorem T9c(t:Tr):wgL [t]=wg t+5:=by simp[wgL]
theorem B1b:∀{l:List Tr} {x:Tr},x∈l->wg x+5<=wgL l
 |t::r,x,h=>by
  rw[wgL];rcases jW.1 h with rfl|h
  · omega
  · have:=B1b h;omega
theorem G7b{l l':List Nat}(h:l.Perm l'):l.sum=l'.sum:=by
 induction h with
 |nil=>rfl
 |cons x _ ih=>rw[List.sum_cons,List.sum_cons,ih]
 |swap x y l=>simp only[List.sum_cons];omega
 |trans _ _ ih1 ih2=>rw[ih1,ih2]
theorem F3c{l l':List Tr}(h:l.Perm l'):wgL l=wgL l':=by rw[L8a,L8a,G7b (h.map _)]
theorem K6c{l l':List (List UInt8)}(h:l.Perm l'):nsW l=nsW l':=G7b (h.map _)
theorem J7b:∀(r:List Tr) (b:Bool),(∀x∈r,(txt' x).length<=wg x)->(P5a b r).length<=wgL r
 |[],_,_=>by simp[P5a]
 |t::r,b,h=>by
  have h1:=h t (by simp);have h2:=J7b r false (λx hx=>h x (by simp[hx]));rw[P5a,wgL];simp only[qQ];have:(if b=true then ([]:List UInt8) else [44,32]).length<=2:=by split<;>simp
  omega
theorem J5b:∀(r:List Tr) (b:Bool),(∀x∈r,(txt' x).length<=wg x)->(M0a b r).length<=wgL r
 |[],_,_=>by simp[M0a]
 |t::r,b,h=>by
  have h1:=h t (by simp);have h2:=J5b r false (λx hx=>h x (by simp[hx]));rw[M0a,wgL];simp only[qQ];have e1:(if b=true then ([]:List UInt8) else [32,124,32]).length<=3:=by split<;>simp
  have e2:(if t.k=10\/t.k=9/\r.length≠0 then [40]++txt' t++[41] else txt' t).length<=(txt' t).length+2:=by split<;>simp
  omega
theorem J6b:∀(r:List Tr) (ns:List (List UInt8)),(∀x∈r,(txt' x).length<=wg x)->(G1b ns r).length<=nsW ns+wgL r
 |[],_,_=>by simp[G1b]
 |t::r,ns,h=>by
  have h1:=h t (by simp);have h2:=J6b r ns.tail (λx hx=>h x (by simp[hx]));rw[G1b,wgL];simp only[qQ,jQ,xQ];cases ns with
  |nil=>simp only[List.headD_nil,List.tail_nil,xQ]at *;omega
  |cons n ns=>
   have e:nsW (n::ns)=n.length+8+nsW ns:=by simp[nsW]
   simp only[List.headD_cons,List.tail_cons]at *;omega
theorem M9c(k:Int):(P4a k).length<=7:=by
 unfold P4a;split
 · simp
 split
 · simp
 split
 · simp
 split
 · simp
 split<;>simp
theorem J4b(t:Tr):(txt' t).length<=wg t:=by
 induction t using Tr.ind with
 |h k ns ks ih=>
  rw[txt',wg];split
  · have h1:=J6b ks ns ih;have h2:(if ns.length=0 then ([]:List UInt8) else [32]).length<=1:=by split<;>simp
    simp only[qQ,jQ,xQ];omega
  split
  · cases ks with
    |nil=>simp[U2c];omega
    |cons t r=>
     have h1:=ih t (by simp);simp only[U2c,qQ,jQ,xQ,wgL];omega
  split
  · cases ks with
    |nil=>simp[G2c]
    |cons t r=>
     have h1:=ih t (by simp);have h2:=J7b r true (λx hx=>ih x (by simp[hx]));simp only[G2c,qQ,jQ,xQ,wgL];omega
  split
  · have:=J5b ks true ih;omega
  · have:=M9c k;omega
theorem F7b:∀(ns:List (List UInt8)) (l:List Tr),nsW ((ns.zip l).map (·.1))<=nsW ns
 |[],_=>by simp[nsW]
 |_::_,[]=>by simp[nsW]
 |n::ns,t::l=>by
  have:=F7b ns l;unfold nsW at *;simp only[List.zip_cons_cons,List.map_cons,List.sum_cons]at *;omega
theorem F6b:∀(ns:List (List UInt8)) (l:List Tr),wgL ((ns.zip l).map (·.2))<=wgL l
 |[],_=>by simp[wgL]
 |_::_,[]=>by simp[wgL]
 |n::ns,t::l=>by
  have:=F6b ns l;simp only[List.zip_cons_cons,List.map_cons,wgL]at *;omega
theorem U5b:∀(l:List Tr),(∀x∈l,wg (srt x)<=wg x)->wgL (l.map srt)<=wgL l
 |[],_=>by simp[wgL]
 |t::r,h=>by
  have h1:=h t (by simp);have h2:=U5b r (λx hx=>h x (by simp[hx]));simp only[List.map_cons,wgL];omega
theorem D3d(t:Tr):wg (srt t)<=wg t:=by
 induction t using Tr.ind with
 |h k ns ks ih=>
  have h0:=U5b ks ih;by_cases hk:k=7
  · subst hk;rw[srt,if_pos rfl,wg,wg];have hp:=T2 (ns.zip (W3a ks));have e1:=K6c (hp.map (·.1));have e2:=F3c (hp.map (·.2));have h1:=F7b ns (W3a ks);have h2:=F6b ns (W3a ks);rw[J9a]at *;omega
  · rw[M4a hk,wg,wg];omega
theorem J4a:∀(l:List Tr),(∀x∈l,wgL (flat x)<=wg x+5)->wgL (I4 l)<=wgL l
 |[],_=>by simp[I4,wgL]
 |t::r,h=>by
  have h1:=h t (by simp);have h2:=J4a r (λx hx=>h x (by simp[hx]));rw[I4,U7b,wgL];omega
theorem U4b(t:Tr):wgL (flat t)<=wg t+5:=by
 induction t using Tr.ind with
 |h k ns ks ih=>
  rw[flat];split
  · have:=J4a ks ih;rw[wg];omega
  · rw[T9c];omega
theorem G1c(t:Tr)(h:Wf t):txt' t≠[]:=by
 induction h with
 |plain k h1 h2=>
  rw[txt',if_neg (by omega),if_neg (by omega),if_neg (by omega),if_neg (by omega)];unfold P4a;split
  · simp
  split
  · simp
  split
  · simp
  split
  · simp
  split<;>simp
 |obj ns ks a b c d _=>rw[txt',if_pos rfl];simp
 |arr t a _=>rw[txt',if_neg (by decide),if_pos rfl];simp
 |fn t ps a b _ _=>rw[txt',if_neg (by decide),if_neg (by decide),if_pos rfl,G2c];simp
 |uni ks h2 h ih=>
  rw[txt',if_neg (by decide),if_neg (by decide),if_neg (by decide),if_pos rfl];cases ks with
  |nil=>simp at h2
  |cons t r=>
   have h3:0<(txt' t).length:=List.length_pos_iff.2 (ih t (by simp));have h4:(txt' t).length<=(if t.k=10\/t.k=9/\r.length≠0 then [40]++txt' t++[41] else txt' t).length:=by split<;>simp;omega
   rw[M0a];intro e;have e2:=congrArg List.length e;simp only[qQ,xQ]at e2;omega
def Up{α:Type}(n:Nat)(x:Option (Out α)):Prop:=∀s' a,x=some (.ok s' a)->n<=s'.N.length
def Ix(n:Nat)(x:Option (Out Int)):Prop:=∀s' a,x=some (.ok s' a)->n<=s'.N.length/\(n:Int)<=a
def Rx(n:Nat)(h:Int)(x:Option (Out Int)):Prop:=∀s' a,x=some (.ok s' a)->n<=s'.N.length/\(a=h\/(n:Int)<=a)
theorem Up.none{α:Type}{n:Nat}:Up n (none:Option (Out α)):=by intro _ _ h;cases h
theorem Ix.none{n:Nat}:Ix n none:=by intro _ _ h;cases h
theorem Rx.none{n:Nat}{x:Int}:Rx n x none:=by intro _ _ h;cases h
theorem Up.flt{α:Type}{n:Nat}{L:List Tk}{i:Nat}{e:Int}:Up n (flt L i e:Option (Out α)):=by intro _ _ h;simp[M.flt]at h
theorem Ix.flt{n:Nat}{L:List Tk}{i:Nat}{e:Int}:Ix n (M.flt L i e):=by intro _ _ h;simp[M.flt]at h
theorem Rx.flt{n:Nat}{x:Int}{L:List Tk}{i:Nat}{e:Int}:Rx n x (M.flt L i e):=by intro _ _ h;simp[M.flt]at h
theorem Up.ok{α:Type}{n:Nat}{s:St}{a:α}(h:n<=s.N.length):Up n (some (.ok s a)):=by
 intro _ _ e;simp only[zQ,Out.ok.injEq]at e;obtain⟨rfl,rfl⟩:=e;exact h
theorem Rx.ok{n:Nat}{s:St}{a:Int}(h:n<=s.N.length):Rx n a (some (.ok s a)):=by
 intro _ _ e;simp only[zQ,Out.ok.injEq]at e;obtain⟨rfl,rfl⟩:=e;exact⟨h,.inl rfl⟩
theorem Ix.ok{n:Nat}{s:St}{a:Int}(h:n<=s.N.length)(ha:(n:Int)<=a):Ix n (some (.ok s a)):=by
 intro _ _ e;simp only[zQ,Out.ok.injEq]at e;obtain⟨rfl,rfl⟩:=e;exact⟨h,ha⟩
theorem Ix.up{n:Nat}{x:Option (Out Int)}(h:Ix n x):Up n x:=λ_ _ e=>(h _ _ e).1
theorem Up.low{α:Type}{n m:Nat}{x:Option (Out α)}(h:Up m x)(hn:n<=m):Up n x:=λ_ _ e=>kQ hn (h _ _ e)
theorem Ix.low{n m:Nat}{x:Option (Out Int)}(h:Ix m x)(hn:n<=m):Ix n x:=λ_ _ e=>⟨kQ hn (h _ _ e).1,by have:=(h _ _ e).2;omega⟩
theorem Up.bind{α β:Type}{n:Nat}{x:Option (Out α)}{k:St->α->Option (Out β)}(h:Up n x)(hk:∀s a,n<=s.N.length->Up n (k s a)):Up n (A4 x k):=by
 intro s' b e;obtain⟨s1,a,e1,e2⟩:=B6 e;exact hk s1 a (h _ _ e1) _ _ e2
theorem Ix.bind{α:Type}{n:Nat}{x:Option (Out α)}{k:St->α->Option (Out Int)}(h:Up n x)(hk:∀s a,n<=s.N.length->Ix n (k s a)):Ix n (A4 x k):=by
 intro s' b e;obtain⟨s1,a,e1,e2⟩:=B6 e;exact hk s1 a (h _ _ e1) _ _ e2
theorem Ix.bindx{n:Nat}{x:Option (Out Int)}{k:St->Int->Option (Out Int)}(h:Ix n x)(hk:∀s a,n<=s.N.length->(n:Int)<=a->Ix n (k s a)):Ix n (A4 x k):=by
 intro s' b e;obtain⟨s1,a,e1,e2⟩:=B6 e;exact hk s1 a (h _ _ e1).1 (h _ _ e1).2 _ _ e2
theorem Up.bindx{n:Nat}{x:Option (Out Int)}{k:St->Int->Option (Out Int)}(h:Ix n x)(hk:∀s a,n<=s.N.length->(n:Int)<=a->Up n (k s a)):Up n (A4 x k):=by
 intro s' b e;obtain⟨s1,a,e1,e2⟩:=B6 e;exact hk s1 a (h _ _ e1).1 (h _ _ e1).2 _ _ e2
theorem Rx.toIx{n:Nat}{h:Int}{x:Option (Out Int)}(hr:Rx n h x)(hh:(n:Int)<=h):Ix n x:=by
 intro s' a e;obtain⟨h1,h2⟩:=hr _ _ e;exact⟨h1,by omega⟩
theorem Ix.toRx{n:Nat}{h:Int}{x:Option (Out Int)}(hr:Ix n x):Rx n h x:=λ_ _ e=>⟨(hr _ _ e).1,.inr (hr _ _ e).2⟩
theorem Ix.add{n:Nat}{s:St}{t:Nd}(h:n<=s.N.length):Ix n (addN s t):=by
 intro s' a e;simp only[addN,zQ,Out.ok.injEq]at e;obtain⟨rfl,rfl⟩:=e;simp;omega
theorem Up.addT{n:Nat}{s:St}{t:Ty}(h:n<=s.N.length):Up n (addT s t):=by
 intro s' a e;simp only[M.addT,zQ,Out.ok.injEq]at e;obtain⟨rfl,rfl⟩:=e;exact h
theorem Up.need{n:Nat}{L:List Tk}{s:St}{m:List UInt8}(h:n<=s.N.length):Up n (need L s m):=by
 unfold M.need;split
 · exact Up.ok h
 · exact Up.flt
theorem Up.newName{n:Nat}{L:List Tk}{s:St}{ns:List (List UInt8)}(h:n<=s.N.length):Up n (newName L s ns):=by
 unfold M.newName;split
 · split
   · exact Up.flt
   · exact Up.ok h
 · exact Up.flt
theorem Up.inside{n:Nat}{L:List Tk}{b:Bool}{d:Nat}{s:St}{p:Nat->St->Option (Out Int)}(h:∀d,Up n (p d s)):Up n (inside L b d s p):=by
 unfold M.inside;split
 · split
   · exact Up.flt
   · exact h _
 · exact Up.flt
theorem Ix.inside{n:Nat}{L:List Tk}{b:Bool}{d:Nat}{s:St}{p:Nat->St->Option (Out Int)}(h:∀d,Ix n (p d s)):Ix n (inside L b d s p):=by
 unfold M.inside;split
 · split
   · exact Ix.flt
   · exact h _
 · exact Ix.flt
theorem Ix.two{n:Nat}{L:List Tk}{s:St}{l:Int}{p:St->Option (Out Int)}(h:Up n (p s.nx)):Ix n (two L s l p):=by
 unfold M.two;exact Ix.bind h λs a hs=>Ix.add hs
structure Nla(r:Sp):Prop where
 typ:∀d s,Up s.N.length (r.typ d s)
 union:∀d s,Up s.N.length (r.union d s)
 unionL:∀d s l,Up s.N.length (r.unionL d s l)
 member:∀d s,Up s.N.length (r.member d s)
 objL:∀d s l,Up s.N.length (r.objL d s l)
 fob:∀d s,Up s.N.length (r.fob d s)
 list:∀p e d s a b,Up s.N.length (r.list p e d s a b)
 expr:∀d s,Ix s.N.length (r.expr d s)
 comp:∀d s,Ix s.N.length (r.comp d s)
 sum:∀d s,Ix s.N.length (r.sum d s)
 prod:∀d s,Ix s.N.length (r.prod d s)
 row:∀b d s x,Rx s.N.length x (r.row b d s x)
 oper:∀d s,Ix s.N.length (r.oper d s)
 tail:∀d s x,Rx s.N.length x (r.tail d s x)
 simple:∀d s,Ix s.N.length (r.simple d s)
 block:∀d s,Up s.N.length (r.block d s)
 blockL:∀d s a,Up s.N.length (r.blockL d s a)
 stmt:∀d s,Up s.N.length (r.stmt d s)
 any:∀d s,Up s.N.length (r.any d s)
 progL:∀d s a,Up s.N.length (r.progL d s a)
theorem Rx.low{n m:Nat}{h:Int}{x:Option (Out Int)}(hr:Rx m h x)(hn:n<=m):Rx n h x:=λs' a e=>by
 obtain⟨h1,h2⟩:=hr _ _ e;exact⟨by omega,by omega⟩
theorem Nla.typeIf{r:Sp}(i:Nla r){n:Nat}{L:List Tk}{d:Nat}{s:St}(h:n<=s.N.length):Up n (typeIf L r d s):=by
 unfold M.typeIf;split
 · exact(i.typ d s.nx).low h
 · exact Up.ok h
theorem Nla.part{r:Sp}(i:Nla r){n:Nat}{L:List Tk}{d:Nat}{s:St}{ns:List (List UInt8)}{p:Q0a}(h:n<=s.N.length):Up n (part L r d s ns p):=by
 cases p with
 |typ=>exact Up.bind ((i.typ d s).low h) λs a hs=>Up.ok hs
 |expr=>exact Up.bind ((i.expr d s).up.low h) λs a hs=>Up.ok hs
 |obj=>exact Up.bind (Up.newName h) λs1 _ h1=>Up.bind (Up.need h1) λs2 _ h2=>Up.bind ((i.expr d s2).up.low h2) λs3 _ h3=>Up.bind (Ix.add h3).up λs4 _ h4=>Up.ok h4
 |par=>exact Up.bind (Up.newName h) λs1 _ h1=>Up.bind (i.typeIf h1) λs2 _ h2=>Up.bind (Ix.add h2).up λs4 _ h4=>Up.ok h4
theorem Nla.more{r:Sp}(i:Nla r){n:Nat}{x0:Int}{d:Nat}{s:St}{t:Nd}(h:n<=s.N.length):Rx n x0 (A4 (addN s t) λs x=>r.tail d s x):=by
 refine Ix.toRx (Ix.bindx (Ix.add h) λs a hs ha=> ?_);exact((i.tail d s a).low hs).toIx ha
theorem Rx.bind{α:Type}{n:Nat}{x0:Int}{x:Option (Out α)}{k:St->α->Option (Out Int)}(h:Up n x)(hk:∀s a,n<=s.N.length->Rx n x0 (k s a)):Rx n x0 (A4 x k):=by
 intro s' b e;obtain⟨s1,a,e1,e2⟩:=B6 e;exact hk s1 a (h _ _ e1) _ _ e2
theorem L4c(L:List Tk)(r:Sp)(i:Nla r):Nla (step L r) where
 typ d s:=Up.inside λd=>i.union d s
 union d s:=Up.bind (i.member d s) λs1 a h1=>by
  split
  · exact Up.bind ((i.unionL d s1 _).low h1) λs2 l h2=>Up.addT h2
  · exact Up.ok h1
 unionL d s acc:=by
  show Up _ (if _ then _ else _);split
  · exact Up.bind (i.member d s.nx) λs1 a h1=>(i.unionL d s1 _).low h1
  · exact Up.ok (vQ _)
 member d s:=by
  show Up _ (if _ then _ else _);split
  · exact i.objL d s.nx []
  split
  · exact Up.bind (i.typ d s.nx) λs1 a h1=>Up.bind (Up.need h1) λs2 _ h2=>Up.addT h2
  split
  · exact i.fob d s.nx
  split
  · exact Up.addT (vQ _)
  · exact Up.flt
 objL d s fs:=by
  show Up _ (if _ then _ else _);split
  · exact Up.addT (vQ _)
  · exact Up.bind (Up.newName (vQ _)) λs1 _ h1=>Up.bind (Up.need h1) λs2 _ h2=>Up.bind ((i.typ d s2).low h2) λs3 _ h3=>Up.bind (Up.need h3) λs4 _ h4=>(i.objL d s4 _).low h4
 fob d s:=Up.bind (i.list _ _ d s _ _) λs1 l h1=>by
  split
  · exact Up.bind ((i.typ d s1.nx).low h1) λs2 _ h2=>Up.addT h2
  · split
    · exact Up.ok h1
    · exact Up.flt
 list p e d s ns acc:=by
  show Up _ (if _ then _ else _);split
  · exact Up.ok (vQ _)
  · refine Up.bind ?_ λs1 _ h1=>Up.bind (i.part h1) λs2 x h2=>(i.list p e d s2 _ _).low h2;split
    · exact Up.ok (vQ _)
    · exact Up.need (vQ _)
 expr d s:=Ix.inside λd=>i.comp d s
 comp d s:=Ix.bindx (i.sum d s) λs1 a h1 ha=>by
  split
  · exact Ix.two ((i.sum d s1.nx).up.low h1)
  · exact Ix.ok h1 ha
 sum d s:=Ix.bindx (i.prod d s) λs1 a h1 ha=>((i.row true d s1 a).low h1).toIx ha
 prod d s:=Ix.bindx (i.oper d s) λs1 a h1 ha=>((i.row false d s1 a).low h1).toIx ha
 row b d s x:=by
  show Rx _ _ (if _ then _ else _);split
  · refine Ix.toRx (Ix.bindx (Ix.two ?_) λs1 a h1 ha=>((i.row b d s1 a).low h1).toIx ha);cases b
    · exact(i.oper d s.nx).up
    · exact(i.prod d s.nx).up
  · exact Rx.ok (vQ _)
 oper d s:=by
  show Ix _ (if _ then _ else _);split
  · exact Ix.bind (Up.inside λd=>(i.oper d s.nx).up) λs1 _ h1=>Ix.add h1
  · exact Ix.bindx (i.simple d s) λs1 a h1 ha=>((i.tail d s1 a).low h1).toIx ha
 tail d s x:=by
  show Rx _ _ (if _ then _ else _);split
  · exact Rx.bind (i.list _ _ d s.nx _ _) λs1 l h1=>i.more h1
  split
  · split
    · exact i.more (vQ s.N.length)
    · exact Rx.flt
  split
  · exact Rx.bind (i.expr d s.nx).up λs1 _ h1=>Rx.bind (Up.need h1) λs2 _ h2=>i.more h2
  split
  · exact Rx.bind (i.typ d s.nx) λs1 _ h1=>i.more h1
  · exact Rx.ok (vQ _)
 simple d s:=by
  show Ix _ (if _ then _ else _);iterate 6
   split
   · exact Ix.add (vQ s.N.length)
  split
  · exact Ix.bind (Up.need (vQ s.N.length)) λs1 _ h1=>Ix.bind ((i.list _ _ d s1 _ _).low h1) λs2 _ h2=>Ix.bind (i.typeIf h2) λs3 _ h3=>Ix.bind ((i.block d s3).low h3) λs4 _ h4=>Ix.add h4
  split
  · exact Ix.bind (i.list _ _ d s.nx _ _) λs1 _ h1=>Ix.add h1
  split
  · exact Ix.bind (i.list _ _ d s.nx _ _) λs1 _ h1=>Ix.add h1
  · exact Ix.bind (Up.need (vQ s.N.length)) λs1 _ h1=>Ix.bindx ((i.expr d s1).low h1) λs2 x h2 hx=>Ix.bind (Up.need h2) λs3 _ h3=>Ix.ok h3 hx
 block d s:=Up.bind (Up.need (vQ _)) λs1 _ h1=>Up.bind ((i.blockL d s1 _).low h1) λs2 _ h2=>(Ix.add h2).up
 blockL d s acc:=by
  show Up _ (if _ then _ else _);split
  · exact Up.ok (vQ _)
  · exact Up.bind (i.stmt d s) λs1 _ h1=>(i.blockL d s1 _).low h1
 stmt d s:=Up.inside λd=>i.any d s
 any d s:=by
  show Up _ (if _ then _ else _);split
  · split
    · exact Up.bind (i.typeIf (vQ s.N.length)) λs1 _ h1=>Up.bind (Up.need h1) λs2 _ h2=>Up.bind ((i.expr d s2).up.low h2) λs3 _ h3=>Up.bind (Up.need h3) λs4 _ h4=>(Ix.add h4).up
    · exact Up.flt
  split
  · exact Up.bind (i.expr d s.nx).up λs1 _ h1=>Up.bind (Up.need h1) λs2 _ h2=>(Ix.add h2).up
  split
  · exact Up.bind (i.expr d s.nx).up λs1 _ h1=>Up.bind (Up.need h1) λs2 _ h2=>(Ix.add h2).up
  split
  · refine Up.bind (Up.need (vQ s.N.length)) λs1 _ h1=>Up.bind ((i.expr d s1).up.low h1) λs2 _ h2=>Up.bind (Up.need h2) λs3 _ h3=>Up.bind ((i.block d s3).low h3) λs4 _ h4=>Up.bind ?_ λs5 _ h5=>(Ix.add h5).up;split
    · exact(i.block d s4.nx).low h4
    · exact Up.ok h4
  split
  · exact Up.bind (Up.need (vQ s.N.length)) λs1 _ h1=>Up.bind ((i.expr d s1).up.low h1) λs2 _ h2=>Up.bind (Up.need h2) λs3 _ h3=>Up.bind ((i.block d s3).low h3) λs4 _ h4=>(Ix.add h4).up
  · refine Up.bindx (i.expr d s) λs1 x h1 hx=> ?_;split
    · split
      · exact Up.flt
      · have hl:s.N.length<=(s1.N.take x.toNat).length:=by rw[List.length_take];omega
        exact Up.bind ((i.expr d ⟨s1.i+1,s1.N.take x.toNat,s1.T⟩).up.low hl) λs2 _ h2=>Up.bind (Up.need h2) λs3 _ h3=>(Ix.add h3).up
    · exact Up.bind (Up.need h1) λs2 _ h2=>(Ix.add h2).up
 progL d s acc:=by
  show Up _ (if _ then _ else _);split
  · exact Up.ok (vQ _)
  · exact Up.bind (i.stmt d s) λs1 _ h1=>(i.progL d s1 _).low h1
theorem W5b(L:List Tk):∀f,Nla (sp' L f)
 |0=>⟨λ_ _=>Up.none,λ_ _=>Up.none,λ_ _ _=>Up.none,λ_ _=>Up.none,λ_ _ _=>Up.none,λ_ _=>Up.none,λ_ _ _ _ _ _=>Up.none,λ_ _=>Ix.none,λ_ _=>Ix.none,λ_ _=>Ix.none,λ_ _=>Ix.none,λ_ _ _ _=>Rx.none,λ_ _=>Ix.none,λ_ _ _=>Rx.none,λ_ _=>Ix.none,λ_ _=>Up.none,λ_ _ _=>Up.none,λ_ _=>Up.none,λ_ _=>Up.none,λ_ _ _=>Up.none⟩
 |f+1=>L4c L _ (W5b L f)
theorem P6c{L:List Tk}(d:Nat)(s s':St)(x:Int)(h:Ev L (λr=>r.expr d s) (.ok s' x)):(s.N.length:Int)<=x:=by
 obtain⟨f,hf⟩:=h;exact((W5b L f).expr d s _ _ (hf f (vQ _))).2
end Go.Proofs.YtfhhipefecekkaaGreatDoor.M
