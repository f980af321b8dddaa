/-
  A part of the proof.
-/
import Derived.Test.YtgdnpemiiageaaaGreatDoorPlainD
set_option maxHeartbeats 16000000
set_option maxRecDepth 100000
namespace Go.Proofs.YtgdnpemiiageaaaGreatDoor.M
def pc (d:Nat) (t:Nt):Pc:=⟨bnd t,t.k,pr d t⟩
/-! ### The scanner has no fault there -/
def Gt {α:Type} (L:List Tk) (φ:Sp->Option (Out α)) (Q:St->α->Prop):Prop:=∃s' x,Ev L φ (.ok s' x)/\Q s' x
section
variable (L:List Tk)
def Qt (r:List TT) (s:St) (t:Tr) (s':St) (x:Int):Prop:=tt L s'.i=r/\Yft s t s' x
def Dt (t:Tr):Prop:=∀d s r,tt L s.i=tks t++r->Fol r->dTy t+1<=20 - d->Gt L (fun q=>q.typ d s) (Qt L r s t)
def Dm (t:Tr) (bare:Bool):Prop:=∀d s r,tt L s.i=tks t++r->isS r [61,62]=false->(bare=false->isS r [124]=false)->dTy t<=20 - d->Gt L (fun q=>q.member d s) (Qt L r s t)
end
section
variable {L:List Tk}
end
def B7c (r:List TT) (ms:List (List UInt8)):Bool:=
 match r with
 |[]=>false
 |(k,x)::_=>(k==5||k==2) && has ms x
def fo:List (List UInt8):=[[124],[61,62]]
def f5:List (List UInt8):=[[40],[46],[91],[97,115],[124],[61,62]]
def f3:List (List UInt8):=[[40],[46],[91],[97,115],[124],[61,62],[42]]
def f2:List (List UInt8):=[[40],[46],[91],[97,115],[124],[61,62],[42],[43],[45]]
def f1:List (List UInt8):=[[40],[46],[91],[97,115],[124],[61,62],[42],[43],[45],[61,61],[60]]
theorem f23:∀m∈f3,m∈f2:=by decide
section
variable (L:List Tk)
def Qn (r:List TT) (s:St) (t:Nt) (s':St) (x:Int):Prop:=tt L s'.i=r/\Nft s t s' x
def Cp (φ:Sp->Option (Out Int)) (k:Sp->St->Int->Option (Out Int)) (r:List TT) (s:St) (t:Nt):Prop:=
 ∃s' x,Qn L r s t s' x/\∀R,Gt L (fun q=>k q s' x) R->Gt L (fun q=>A3 (φ q) (k q)) R
def P5 (t:Nt):Prop:=∀d s r,tt L s.i=wt 5 (pt t)++r->B7c r fo=false->wd 5 (pt t)<=20 - d->Cp L (fun q=>q.simple d s) (fun q s x=>q.tail d s x) r s t
def P4 (t:Nt):Prop:=∀d s r,tt L s.i=wt 4 (pt t)++r->B7c r f5=false->wd 4 (pt t)<=20 - d->Gt L (fun q=>q.oper d s) (Qn L r s t)
def P3 (t:Nt):Prop:=∀d s r,tt L s.i=wt 3 (pt t)++r->B7c r f5=false->wd 3 (pt t)<=20 - d->Cp L (fun q=>q.oper d s) (fun q s x=>q.row false d s x) r s t
def P2 (t:Nt):Prop:=∀d s r,tt L s.i=wt 2 (pt t)++r->B7c r f3=false->wd 2 (pt t)<=20 - d->Cp L (fun q=>q.prod d s) (fun q s x=>q.row true d s x) r s t
def P1 (t:Nt):Prop:=∀d s r,tt L s.i=(me t).1++r->B7c r f1=false->(me t).2<=20 - d->Gt L (fun q=>q.comp d s) (Qn L r s t)
def PE (t:Nt):Prop:=∀d s r,tt L s.i=(me t).1++r->B7c r f1=false->(me t).2+1<=20 - d->Gt L (fun q=>q.expr d s) (Qn L r s t)
end
/-! ### How it begins -/
section
variable {L:List Tk}
end
def fw:List (List UInt8):=[[41],[93],[125],[44]]
def Fw (r:List TT):Prop:=∃m r',r=sg m::r'/\m∈fw
section
variable {L:List Tk}
/-! ### Each kind of an expression -/
end
section
variable (L:List Tk)
end
section
variable {L:List Tk}
end
section
variable {L:List Tk}
/-! ### Statements -/
def FS (l:List TT):Prop:=∃k x r,l=(k,x)::r/\(k=1\/k=3\/k=4\/((k=5\/k=2)/\x∈A8a++S3a))
end
def Bd {α:Type} (Z:Nat) (x:Option (Out α)):Prop:=∀s' a,x=some (.ok s' a)->s'.i<=Z
theorem Bd.bind {α β:Type} {Z:Nat} {x:Option (Out α)} {k:St->α->Option (Out β)} (h:Bd Z x) (hk:∀s a,s.i<=Z->Bd Z (k s a)):Bd Z (A3 x k):=by
 intro s' b e;obtain⟨s1,a,h1,h2⟩:=B7 e;exact hk s1 a (h _ _ h1) _ _ h2
theorem Bd.ok {α:Type} {Z:Nat} {s:St} {a:α} (h:s.i<=Z):Bd Z (some (.ok s a)):=by
 intro s' b e;simp only[Option.some.injEq,Out.ok.injEq]at e;rw[<-e.1];exact h
theorem Bd.flt {α:Type} {Z:Nat} {L:List Tk} {i:Nat} {e:Int}:Bd Z (flt L i e:Option (Out α)):=by
 intro s' b h;simp[M.flt]at h
theorem Bd.addN {Z:Nat} {s:St} {n:Nd} (h:s.i<=Z):Bd Z (addN s n):=Bd.ok (s:=⟨s.i,s.N++[n],s.T⟩) h
theorem Bd.addT {Z:Nat} {s:St} {n:Ty} (h:s.i<=Z):Bd Z (addT s n):=Bd.ok (s:=⟨s.i,s.N,s.T++[n]⟩) h
theorem Bd.ite {α:Type} {Z:Nat} {c:Prop} [Decidable c] {x y:Option (Out α)} (h1:c->Bd Z x) (h2:¬c->Bd Z y):Bd Z (if c then x else y):=by
 by_cases h:c
 · rw[if_pos h];exact h1 h
 · rw[if_neg h];exact h2 h
theorem Bd.inside {Z:Nat} {L:List Tk} {b:Bool} {d:Nat} {s:St} {p:Nat->St->Option (Out Int)} (h:∀d,Bd Z (p d s)):Bd Z (inside L b d s p):=
 Bd.ite (fun _=>Bd.ite (fun _=>Bd.flt) fun _=>h _) fun _=>Bd.flt
def End (L:List Tk) (Z:Nat):Prop:=∀i,(tk L i).kind≠6->i+1<=Z
theorem End.m {L:List Tk} {Z:Nat} (h:End L Z) {i:Nat} {ms:List (List UInt8)} (hm:isM L i ms=true):i+1<=Z:=by
 refine h i fun h6=> ?_;simp[isM,h6]at hm
theorem Bd.need {Z:Nat} {L:List Tk} (hZ:End L Z) {s:St} {m:List UInt8}:Bd Z (need L s m):=Bd.ite (fun hm=>Bd.ok (hZ.m hm)) fun _=>Bd.flt
structure BF (Z:Nat) (r:Sp):Prop where
 typ:∀d s,s.i<=Z->Bd Z (r.typ d s)
 union:∀d s,s.i<=Z->Bd Z (r.union d s)
 unionL:∀d s l,s.i<=Z->Bd Z (r.unionL d s l)
 member:∀d s,s.i<=Z->Bd Z (r.member d s)
 objL:∀d s l,s.i<=Z->Bd Z (r.objL d s l)
 fob:∀d s,s.i<=Z->Bd Z (r.fob d s)
 list:∀p e d s nm l,s.i<=Z->Bd Z (r.list p e d s nm l)
 expr:∀d s,s.i<=Z->Bd Z (r.expr d s)
 comp:∀d s,s.i<=Z->Bd Z (r.comp d s)
 sum:∀d s,s.i<=Z->Bd Z (r.sum d s)
 prod:∀d s,s.i<=Z->Bd Z (r.prod d s)
 row:∀b d s x,s.i<=Z->Bd Z (r.row b d s x)
 oper:∀d s,s.i<=Z->Bd Z (r.oper d s)
 tail:∀d s x,s.i<=Z->Bd Z (r.tail d s x)
 simple:∀d s,s.i<=Z->Bd Z (r.simple d s)
 block:∀d s,s.i<=Z->Bd Z (r.block d s)
 blockL:∀d s l,s.i<=Z->Bd Z (r.blockL d s l)
 stmt:∀d s,s.i<=Z->Bd Z (r.stmt d s)
 any:∀d s,s.i<=Z->Bd Z (r.any d s)
 progL:∀d s l,s.i<=Z->Bd Z (r.progL d s l)
section
variable {L:List Tk} {Z:Nat} {r:Sp}
theorem Bd.two {s:St} {x:Int} {p:St->Option (Out Int)} (hm:s.i+1<=Z) (h:∀s,s.i<=Z->Bd Z (p s)):Bd Z (two L s x p):=Bd.bind (h s.nx hm) fun _ _ h1=>Bd.addN h1
theorem Bd.typeIf (hZ:End L Z) (i:BF Z r) {d:Nat} {s:St} (h:s.i<=Z):Bd Z (typeIf L r d s):=Bd.ite (fun hm=>i.typ d s.nx (hZ.m hm)) fun _=>Bd.ok h
theorem Bd.newName (hZ:End L Z) {s:St} {nm:List (List UInt8)}:Bd Z (newName L s nm):=
 Bd.ite (fun hk=>Bd.ite (fun _=>Bd.flt) fun _=>Bd.ok (hZ s.i (by omega))) fun _=>Bd.flt
theorem Bd.part (hZ:End L Z) (i:BF Z r) {d:Nat} {s:St} {nm:List (List UInt8)} (h:s.i<=Z):∀p,Bd Z (part L r d s nm p)
 | .typ=>Bd.bind (i.typ d s h) fun _ _ h=>Bd.ok h
 | .expr=>Bd.bind (i.expr d s h) fun _ _ h=>Bd.ok h
 | .obj=>Bd.bind (Bd.newName hZ) fun _ _ _=>Bd.bind (Bd.need hZ) fun _ _ h2=>Bd.bind (i.expr d _ h2) fun _ _ h3=>Bd.bind (Bd.addN h3) fun _ _ h4=>Bd.ok h4
 | .par=>Bd.bind (Bd.newName hZ) fun _ _ h1=>Bd.bind (Bd.typeIf hZ i h1) fun _ _ h2=>Bd.bind (Bd.addN h2) fun _ _ h3=>Bd.ok h3
theorem Z0c (hZ:End L Z) (i:BF Z r):BF Z (step L r) where
 typ d s h:=Bd.inside fun d=>i.union d s h
 union d s h:=Bd.bind (i.member d s h) fun _ _ h1=>Bd.ite (fun _=>Bd.bind (i.unionL d _ _ h1) fun _ _ h2=>Bd.addT h2) fun _=>Bd.ok h1
 unionL d s l h:=Bd.ite (fun hm=>Bd.bind (i.member d s.nx (hZ.m hm)) fun _ _ h1=>i.unionL d _ _ h1) fun _=>Bd.ok h
 member d s h:=Bd.ite (fun hm=>i.objL d s.nx [] (hZ.m hm)) fun _=>Bd.ite (fun hm=>Bd.bind (i.typ d s.nx (hZ.m hm)) fun _ _ _=>Bd.bind (Bd.need hZ) fun _ _ h2=>Bd.addT h2) fun _=>
  Bd.ite (fun hm=>i.fob d s.nx (hZ.m hm)) fun _=>Bd.ite (fun hk=>Bd.addT (s:=s.nx) (hZ s.i (by omega))) fun _=>Bd.flt
 objL d s l h:=Bd.ite (fun hm=>Bd.addT (s:=s.nx) (hZ.m hm)) fun _=>Bd.bind (Bd.newName hZ) fun _ _ _=>Bd.bind (Bd.need hZ) fun _ _ h2=>Bd.bind (i.typ d _ h2) fun _ _ _=>Bd.bind (Bd.need hZ) fun _ _ h4=>i.objL d _ _ h4
 fob d s h:=Bd.bind (i.list _ _ d s _ _ h) fun s1 l h1=>Bd.ite (fun hm=>Bd.bind (i.typ d s1.nx (hZ.m hm)) fun _ _ h2=>Bd.addT h2) fun _=>by
  split
  · exact Bd.ok h1
  · exact Bd.flt
 list p e d s nm l h:=Bd.ite (fun hm=>Bd.ok (hZ.m hm)) fun _=>Bd.bind (Bd.ite (fun _=>Bd.ok h) fun _=>Bd.need hZ) fun _ _ h1=>Bd.bind (Bd.part hZ i h1 p) fun _ _ h2=>i.list p e d _ _ _ h2
 expr d s h:=Bd.inside fun d=>i.comp d s h
 comp d s h:=Bd.bind (i.sum d s h) fun _ _ h1=>Bd.ite (fun hm=>Bd.two (hZ.m hm) fun s h=>i.sum d s h) fun _=>Bd.ok h1
 sum d s h:=Bd.bind (i.prod d s h) fun _ _ h1=>i.row _ d _ _ h1
 prod d s h:=Bd.bind (i.oper d s h) fun _ _ h1=>i.row _ d _ _ h1
 row b d s x h:=Bd.ite (fun hm=>Bd.bind (Bd.two (hZ.m hm) (by cases b;exact fun s h=>i.oper d s h;exact fun s h=>i.prod d s h)) fun _ _ h1=>i.row b d _ _ h1) fun _=>Bd.ok h
 oper d s h:=Bd.ite (fun hm=>Bd.bind (Bd.inside fun d=>i.oper d s.nx (hZ.m hm)) fun _ _ h1=>Bd.addN h1) fun _=>Bd.bind (i.simple d s h) fun _ _ h1=>i.tail d _ _ h1
 tail d s x h:=Bd.ite (fun hm=>Bd.bind (i.list _ _ d s.nx _ _ (hZ.m hm)) fun _ _ h1=>Bd.bind (Bd.addN h1) fun _ _ h2=>i.tail d _ _ h2) fun _=>
  Bd.ite (fun _=>Bd.ite (fun hk=>Bd.bind (Bd.addN (s:=s.nx.nx) (hZ (s.i+1) (by omega))) fun _ _ h2=>i.tail d _ _ h2) fun _=>Bd.flt) fun _=>
  Bd.ite (fun hm=>Bd.bind (i.expr d s.nx (hZ.m hm)) fun _ _ _=>Bd.bind (Bd.need hZ) fun _ _ h2=>Bd.bind (Bd.addN h2) fun _ _ h3=>i.tail d _ _ h3) fun _=>
  Bd.ite (fun hm=>Bd.bind (i.typ d s.nx (hZ.m hm)) fun _ _ h1=>Bd.bind (Bd.addN h1) fun _ _ h2=>i.tail d _ _ h2) fun _=>Bd.ok h
 simple d s h:=Bd.ite (fun hk=>Bd.addN (s:=s.nx) (hZ s.i (by omega))) fun _=>Bd.ite (fun hk=>Bd.addN (s:=s.nx) (hZ s.i (by omega))) fun _=>Bd.ite (fun hk=>Bd.addN (s:=s.nx) (hZ s.i (by omega))) fun _=>
  Bd.ite (fun hm=>Bd.addN (s:=s.nx) (hZ.m hm)) fun _=>Bd.ite (fun hm=>Bd.addN (s:=s.nx) (hZ.m hm)) fun _=>Bd.ite (fun hm=>Bd.addN (s:=s.nx) (hZ.m hm)) fun _=>
  Bd.ite (fun _=>Bd.bind (Bd.need hZ) fun _ _ h1=>Bd.bind (i.list _ _ d _ _ _ h1) fun _ _ h2=>Bd.bind (Bd.typeIf hZ i h2) fun _ _ h3=>Bd.bind (i.block d _ h3) fun _ _ h4=>Bd.addN h4) fun _=>
  Bd.ite (fun hm=>Bd.bind (i.list _ _ d s.nx _ _ (hZ.m hm)) fun _ _ h1=>Bd.addN h1) fun _=>Bd.ite (fun hm=>Bd.bind (i.list _ _ d s.nx _ _ (hZ.m hm)) fun _ _ h1=>Bd.addN h1) fun _=>
  Bd.bind (Bd.need hZ) fun _ _ h1=>Bd.bind (i.expr d _ h1) fun _ _ _=>Bd.bind (Bd.need hZ) fun _ _ h3=>Bd.ok h3
 block d s h:=Bd.bind (Bd.need hZ) fun _ _ h1=>Bd.bind (i.blockL d _ _ h1) fun _ _ h2=>Bd.addN h2
 blockL d s l h:=Bd.ite (fun hm=>Bd.ok (hZ.m hm)) fun _=>Bd.bind (i.stmt d s h) fun _ _ h1=>i.blockL d _ _ h1
 stmt d s h:=Bd.inside fun d=>i.any d s h
 any d s h:=Bd.ite (fun _=>Bd.ite (fun hk=>Bd.bind (Bd.typeIf (s:=s.nx.nx) hZ i (hZ (s.i+1) (by omega))) fun _ _ _=>Bd.bind (Bd.need hZ) fun _ _ h2=>Bd.bind (i.expr d _ h2) fun _ _ _=>Bd.bind (Bd.need hZ) fun _ _ h4=>Bd.addN h4) fun _=>Bd.flt) fun _=>
  Bd.ite (fun hm=>Bd.bind (i.expr d s.nx (hZ.m hm)) fun _ _ _=>Bd.bind (Bd.need hZ) fun _ _ h2=>Bd.addN h2) fun _=>
  Bd.ite (fun hm=>Bd.bind (i.expr d s.nx (hZ.m hm)) fun _ _ _=>Bd.bind (Bd.need hZ) fun _ _ h2=>Bd.addN h2) fun _=>
  Bd.ite (fun _=>Bd.bind (Bd.need hZ) fun _ _ h1=>Bd.bind (i.expr d _ h1) fun _ _ _=>Bd.bind (Bd.need hZ) fun _ _ h3=>Bd.bind (i.block d _ h3) fun s4 _ h4=>Bd.bind (Bd.ite (fun hm=>i.block d s4.nx (hZ.m hm)) fun _=>Bd.ok h4) fun _ _ h5=>Bd.addN h5) fun _=>
  Bd.ite (fun _=>Bd.bind (Bd.need hZ) fun _ _ h1=>Bd.bind (i.expr d _ h1) fun _ _ _=>Bd.bind (Bd.need hZ) fun _ _ h3=>Bd.bind (i.block d _ h3) fun _ _ h4=>Bd.addN h4) fun _=>
  Bd.bind (i.expr d s h) fun s1 x h1=>Bd.ite (fun hm=>Bd.ite (fun _=>Bd.flt) fun _=>Bd.bind (i.expr d ⟨s1.i+1,s1.N.take x.toNat,s1.T⟩ (hZ.m hm)) fun _ _ _=>Bd.bind (Bd.need hZ) fun _ _ h3=>Bd.addN h3) fun _=>
   Bd.bind (Bd.need hZ) fun _ _ h2=>Bd.addN h2
 progL d s l h:=Bd.ite (fun _=>Bd.ok h) fun _=>Bd.bind (i.stmt d s h) fun _ _ h1=>i.progL d _ _ h1
end
theorem Q2c {L:List Tk} {Z:Nat} (hZ:End L Z):∀f,BF Z (sp' L f)
 |0=>by constructor<;>(intros;intro _ _ h;cases h)
 |f+1=>Z0c hZ (Q2c hZ f)
theorem C8d {L:List Tk} {Z:Nat} (hZ:End L Z) {s':St} {x:Int} (h:Ev L (E3a 0 ⟨0,[],[]⟩) (.ok s' x)):s'.i<=Z:=by
 obtain⟨f,hf⟩:=h;have h:=hf f (Nat.le_refl _);exact(Bd.bind ((Q2c hZ f).progL 0 ⟨0,[],[]⟩ [] (Nat.zero_le _)) fun _ _ h1=>Bd.addN h1) _ _ h
theorem E6c:∀(l:List UInt8) (a B:Int),0<=a->a<B->(∀c∈l,dig c.toNat=true)->0<=l.foldl (fun n c=>10 * n+(c.toNat:Int) - 48) a/\l.foldl (fun n c=>10 * n+(c.toNat:Int) - 48) a<B * 10 ^ l.length
 |[],a,B,h0,h1,_=>by simpa using ⟨h0,h1⟩
 |c::r,a,B,h0,h1,hd=>by
  have hc:=hd c (by simp);simp only[dig,Bool.and_eq_true,decide_eq_true_eq]at hc;have:=E6c r (10 * a+(c.toNat:Int) - 48) (B * 10) (by omega) (by omega) (fun x hx=>hd x (by simp[hx]));rw[List.foldl_cons,List.length_cons,Int.pow_succ,Int.mul_comm (10 ^ r.length) 10,<-Int.mul_assoc];exact this
theorem E7c (l:List UInt8):VaL (I6 l).1:=by
 intro i hk;obtain⟨_,h2,h3⟩:=J5b l i hk;have h:=E6c _ 0 1 (by omega) (by omega) h3;have hp:∀n:Nat,n<=9->(1:Int) * 10 ^ n<=1000000000:=by
  intro n hn;have:n=0\/n=1\/n=2\/n=3\/n=4\/n=5\/n=6\/n=7\/n=8\/n=9:=by omega
  rcases this with rfl|rfl|rfl|rfl|rfl|rfl|rfl|rfl|rfl|rfl<;>decide
 have:=hp _ h2;unfold E8a;omega
theorem N7c (l:List UInt8) (h:(first l).1=4):(first l).2.1.length<=30/\∀c∈(first l).2.1,txt c.toNat=true:=by
 unfold first at h⊢;cases hc:l.head? with
 |none=>rw[hc]at h;simp at h
 |some c=>
  rw[hc]at h;simp only at h⊢;cases hd:dig c.toNat with
  |true=>
   rw[hd]at h;simp only[if_true]at h;unfold A4a at h;split at h<;>simp at h
  |false=>
   rw[hd]at h;simp only[Bool.false_eq_true,if_false]at h⊢;cases hl:let' c.toNat with
   |true=>
    rw[hl]at h;simp only[if_true]at h;unfold name at h;split at h
    · simp at h
    · split at h<;>simp at h
   |false=>
    rw[hl]at h;simp only[Bool.false_eq_true,if_false]at h⊢;by_cases h34:c.toNat=34
    · rw[if_pos h34]at h⊢;unfold text at h⊢;split at h
      · simp at h
      · rename_i hn;rw[if_neg hn];rw[not_or]at hn;refine⟨?_,fun x hx=> ?_⟩
        · rw[List.length_take];omega
        · obtain⟨k,hk,rfl⟩:=List.getElem_of_mem hx;rw[List.getElem_take];rw[List.length_take]at hk;exact B9b txt l.tail k (by omega) (by omega)
    · rw[if_neg h34]at h;unfold W5a at h;split at h<;>simp at h
theorem H7b:∀(f:Nat) (l:List UInt8) (a:Nat) (acc:List Tk),(∀t∈acc,t.kind=4->t.text.length<=30/\∀c∈t.text,txt c.toNat=true)->∀t∈(O0 f l a acc).1,t.kind=4->t.text.length<=30/\∀c∈t.text,txt c.toNat=true
 |0,l,a,acc,_=>by simp[O0]
 |f+1,l,a,acc,h=>by
  simp only[O0];split
  · intro t ht hk;simp only[List.mem_append,List.mem_singleton]at ht;rcases ht with ht|rfl
    · exact h t ht hk
    · simp at hk
  split
  · simp
  split
  · simp
  refine H7b f l _ _ fun t ht hk=> ?_;simp only[List.mem_append,List.mem_singleton]at ht;rcases ht with ht|rfl
  · exact h t ht hk
  · exact N7c _ hk
theorem F4c (l:List UInt8):TxL (I6 l).1:=by
 intro i hk;by_cases hi:i<(I6 l).1.length
 · have e:tk (I6 l).1 i=(I6 l).1[i]:=by simp[tk,List.getD,hi]
   rw[e]at hk⊢;have hm:=List.getElem_mem hi;revert hk hm;generalize (I6 l).1[i]=t;intro hk hm;unfold I6 at hm;split at hm
   · simp at hm
   · exact H7b _ _ _ _ (by simp) t hm hk
 · rw[B6b hi]at hk;simp at hk
theorem Z0a:∀(f:Nat) (l:List UInt8) (a:Nat) (acc:List Tk),acc.length<=1000->(O0 f l a acc).1=[]\/∃b z,(O0 f l a acc).1=b++[⟨6,[],z⟩]/\b.length<=1000
 |0,l,a,acc,_=> .inl rfl
 |f+1,l,a,acc,h=>by
  simp only[O0];split
  · exact .inr ⟨acc,l.length,rfl,h⟩
  split
  · exact .inl rfl
  split
  · exact .inl rfl
  · refine Z0a f l _ _ ?_;rw[List.length_append];simp only[List.length_cons,List.length_nil];omega
theorem P0c (l:List UInt8):End (I6 l).1 1000:=by
 intro i hk;have hs:(I6 l).1=[]\/∃b z,(I6 l).1=b++[⟨6,[],z⟩]/\b.length<=1000:=by
  unfold I6;split
  · exact .inl rfl
  · exact Z0a _ _ _ _ (by simp)
 rcases hs with h|⟨b,z,h,hb⟩
 · rw[h]at hk;exact absurd rfl hk
 · rw[h]at hk;by_cases hi:i<b.length
   · omega
   · exfalso;refine hk ?_;by_cases he:i=b.length
     · subst he;simp[tk]
     · rw[B6b (by simp;omega)]
structure Prgm (N:List Nd) (T:List Ty) (ps:List Nt):Prop where
 wn:∀p∈ps,Wn p/\17<=p.k/\p.k<=25
 nodes:N.map Nd.fl=emN 0 0 (.nd 26 [] 0 ps)
 types:T=T2 0 ps
 toks:(flT (meL ps)).length<=1000
 deep:mx 1 (meL ps)<=20
 lenN:N.length<=1200
 lenT:T.length<=300
theorem P4b {l:List UInt8} {N:List Nd} {T:List Ty} (h:PRes l (.inr (N,T))):∃ps,Prgm N T ps:=by
 obtain⟨_,s',x,he,h1,h2,rfl,rfl⟩:=h;obtain⟨ps,a,b,c,d,e⟩:=A0c (J9c l) (E7c l) (F4c l) he;have hz:=C8d (P0c l) he;exact⟨ps,a,b,c,by omega,e,h1,h2⟩
section
variable {N:List Nd} {T:List Ty} {ps:List Nt}
theorem Prgm.n (h:Prgm N T ps):N.length=nNL ps+1:=by
 have:=congrArg List.length h.nodes;rw[List.length_map,W8,nN]at this;exact this
theorem Prgm.t (h:Prgm N T ps):T.length=nTL ps:=by rw[h.types,L1a]
theorem Prgm.wl (h:Prgm N T ps):WnL ps:=(B2a ps).2 fun p hp=>(h.wn p hp).1
theorem R7a:TsOk []:=fun i hi=>by simp at hi
theorem Prgm.ok (h:Prgm N T ps):TsOk T:=by
 have:=P7b ps h.wl [] R7a;rw[h.types];simpa using this
theorem Prgm.ls (h:Prgm N T ps) (i:Nat) (hi:i<T.length):T[i].list.length<=300/\T[i].fields.length<=300:=by
 have hm:T[i]∈T2 0 ps:=by
  have:=List.getElem_mem hi;rw[<-h.types];exact this
 have h1:=E4b ps 0 _ hm;have h2:=h.lenT;rw[h.t]at h2;omega
theorem Prgm.main (h:Prgm N T ps):∃hl:N.length - 1<N.length,AtL N T ps N[N.length - 1].list:=by
 have hn:=h.n;have ha:=A9d (.nd 26 [] 0 ps) (w26 h.wn) N T [] [] [] [] (by simpa using h.nodes) (by rw[h.types,emY];simp) R7a;rw[At]at ha;obtain⟨j,hj,hjl,_,_,_,is,hf,hat⟩:=ha;have ej:j=N.length - 1:=by
  rw[ixN,nN]at hj;simp only[List.length_nil]at hj;omega
 subst ej;have hf:N[N.length - 1].list=is:=hf;exact⟨hjl,by rw[hf];exact hat⟩
end
abbrev Fr:=List UInt8->Option Int
def Fr.no:Fr:=fun _=>none
def Fr.set (f:Fr) (x:List UInt8) (i:Int):Fr:=fun y=>if y=x then some i else f y
def look (x:List UInt8):List Fr->Option Int
 |[]=>none
 |f::r=>match look x r with
  |some i=>some i
  |none=>f x
def D4a (fs:List Fr):Fr:=fs.getLastD Fr.no
def H7 (fs:List Fr) (x:List UInt8) (i:Int):List Fr:=fs.dropLast++[(D4a fs).set x i]
theorem H5b (fs:List Fr) (x:List UInt8) (j:Int) (i:Nat) (h:i+1=fs.length):(H7 fs x j)[i]? =some ((D4a fs).set x j):=by
 have:fs.dropLast.length=i:=by rw[List.length_dropLast];omega
 unfold H7;rw[List.getElem?_append_right (by omega),this];simp
theorem O5b (fs:List Fr) (x:List UInt8) (j:Int) (i:Nat) (h:i+1<fs.length):(H7 fs x j)[i]? =fs[i]? :=by
 have:fs.dropLast.length=fs.length - 1:=List.length_dropLast;unfold H7;rw[List.getElem?_append_left (by omega),List.getElem?_dropLast,if_pos (by omega)]
inductive Br where
 |ok (fs:List Fr) (to:List (Nat×Int))
 |bad (e:Int) (i:Nat)
def Br.and (r:Br) (k:List Fr->Br):Br:=
 match r with
 | .bad e i=> .bad e i
 | .ok fs to=>match k fs with
  | .bad e i=> .bad e i
  | .ok fs' to'=> .ok fs' (to++to')
def Br.pop:Br->Br
 | .bad e i=> .bad e i
 | .ok fs to=> .ok fs.dropLast to
def Br.setF (r:Br) (x:List UInt8) (j:Int):Br:=
 match r with
 | .bad e i=> .bad e i
 | .ok fs to=> .ok (H7 fs x j) to
def M3c:List Nt->Bool
 |[_,.nd k _ _ _]=>k==6
 |_=>false
mutual
def bnT (fs:List Fr) (b:Nat):Nt->Br
 | .ty _=> .ok fs []
 | .nd k tx _ ps=>
  if k=5 then match look tx fs with
   |none=> .bad 5 b
   |some j=> .ok fs [(b,j)]
  else if k=18 then match look tx fs with
   |none=> .bad 5 (b+nNL ps)
   |some j=>(Br.ok fs [(b+nNL ps,j)]).and fun fs=>bnL false fs b ps
  else if k=17 then
   if (D4a fs tx).isSome then .bad 6 (b+nNL ps)
   else (bnL false (if M3c ps then H7 fs tx ((b+nNL ps:Nat):Int) else fs) b ps).setF tx ((b+nNL ps:Nat):Int)
  else if k=16 then .ok (H7 fs tx ((b+nNL ps:Nat):Int)) []
  else if k=6 then (bnL true (fs++[Fr.no]) b ps).pop
  else if k=26 then (bnL false (fs++[Fr.no]) b ps).pop
  else bnL false fs b ps
def bnL (fn:Bool) (fs:List Fr) (b:Nat):List Nt->Br
 |[]=> .ok fs []
 | .ty _::r=>bnL fn fs b r
 | .nd k tx n qs::r=>(if fn && k==26 then bnL false fs b qs else bnT fs b (.nd k tx n qs)).and fun fs=>bnL fn fs (b+nN (.nd k tx n qs)) r
end
def Em (N:List Nd) (b tb:Nat) (t:Nt):Prop:=∃A B,N.map Nd.fl=A++emN b tb t++B/\A.length=b
def EmL (N:List Nd) (b tb:Nat) (ps:List Nt):Prop:=∃A B,N.map Nd.fl=A++M9 b tb ps++B/\A.length=b
section
variable {N:List Nd} {b tb:Nat}
theorem EmL.head {p:Nt} {r:List Nt} (h:EmL N b tb (p::r)):Em N b tb p/\EmL N (b+nN p) (tb+nT p) r:=by
 obtain⟨A,B,h,hA⟩:=h;rw[M9]at h;refine⟨⟨A,M9 (b+nN p) (tb+nT p) r++B,by rw[h];simp,hA⟩,⟨A++emN b tb p,B,by rw[h];simp, ?_⟩⟩;rw[List.length_append,W8,hA]
theorem Em.parts {k:Int} {tx:List UInt8} {n:Int} {ps:List Nt} (h:Em N b tb (.nd k tx n ps)):EmL N b tb ps/\∃hi:b+nNL ps<N.length,(N[b+nNL ps]).fl=mkN k tx n (ixL b tb ps):=by
 obtain⟨A,B,h,hA⟩:=h;rw[emN]at h;have hlen:=congrArg List.length h;simp only[List.length_map,List.length_append,M7,List.length_cons,List.length_nil]at hlen;refine⟨⟨A,[mkN k tx n (ixL b tb ps)]++B,by rw[h];simp,hA⟩,by omega, ?_⟩;have hj:b+nNL ps<N.length:=by omega
 have h1:(N.map Nd.fl)[b+nNL ps]'(by simpa using hj)=(N[b+nNL ps]).fl:=by simp
 rw[<-h1];simp only[h];rw[List.getElem_append_left (by simp only[List.length_append,M7,List.length_cons,List.length_nil];omega),List.getElem_append_right (by omega)];rw[List.getElem_append_right (by rw[M7];omega)];simp[M7,hA]
theorem Em.ix {k:Int} {tx:List UInt8} {n:Int} {ps:List Nt}:ixN b tb (.nd k tx n ps)=((b+nNL ps:Nat):Int):=by
 rw[ixN,nN];omega
end
def px (b:Nat):List Nt->List Int
 |[]=>[]
 | .ty _::r=>px b r
 | .nd k tx n ps::r=>((b+nNL ps:Nat):Int)::px (b+nN (.nd k tx n ps)) r
theorem Y3 (b tb:Nat):∀ps:List Nt,(∀p∈ps,1<=p.k)->ixL b tb ps=px b ps
 |[],_=>rfl
 | .ty o::r,h=>by
  have:=h (.ty o) (by simp);cases o<;>simp[Nt.k]at this
 | .nd k tx n ps::r,h=>by
  rw[ixL,px,Em.ix,Y3 _ _ r fun p hp=>h p (by simp[hp])]
theorem Br.and_ok (fs:List Fr) (l:List (Nat×Int)) (k:List Fr->Br):(Br.ok fs l).and k=match k fs with
 | .bad e i=> .bad e i
 | .ok fs' l'=> .ok fs' (l++l'):=rfl
theorem Br.and_assoc (r:Br) (k h:List Fr->Br):(r.and k).and h=r.and fun f=>(k f).and h:=by
 cases r with
 |bad e i=>rfl
 |ok fs l=>
  rw[Br.and_ok,Br.and_ok];cases k fs with
  |bad e i=>rfl
  |ok fs' l'=>
   simp only;rw[Br.and_ok,Br.and_ok];cases h fs' with
   |bad e i=>rfl
   |ok fs2 l2=>simp
theorem Br.and_nil (r:Br):(r.and fun f=> .ok f [])=r:=by
 cases r with
 |bad e i=>rfl
 |ok fs l=>rw[Br.and_ok];simp
theorem G2a (fs:List Fr) (b:Nat) (p:Nt) (r:List Nt) (hp:1<=p.k):bnL false fs b (p::r)=(bnT fs b p).and fun f=>bnL false f (b+nN p) r:=by
 cases p with
 |ty o=>cases o<;>simp[Nt.k]at hp
 |nd k tx n qs=>rw[bnL];rfl
theorem F3b:∀(qs rs:List Nt) (fs:List Fr) (b:Nat),(∀p∈qs,1<=p.k)->bnL false fs b (qs++rs)=(bnL false fs b qs).and fun f=>bnL false f (b+nNL qs) rs
 |[],rs,fs,b,_=>by
  rw[List.nil_append,bnL,Br.and_ok,nNL,Nat.add_zero];cases bnL false fs b rs<;>rfl
 |p::qs,rs,fs,b,h=>by
  rw[List.cons_append,G2a fs b p _ (h p (by simp)),G2a fs b p _ (h p (by simp)),Br.and_assoc];congr 1
  funext f
  rw[F3b qs rs f _ fun q hq=>h q (by simp[hq]),nNL,Nat.add_assoc]
theorem Q0c {ps:List Nt} (h:∀p∈ps,1<=p.k) (fs:List Fr) (b j:Nat) (hj:j<ps.length):bnL false fs b (ps.take (j+1))=(bnL false fs b (ps.take j)).and fun f=>bnT f (b+nNL (ps.take j)) ps[j]:=by
 rw[List.take_succ_eq_append_getElem hj,F3b _ _ _ _ fun p hp=>h p (List.mem_of_mem_take hp)];congr 1
 funext f
 rw[G2a _ _ _ _ (h _ (List.getElem_mem hj))];have:(fun f'=>bnL false f' (b+nNL (ps.take j)+nN ps[j]) [])=fun f'=>Br.ok f' []:=by funext f';rw[bnL]
 rw[this,Br.and_nil]
theorem Y8c {ps:List Nt} (h:∀p∈ps,1<=p.k) (fs:List Fr) (b j:Nat) {e:Int} {i:Nat} (hb:bnL false fs b (ps.take j)= .bad e i):bnL false fs b ps= .bad e i:=by
 have:=F3b (ps.take j) (ps.drop j) fs b fun p hp=>h p (List.mem_of_mem_take hp);rw[List.take_append_drop,hb]at this;exact this
theorem EmL.at {N:List Nd}:∀{ps:List Nt} {b tb:Nat},EmL N b tb ps->∀j (hj:j<ps.length),Em N (b+nNL (ps.take j)) (tb+nTL (ps.take j)) ps[j]
 |[],_,_,_,j,hj=>by simp at hj
 |p::r,b,tb,h,0,hj=>by simpa[nNL,nTL]using h.head.1
 |p::r,b,tb,h,j+1,hj=>by
  have:=EmL.at h.head.2 j (by simpa using hj);simpa[nNL,nTL,Nat.add_assoc]using this
theorem C2a:∀(ps:List Nt) (b:Nat),(∀p∈ps,1<=p.k)->(px b ps).length=ps.length
 |[],_,_=>rfl
 | .ty o::r,_,h=>by
  have:=h (.ty o) (by simp);cases o<;>simp[Nt.k]at this
 | .nd k tx n qs::r,b,h=>by rw[px,List.length_cons,List.length_cons,C2a r _ fun p hp=>h p (by simp[hp])]
theorem A1d:∀(ps:List Nt) (b tb:Nat),(∀p∈ps,1<=p.k)->∀j (hj:j<ps.length),(px b ps)[j]? =some (ixN (b+nNL (ps.take j)) (tb+nTL (ps.take j)) ps[j])
 |[],_,_,_,j,hj=>by simp at hj
 | .ty o::r,_,_,h,_,_=>by
  have:=h (.ty o) (by simp);cases o<;>simp[Nt.k]at this
 | .nd k tx n qs::r,b,tb,h,0,hj=>by simp[px,nNL,nTL,Em.ix]
 | .nd k tx n qs::r,b,tb,h,j+1,hj=>by
  have:=A1d r (b+nN (.nd k tx n qs)) (tb+nT (.nd k tx n qs)) (fun p hp=>h p (by simp[hp])) j (by simpa using hj);rw[px,List.getElem?_cons_succ,this];simp[nNL,nTL,Nat.add_assoc]
theorem R2 (fs:List Fr) (x:List UInt8) (j:Int) (h:fs≠[]):(H7 fs x j).length=fs.length:=by
 have:=List.length_pos_iff.2 h;unfold H7;rw[List.length_append,List.length_dropLast];simp only[List.length_cons,List.length_nil];omega
theorem M6 {fs fs':List Fr} (h:fs≠[]) (e:fs'.length=fs.length):fs'≠[]:=by
 rintro rfl;exact h (List.length_eq_zero_iff.1 e.symm)
def Sl (fs:List Fr) (r:Br):Prop:=∀fs' l,r= .ok fs' l->fs'.length=fs.length
theorem Sl.and {fs:List Fr} {r:Br} {k:List Fr->Br} (h:Sl fs r) (hk:∀f,f.length=fs.length->Sl f (k f)):Sl fs (r.and k):=by
 intro fs' l e;cases r with
 |bad e i=>simp[Br.and]at e
 |ok f1 l1=>
  rw[Br.and_ok]at e;cases hh:k f1 with
  |bad e2 i2=>rw[hh]at e;simp at e
  |ok f2 l2=>
   rw[hh]at e;simp only[Br.ok.injEq]at e;rw[<-e.1,hk f1 (h f1 l1 rfl) f2 l2 hh,h f1 l1 rfl]
theorem Sl.pop {fs:List Fr} {f:Fr} {r:Br} (h:Sl (fs++[f]) r):Sl fs r.pop:=by
 intro fs' l e;cases r with
 |bad e i=>simp[Br.pop]at e
 |ok f1 l1=>
  simp only[Br.pop,Br.ok.injEq]at e;have:=h f1 l1 rfl;rw[<-e.1,List.length_dropLast,this];simp
theorem Sl.setF {fs:List Fr} {r:Br} (hne:fs≠[]) (h:Sl fs r) (x:List UInt8) (j:Int):Sl fs (r.setF x j):=by
 intro fs' l e;cases r with
 |bad e i=>simp[Br.setF]at e
 |ok f1 l1=>
  simp only[Br.setF,Br.ok.injEq]at e;have:=h f1 l1 rfl;rw[<-e.1,R2 _ _ _ (M6 hne this),this]
theorem Sl.ok {fs fs':List Fr} {l:List (Nat×Int)} (h:fs'.length=fs.length):Sl fs (.ok fs' l):=by
 intro f1 l1 e;simp only[Br.ok.injEq]at e;rw[<-e.1];exact h
theorem Sl.bad {fs:List Fr} {e:Int} {i:Nat}:Sl fs (.bad e i):=by
 intro f1 l1 e;cases e
theorem Sl.of {fs f:List Fr} {r:Br} (h:Sl f r) (e:f.length=fs.length):Sl fs r:=fun a b c=>(h a b c).trans e
mutual
theorem X9b:∀(t:Nt) (fs:List Fr) (b:Nat),fs≠[]->Sl fs (bnT fs b t)
 | .ty _,fs,b,_=>by rw[bnT];exact Sl.ok rfl
 | .nd k tx n ps,fs,b,h=>by
  rw[bnT];split
  · split
    · exact Sl.bad
    · exact Sl.ok rfl
  split
  · split
    · exact Sl.bad
    · exact Sl.and (Sl.ok rfl) fun f hf=>S5 ps false f b (M6 h hf)
  split
  · split
    · exact Sl.bad
    · refine Sl.setF h ?_ _ _;split
      · exact(S5 ps false _ b (M6 h (R2 _ _ _ h))).of (R2 _ _ _ h)
      · exact S5 ps false fs b h
  split
  · exact Sl.ok (R2 _ _ _ h)
  split
  · exact(S5 ps true _ b (by simp)).pop
  split
  · exact(S5 ps false _ b (by simp)).pop
  · exact S5 ps false fs b h
theorem S5:∀(ps:List Nt) (fn:Bool) (fs:List Fr) (b:Nat),fs≠[]->Sl fs (bnL fn fs b ps)
 |[],fn,fs,b,_=>by rw[bnL];exact Sl.ok rfl
 | .ty _::r,fn,fs,b,h=>by rw[bnL];exact S5 r fn fs b h
 | .nd k tx n qs::r,fn,fs,b,h=>by
  rw[bnL];refine Sl.and ?_ fun f hf=>S5 r fn f _ (M6 h hf);split
  · exact S5 qs false fs b h
  · exact X9b (.nd k tx n qs) fs b h
end
theorem H2a:∀ps qs:List Nt,nNL (ps++qs)=nNL ps+nNL qs
 |[],qs=>by simp[nNL]
 |p::r,qs=>by rw[List.cons_append,nNL,nNL,H2a r];omega
theorem K2b:∀ps:List Nt,(∀p∈ps,1<=p.k)->ps.length<=nNL ps
 |[],_=>Nat.le_refl _
 | .ty o::r,h=>by
  have:=h (.ty o) (by simp);cases o<;>simp[Nt.k]at this
 | .nd k tx n qs::r,h=>by
  have:=K2b r fun p hp=>h p (by simp[hp]);rw[nNL,nN,List.length_cons];omega
def upd (ts:List Int) (l:List (Nat×Int)):List Int:=l.foldl (fun t p=>t.set p.1 p.2) ts
theorem U5b (ts:List Int) (a b:List (Nat×Int)):upd ts (a++b)=upd (upd ts a) b:=by simp[upd]
theorem J9a (ts:List Int) (l:List (Nat×Int)):(upd ts l).length=ts.length:=by
 induction l generalizing ts with
 |nil=>rfl
 |cons p r ih=>show (upd (ts.set p.1 p.2) r).length=_;rw[ih];simp
theorem N3c {k:Int} {is is':List Int} {n:Nd} (h:R3 k is n) (h':R3 k is' n):is=is':=by
 have l2:∀{l:List Int},2<=l.length->l=l.dropLast.dropLast++[l.dropLast.getLastD 0,l.getLastD 0]:=by
  intro l hl;rcases List.eq_nil_or_concat l with rfl|⟨xs,b,rfl⟩
  · simp at hl
  · rcases List.eq_nil_or_concat xs with rfl|⟨ys,a,rfl⟩
    · simp at hl
    · have e:ys.concat a++[b]=ys++[a,b]:=by simp
      simp only[List.concat_eq_append]at *;rw[e]at *;rw[dl3,dl4,dl5]
 unfold R3 at h h';by_cases c1:k=6
 · rw[if_pos c1]at h h';rw[l2 h.2.2.2,l2 h'.2.2.2,<-h.1,<-h.2.1,<-h.2.2.1,<-h'.1,<-h'.2.1,<-h'.2.2.1]
 rw[if_neg c1]at h h';by_cases c2:k=7
 · rw[if_pos c2]at h h';obtain⟨a1,a2,a3⟩:=h;obtain⟨b1,b2,b3⟩:=h';cases is with
   |nil=>simp at a3
   |cons x xs=>
    cases is' with
    |nil=>simp at b3
    |cons y ys=>
     simp only[List.headD_cons,List.tail_cons]at a1 a2 b1 b2;rw[<-a1,<-a2,<-b1,<-b2]
 rw[if_neg c2]at h h';by_cases c3:k=10\/k=11\/k=26
 · rw[if_pos c3]at h h';exact h.symm.trans h'
 rw[if_neg c3]at h h';by_cases c4:k=14
 · rw[if_pos c4]at h h';exact h.trans h'.symm
 rw[if_neg c4]at h h';by_cases c5:k=16
 · rw[if_pos c5]at h h';exact h.trans h'.symm
 rw[if_neg c5]at h h';by_cases c6:k=17
 · rw[if_pos c6]at h h';exact h.trans h'.symm
 rw[if_neg c6]at h h';by_cases c7:k=9\/k=12\/k=19\/k=23
 · rw[if_pos c7]at h h';exact h.trans h'.symm
 rw[if_neg c7]at h h';by_cases c8:k=20\/k=22
 · rw[if_pos c8]at h h';exact h.trans h'.symm
 rw[if_neg c8]at h h';by_cases c9:k=8\/k=13\/k=15\/k=18\/k=21\/k=24\/k=25
 · rw[if_pos c9]at h h';exact h.trans h'.symm
 rw[if_neg c9]at h h';exact h.trans h'.symm
def Cls:List Int->List Int->Prop
 |x::r,y::s=>(x=0->y<=0)/\(y=0->x<=0)/\Cls r s
 |_,_=>True
theorem C0a:∀(a b:List Int),(∀x∈a,1<=x)->(∀x∈b,1<=x)->Cls a b
 |[],_,_,_=>by simp[Cls]
 |_::_,[],_,_=>by simp[Cls]
 |x::r,y::s,h1,h2=>by
  have:=h1 x (by simp);have:=h2 y (by simp);exact⟨fun h=>by omega,fun h=>by omega,C0a r s (fun z hz=>h1 z (by simp[hz])) (fun z hz=>h2 z (by simp[hz]))⟩
theorem X5b:∀(a b c d:List Int),a.length=b.length->Cls a b->Cls c d->Cls (a++c) (b++d)
 |[],[],_,_,_,_,h=>h
 |[],_::_,_,_,h,_,_=>by simp at h
 |_::_,[],_,_,h,_,_=>by simp at h
 |x::r,y::s,c,d,hl,h1,h2=>⟨h1.1,h1.2.1,X5b r s c d (by simpa using hl) h1.2.2 h2⟩
theorem T0c {k:Int} {a b:List Int} (h:shp k a) (h':shp k b) (hl:a.length=b.length):Cls a b:=by
 have one:∀{x y:Int},isE x->isE y->Cls [x] [y]:=fun h1 h2=>C0a _ _ (fun z hz=>by simp at hz;subst hz;exact h1.1) (fun z hz=>by simp at hz;subst hz;exact h2.1);have ty:∀{x y:Int},isT x->isT y->(x=0->y<=0)/\(y=0->x<=0):=fun h1 h2=>⟨fun _=>by rcases h2 with h|h<;>omega,fun _=>by rcases h1 with h|h<;>omega⟩;have e1:∀{x y:Int},isE x->isE y->(x=0->y<=0)/\(y=0->x<=0):=fun h1 h2=>⟨fun h=>by have:=h1.1;omega,fun h=>by have:=h2.1;omega⟩;unfold shp at h h';by_cases c1:k=1\/k=2\/k=3\/k=4\/k=5
 · rw[if_pos c1]at h;rw[h];simp[Cls]
 rw[if_neg c1]at h h';by_cases c2:k=6
 · rw[if_pos c2]at h h';obtain⟨xs,r,rfl,h2,h3⟩:=h;obtain⟨ys,r',rfl,h2',h3'⟩:=h';refine X5b _ _ _ _ (by simpa using hl) (C0a _ _ (fun z hz=>by rw[h2 z hz];omega) (fun z hz=>by rw[h2' z hz];omega)) ?_;exact⟨(ty h3 h3').1,(ty h3 h3').2,fun h=>by omega,fun h=>by omega,trivial⟩
 rw[if_neg c2]at h h';by_cases c3:k=7
 · rw[if_pos c3]at h h';obtain⟨x,xs,rfl,h2,h3⟩:=h;obtain⟨y,ys,rfl,h2',h3'⟩:=h';exact C0a _ _ (fun z hz=>by rcases List.mem_cons.1 hz with rfl|hz;exact h2.1;exact(h3 z hz).1) (fun z hz=>by rcases List.mem_cons.1 hz with rfl|hz;exact h2'.1;exact(h3' z hz).1)
 rw[if_neg c3]at h h';by_cases c4:k=8\/k=13\/k=15\/k=18\/k=21\/k=24\/k=25
 · rw[if_pos c4]at h h';obtain⟨x,rfl,h2⟩:=h;obtain⟨y,rfl,h2'⟩:=h';exact one h2 h2'
 rw[if_neg c4]at h h';by_cases c5:k=9\/k=12\/k=19
 · rw[if_pos c5]at h h';obtain⟨x,y,rfl,h2,h3⟩:=h;obtain⟨x',y',rfl,h2',h3'⟩:=h';exact⟨(e1 h2 h2').1,(e1 h2 h2').2,one h3 h3'⟩
 rw[if_neg c5]at h h';by_cases c6:k=10
 · rw[if_pos c6]at h h';exact C0a _ _ (fun z hz=>by rw[h z hz];omega) (fun z hz=>by rw[h' z hz];omega)
 rw[if_neg c6]at h h';by_cases c7:k=11
 · rw[if_pos c7]at h h';exact C0a _ _ (fun z hz=>(h z hz).1) (fun z hz=>(h' z hz).1)
 rw[if_neg c7]at h h';by_cases c8:k=14
 · rw[if_pos c8]at h h';obtain⟨x,rfl,h2⟩:=h;obtain⟨y,rfl,h2'⟩:=h';exact⟨(e1 h2 h2').1,(e1 h2 h2').2,fun _=>by omega,fun _=>by omega,trivial⟩
 rw[if_neg c8]at h h';by_cases c9:k=16
 · rw[if_pos c9]at h h';obtain⟨x,rfl,h2⟩:=h;obtain⟨y,rfl,h2'⟩:=h';exact⟨(ty h2 h2').1,(ty h2 h2').2,trivial⟩
 rw[if_neg c9]at h h';by_cases c10:k=17
 · rw[if_pos c10]at h h';obtain⟨x,y,rfl,h2,h3⟩:=h;obtain⟨x',y',rfl,h2',h3'⟩:=h';exact⟨(ty h2 h2').1,(ty h2 h2').2,one h3 h3'⟩
 rw[if_neg c10]at h h';by_cases c11:k=20
 · rw[if_pos c11]at h h';obtain⟨x,y,z,rfl,h2,h3,h4⟩:=h;obtain⟨x',y',z',rfl,h2',h3',h4'⟩:=h';exact⟨(e1 h2 h2').1,(e1 h2 h2').2,(e1 h3 h3').1,(e1 h3 h3').2,one h4 h4'⟩
 rw[if_neg c11]at h h';by_cases c12:k=22
 · rw[if_pos c12]at h h';obtain⟨x,z,rfl,h2,h3⟩:=h;obtain⟨x',z',rfl,h2',h3'⟩:=h';exact⟨(e1 h2 h2').1,(e1 h2 h2').2,fun _=>by omega,fun _=>by omega,fun _=>by omega,fun _=>by omega,trivial⟩
 rw[if_neg c12]at h h';by_cases c13:k=23
 · rw[if_pos c13]at h h';obtain⟨x,rfl,h2⟩:=h;obtain⟨y,rfl,h2'⟩:=h';exact⟨(e1 h2 h2').1,(e1 h2 h2').2,fun _=>by omega,fun _=>by omega,trivial⟩
 rw[if_neg c13]at h h';by_cases c14:k=26
 · rw[if_pos c14]at h h';exact C0a _ _ (fun z hz=>by have:=h z hz;omega) (fun z hz=>by have:=h' z hz;omega)
 rw[if_neg c14]at h;exact h.elim
section
variable {N:List Nd} {T:List Ty}
mutual
theorem G8d:∀(t t':Nt) (i:Int),Gd t->Gd t'->(t.k=0->t'.k<=0)->(t'.k=0->t.k<=0)->At N T t i->At N T t' i->t=t'
 | .ty none,t',i,_,hg,_,_,h,h'=>by
  rw[At]at h;subst h;cases t' with
  |ty o=>
   cases o with
   |none=>rfl
   |some t=>rw[At]at h';obtain⟨j,hj,_⟩:=h';omega
  |nd k tx n ps=>rw[At]at h';obtain⟨j,hj,_⟩:=h';omega
 | .ty (some t),t',i,_,hg,hc,_,h,h'=>by
  have hc:t'.k<=0:=hc rfl;rw[At]at h;obtain⟨j,rfl,_,e⟩:=h;cases t' with
  |ty o=>
   cases o with
   |none=>rw[At]at h';omega
   |some t'=>
    rw[At]at h';obtain⟨j',hj,_,e'⟩:=h';have:j'=j:=by omega
    subst this;rw[<-e,<-e']
  |nd k tx n ps=>
   rw[Gd]at hg;exfalso;have h1:=hg.1;have hk:k<=0:=hc;unfold shp at h1;rw[if_neg (by omega),if_neg (by omega),if_neg (by omega),if_neg (by omega),if_neg (by omega),if_neg (by omega),if_neg (by omega),if_neg (by omega),if_neg (by omega),if_neg (by omega),if_neg (by omega),if_neg (by omega),if_neg (by omega),if_neg (by omega)]at h1;exact h1
 | .nd k tx n ps,t',i,hg0,hg,hc0,hc,h,h'=>by
  rw[Gd]at hg0;rw[At]at h;obtain⟨j,rfl,hj,e1,e2,e3,is,hf,hl⟩:=h;cases t' with
  |ty o=>
   cases o with
   |none=>rw[At]at h';omega
   |some t'=>
    have hk:k<=0:=hc rfl;exfalso;have h1:=hg0.1;unfold shp at h1;rw[if_neg (by omega),if_neg (by omega),if_neg (by omega),if_neg (by omega),if_neg (by omega),if_neg (by omega),if_neg (by omega),if_neg (by omega),if_neg (by omega),if_neg (by omega),if_neg (by omega),if_neg (by omega),if_neg (by omega),if_neg (by omega)]at h1;exact h1
  |nd k' tx' n' ps'=>
   rw[Gd]at hg;rw[At]at h';obtain⟨j',hj',hjl',e1',e2',e3',is',hf',hl'⟩:=h';have:j'=j:=by omega
   subst this;obtain rfl:k=k':=by rw[<-e1,<-e1']
   obtain rfl:tx=tx':=by rw[<-e2,<-e2']
   obtain rfl:n=n':=by rw[<-e3,<-e3']
   obtain rfl:=N3c hf hf';have hlen:(ps.map Nt.k).length=(ps'.map Nt.k).length:=by rw[List.length_map,List.length_map,<-F5b hl,<-F5b hl']
   rw[F4b ps ps' is hg0.2 hg.2 (T0c hg0.1 hg.1 hlen) hl hl']
theorem F4b:∀(ps ps':List Nt) (is:List Int),GdL ps->GdL ps'->Cls (ps.map Nt.k) (ps'.map Nt.k)->AtL N T ps is->AtL N T ps' is->ps=ps'
 |[],ps',is,_,_,_,h,h'=>by
  rw[AtL]at h;subst h;cases ps' with
  |nil=>rfl
  |cons p r=>rw[AtL]at h';obtain⟨i,js,e,_⟩:=h';cases e
 |p::r,ps',is,hg,hg',hc,h,h'=>by
  rw[AtL]at h;obtain⟨i,js,rfl,ha,hr⟩:=h;cases ps' with
  |nil=>rw[AtL]at h';cases h'
  |cons p' r'=>
   rw[AtL]at h';obtain⟨i',js',e,ha',hr'⟩:=h';simp only[List.cons.injEq]at e;obtain⟨rfl,rfl⟩:=e;have hc:(p.k=0->p'.k<=0)/\(p'.k=0->p.k<=0)/\Cls (r.map Nt.k) (r'.map Nt.k):=hc;rw[G8d p p' i hg.1 hg'.1 hc.1 hc.2.1 ha ha',F4b r r' js hg.2 hg'.2 hc.2.2 hr hr']
end
theorem S7c {ps ps':List Nt} {is:List Int} (h1:∀p∈ps,Gd p/\17<=p.k/\p.k<=25) (h2:∀p∈ps',Gd p/\17<=p.k/\p.k<=25) (ha:AtL N T ps is) (hb:AtL N T ps' is):ps=ps':=by
 have gd:∀qs:List Nt,(∀p∈qs,Gd p)->GdL qs:=by
  intro qs;induction qs with
  |nil=>intro _;trivial
  |cons q r ih=>intro h;exact⟨h q (by simp),ih fun p hp=>h p (by simp[hp])⟩
 refine F4b ps ps' is (gd ps fun p hp=>(h1 p hp).1) (gd ps' fun p hp=>(h2 p hp).1) (C0a _ _ (fun x hx=> ?_) (fun x hx=> ?_)) ha hb
 · obtain⟨p,hp,rfl⟩:=List.mem_map.1 hx;have:=h1 p hp;omega
 · obtain⟨p,hp,rfl⟩:=List.mem_map.1 hx;have:=h2 p hp;omega
end
def xN:List UInt8:=[120]
theorem Z8c:N8 xN:=⟨by decide,by decide,by decide,by decide,fun c hc=>by simp[xN]at hc;subst hc;decide⟩
theorem T4a:∀ps:List Nt,ps.length<=nNL ps+cTy ps
 |[]=>Nat.le_refl _
 | .ty o::r=>by have:=T4a r;rw[nNL,cTy,nN,List.length_cons];omega
 | .nd k tx n qs::r=>by have:=T4a r;rw[nNL,cTy,nN,List.length_cons];omega
theorem L2c (k:Int) (tx:List UInt8) (n:Int) (l:List Int):(mkN k tx n l).list.length<=l.length:=by
 unfold mkN;repeat' split
 all_goals (first|exact Nat.zero_le _|exact Nat.le_refl _|(simp only[List.length_dropLast];omega)|(simp only[List.length_tail];omega))
mutual
theorem E2b:∀(t:Nt),Gd t->∀b tb,∀m∈emN b tb t,m.list.length<=nN t
 | .ty _,_,b,tb,m,hm=>by simp[emN]at hm
 | .nd k tx n ps,h,b,tb,m,hm=>by
  rw[Gd]at h;rw[emN,List.mem_append,List.mem_singleton]at hm;rw[nN];rcases hm with hm|rfl
  · have:=L3b ps h.2 b tb m hm;omega
  · have h1:=L2c k tx n (ixL b tb ps);have h2:=D4b ps b tb;have h3:=T4a ps;have h4:=S9c h.1;omega
theorem L3b:∀(ps:List Nt),GdL ps->∀b tb,∀m∈M9 b tb ps,m.list.length<=nNL ps
 |[],_,b,tb,m,hm=>by simp[M9]at hm
 |p::r,h,b,tb,m,hm=>by
  rw[M9,List.mem_append]at hm;rw[nNL];rcases hm with hm|hm
  · have:=E2b p h.1 b tb m hm;omega
  · have:=L3b r h.2 _ _ m hm;omega
end
mutual
theorem A8d:∀(t:Nt),Wn t->∀b tb,∀m∈emN b tb t,m.text.length<=30
 | .ty _,_,b,tb,m,hm=>by simp[emN]at hm
 | .nd k tx n ps,h,b,tb,m,hm=>by
  rw[Wn]at h;rw[emN,List.mem_append,List.mem_singleton]at hm;rcases hm with hm|rfl
  · exact P5c ps h.2.2 b tb m hm
  · rw[(F5a _ _ _ _).1];exact(D9d h.2.1).1
theorem P5c:∀(ps:List Nt),WnL ps->∀b tb,∀m∈M9 b tb ps,m.text.length<=30
 |[],_,b,tb,m,hm=>by simp[M9]at hm
 |p::r,h,b,tb,m,hm=>by
  rw[M9,List.mem_append]at hm;rw[WnL]at h;rcases hm with hm|hm
  · exact A8d p h.1 b tb m hm
  · exact P5c r h.2 _ _ m hm
end
theorem Prgm.tx {N:List Nd} {T:List Ty} {ps:List Nt} (h:Prgm N T ps):∀nd∈N,nd.text.length<=30:=fun nd hm=>by
 have h1:nd.fl∈emN 0 0 (.nd 26 [] 0 ps):=by
  rw[<-h.nodes];exact List.mem_map_of_mem hm
 have h2:nd.fl.text.length<=30:=A8d _ (w26 h.wn) 0 0 _ h1;exact h2
mutual
theorem P2c:∀(t:Tr) (b:Nat),∀y∈emT b t,y.kind=8\/y.kind=9\/y.of'=0
 | .nd k ns ks,b,y,hy=>by
  rw[emT]at hy;split at hy
  · exact G1d ks b y hy
  · rw[List.mem_append,List.mem_singleton]at hy;rcases hy with hy|rfl
    · exact S6b ks b y hy
    · unfold C7a;repeat' split
      all_goals first|exact .inr (.inr rfl)|exact .inl rfl
theorem S6b:∀(ks:List Tr) (b:Nat),∀y∈M4 b ks,y.kind=8\/y.kind=9\/y.of'=0
 |[],b,y,hy=>by simp[M4]at hy
 |t::r,b,y,hy=>by
  rw[M4,List.mem_append]at hy;rcases hy with hy|hy
  · exact P2c t b y hy
  · exact S6b r _ y hy
theorem G1d:∀(ks:List Tr) (b:Nat),∀y∈emB b ks,y.kind=8\/y.kind=9\/y.of'=0
 |[],b,y,hy=>by
  rw[emB,List.mem_singleton]at hy;subst hy;exact .inr (.inl rfl)
 |t::r,b,y,hy=>by
  rw[emB,List.mem_append,List.mem_append,List.mem_singleton]at hy;rcases hy with (hy|hy)|rfl
  · exact S6b r _ y hy
  · exact P2c t _ y hy
  · exact .inr (.inl rfl)
end
mutual
theorem F9d:∀(t:Nt) (b:Nat),∀y∈emY b t,y.kind=8\/y.kind=9\/y.of'=0
 | .ty none,b,y,hy=>by simp[emY]at hy
 | .ty (some t),b,y,hy=>by rw[emY]at hy;exact P2c t b y hy
 | .nd k tx n ps,b,y,hy=>by rw[emY]at hy;exact E3b ps b y hy
theorem E3b:∀(ps:List Nt) (b:Nat),∀y∈T2 b ps,y.kind=8\/y.kind=9\/y.of'=0
 |[],b,y,hy=>by simp[T2]at hy
 |p::r,b,y,hy=>by
  rw[T2,List.mem_append]at hy;rcases hy with hy|hy
  · exact F9d p b y hy
  · exact E3b r _ y hy
end
theorem Prgm.of {N:List Nd} {T:List Ty} {ps:List Nt} (h:Prgm N T ps):∀t∈T,t.kind=8\/t.kind=9\/t.of'=0:=fun t ht=>by
 rw[h.types]at ht;exact E3b ps 0 t ht
end Go.Proofs.YtgdnpemiiageaaaGreatDoor.M
