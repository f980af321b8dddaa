/-
  A part of the proof.
-/
import Derived.Test.YtneelacbkianjaaGreatDoorPlainD
import Derived.KernelRfl
set_option maxHeartbeats 16000000
set_option maxRecDepth 100000
namespace Go.Proofs.YtneelacbkianjaaGreatDoor
def Pe(N:List Nd)(i:Nat)(x:Int):Prop:=∃j:Nat,x=j/\j<i/\∃h:j<N.length,isE N[j].kind
def Pk(N:List Nd)(i:Nat)(k:Int)(x:Int):Prop:=∃j:Nat,x=j/\j<i/\∃h:j<N.length,N[j].kind=k
def Py(T:List Ty)(x:Int):Prop:=∃j:Nat,x=j/\j<T.length/\sz (tr T j)<=T.length
def Pz(T:List Ty)(x:Int):Prop:=x= -1\/Py T x
def ndx(N:List Nd)(x:Int):Nd:=N.getD x.toNat nd0
structure FlN(N:List Nd)(T:List Ty)(i:Nat)(n:Nd):Prop where
 k:1<=n.kind/\n.kind<=26
 ty:n.kind≠6->n.kind≠14->n.kind≠16->n.kind≠17->n.ty= -1
 k6:n.kind=6->(∀x∈n.list,Pk N i 16 x)/\Pz T n.ty/\Pk N i 26 n.a
 k7:n.kind=7->Pe N i n.a/\∀x∈n.list,Pe N i x
 k1:n.kind=8\/n.kind=13\/n.kind=15\/n.kind=18\/n.kind=21\/n.kind=24\/n.kind=25->Pe N i n.a
 k2:n.kind=9\/n.kind=12\/n.kind=19->Pe N i n.a/\Pe N i n.b
 k10:n.kind=10->(∀x∈n.list,Pk N i 15 x)/\(n.list.map λx=>(ndx N x).text).Nodup/\∀x∈n.list,S4 (ndx N x).text
 k11:n.kind=11->∀x∈n.list,Pe N i x
 k12:n.kind=12->n.text∈[[61,61],[60],[43],[45],[42]]
 k13:n.kind=13->n.text∈[[33],[45],[116,121,112,101,111,102]]
 k14:n.kind=14->Pe N i n.a/\Py T n.ty
 k16:n.kind=16->Pz T n.ty
 k17:n.kind=17->Pz T n.ty/\Pe N i n.a
 k20:n.kind=20->Pe N i n.a/\Pe N i n.b/\Pe N i n.c
 k22:n.kind=22->Pe N i n.a/\Pk N i 26 n.b/\(n.c= -1\/Pk N i 26 n.c)
 k23:n.kind=23->Pe N i n.a/\Pk N i 26 n.b
 k26:n.kind=26->∀x∈n.list,∃j:Nat,x=j/\j<i
 ls:n.kind≠6->n.kind≠7->n.kind≠10->n.kind≠11->n.kind≠26->n.list=[]
section
variable{N:List Nd}{T:List Ty}
theorem Em.kd{b a:Nat}{p:Nt}(h:Em N b a p)(d:1<=p.k):∃j:Nat,ixN b a p=j/\b<=j/\j<b+nN p/\∃h:j<N.length,N[j].kind=p.k/\N[j].text=p.tx:=by
 cases p with
 |ty o=>cases o<;>simp[Nt.k]at d
 |nd k g n f=>
  obtain⟨_,c,e⟩:=h.parts;refine⟨b+nNL f,Em.ix,by omega,by rw[nN];omega,c,(congrArg Nd.kind e).trans (B7a _ _ _ _),(congrArg Nd.text e).trans (G6a _ _ _ _).1⟩
theorem EmL.kds:∀{c:List Nt} {b g:Nat},EmL N b g c->(∀p∈c,1<=p.k)->∀x∈ixL b g c,∃p∈c,∃j:Nat,x=j/\j<b+nNL c/\∃h:j<N.length,N[j].kind=p.k/\N[j].text=p.tx
 |[],_,_,_,_,x,a=>by simp[ixL]at a
 |p::r,b,g,h,i,x,a=>by
  rw[ixL,jW]at a;obtain⟨k,l⟩:=h.head;rcases a with rfl|a
  · obtain⟨j,e,_,n,m,d⟩:=k.kd (i p (by simp));exact⟨p,by simp,j,e,by rw[nNL];omega,m,d⟩
  · obtain⟨q,f,j,e,n,d⟩:=EmL.kds l (λq f=>i q (by simp[f])) x a;exact⟨q,by simp[f],j,e,by rw[nNL];omega,d⟩
theorem EmL.txs:∀{a:List Nt} {b c:Nat},EmL N b c a->(∀p∈a,1<=p.k)->(ixL b c a).map (λx=>(ndx N x).text)=a.map Nt.tx
 |[],_,_,_,_=>rfl
 |p::r,b,c,h,d=>by
  obtain⟨f,g⟩:=h.head;obtain⟨j,e,_,n,k,m,i⟩:=f.kd (d p (by simp));rw[ixL,uY,uY,EmL.txs g λq l=>d q (by simp[l]),e];congr 1
  unfold ndx;rw[tQ,lQ,gQ k];exact i
theorem EmL.split:∀{d c:List Nt} {b a:Nat},EmL N b a (d++c)->EmL N b a d/\EmL N (b+nNL d) (a+nTL d) c
 |[],c,b,a,h=>by
  refine⟨?_,by simpa[nNL,nTL]using h⟩;obtain⟨A,B,e,f⟩:=h;exact⟨A,R9 b a c++B,by simpa[R9]using e,f⟩
 |p::r,c,b,a,h=>by
  rw[vZ]at h;obtain⟨j,g⟩:=h.head;obtain⟨k,i⟩:=EmL.split g;refine⟨?_,by rw[nNL,nTL,<-Nat.add_assoc,<-Nat.add_assoc];exact i⟩;obtain⟨A,B,e,f⟩:=h;refine⟨A,R9 (b+nNL (p::r)) (a+nTL (p::r)) c++B, ?_,f⟩;rw[e,<-List.cons_append,C8b];simp
def EmY(T:List Ty)(b:Nat)(t:Nt):Prop:=∃a c,T=a++emY b t++c/\a.length=b/\TsOk a
def EmYL(T:List Ty)(b:Nat)(d:List Nt):Prop:=∃a c,T=a++W9 b d++c/\a.length=b/\TsOk a
theorem EmYL.head{b:Nat}{p:Nt}{r:List Nt}(h:EmYL T b (p::r))(e:Wn p):EmY T b p/\EmYL T (b+nT p) r:=by
 obtain⟨a,c,h,rfl,d⟩:=h;rw[W9]at h;exact⟨⟨a,W9 (a.length+nT p) r++c,by rw[h];simp,rfl,d⟩,⟨a++emY a.length p,c,by rw[h];simp,by rw[qQ,I4a],Y5c p e a d⟩⟩
theorem EmYL.drop:∀{c a:List Nt} {b:Nat},EmYL T b (c++a)->(∀p∈c,Wn p)->EmYL T (b+nTL c) a
 |[],a,b,h,_=>by simpa[nTL]using h
 |p::r,a,b,h,d=>by
  rw[nTL,<-Nat.add_assoc];exact EmYL.drop (h.head (d p (by simp))).2 λq e=>d q (by simp[e])
mutual
theorem V4c:∀t:Tr,sz t=nTy t
 | .nd _ _ a=>by rw[sz,nTy,H2c a]
theorem H2c:∀l:List Tr,szL l=M3 l
 |[]=>rfl
 |t::r=>by rw[szL,M3,V4c t,H2c r]
end
def Sub(N:List Nd)(T:List Ty)(i:Nat):Prop:=∃b c k d n a,Em N b c (.nd k d n a)/\Wn (.nd k d n a)/\i=b+nNL a/\EmYL T c a
mutual
theorem J0d:∀(t:Nt) (b a:Nat),Wn t->Em N b a t->EmY T a t->∀i,b<=i->i<b+nN t->Sub N T i
 | .ty _,b,a,_,_,_,i,f,e=>by rw[nN]at e;omega
 | .nd k o n c,b,a,d,g,h,i,f,e=>by
  have m:EmYL T a c:=h;by_cases j:i=b+nNL c
  · exact⟨b,a,k,o,n,c,g,d,j,m⟩
  · have l:=d;rw[Wn]at l;exact K6c c b a l.2.2 g.parts.1 m i f (by rw[nN]at e;omega)
theorem K6c:∀(c:List Nt) (b a:Nat),WnL c->EmL N b a c->EmYL T a c->∀i,b<=i->i<b+nNL c->Sub N T i
 |[],b,a,_,_,_,i,f,e=>by rw[nNL]at e;omega
 |p::r,b,a,d,g,h,i,f,e=>by
  rw[WnL]at d;by_cases j:i<b+nN p
  · exact J0d p b a d.1 g.head.1 (h.head d.1).1 i f j
  · exact K6c r (b+nN p) (a+nT p) d.2 g.head.2 (h.head d.1).2 i (by omega) (by rw[nNL]at e;omega)
end
theorem G7c{b tb:Nat}{a:Nt}(f:Wn a)(l:isT a.k)(h:EmY T tb a):Pz T (ixN b tb a):=by
 obtain⟨o,rfl⟩:=K6a f l;cases o with
 |none=>exact .inl rfl
 |some t=>
  have:=M2a t;obtain⟨c,g,h,rfl,i⟩:=h;have m:Wf t:=f;obtain⟨j,k⟩:=K5c t m c i;have d:(c++emT c.length t).length=c.length+nTy t:=by rw[qQ,D3a]
  rw[emY]at h;have n:T.length=c.length+nTy t+g.length:=by rw[h,qQ,d]
  refine .inr ⟨c.length+nTy t - 1,by rw[ixN];omega,by omega, ?_⟩;have e:tr T (c.length+nTy t - 1)=t:=by rw[h,H3a _ j (by rw[d];omega),k]
  rw[e,V4c];omega
theorem FlN.of{i:Nat}{n:Nd}(h:FlN N T i n.fl):FlN N T i n:=⟨h.k,h.ty,h.k6,h.k7,h.k1,h.k2,h.k10,h.k11,h.k12,h.k13,h.k14,h.k16,h.k17,h.k20,h.k22,h.k23,h.k26,h.ls⟩
theorem Em.pe{b c i:Nat}{p:Nt}(h:Em N b c p)(a:isE p.k)(g:b+nN p<=i):Pe N i (ixN b c p):=by
 obtain⟨j,e,_,k,f,d,_⟩:=h.kd a.1;exact⟨j,e,by omega,f,by rw[d];exact a⟩
theorem Em.pk{b a i:Nat}{p:Nt}{k:Int}(h:Em N b a p)(f:p.k=k)(g:1<=k)(l:b+nN p<=i):Pk N i k (ixN b a p):=by
 obtain⟨j,e,_,m,d,c,_⟩:=h.kd (by omega);exact⟨j,e,by omega,d,by rw[c];exact f⟩
theorem G8d{i:Nat}(hi:i<N.length)(h:Sub N T i):FlN N T i N[i]:=by
 obtain⟨b,r,a3,z,n,f,W,G,rfl,F⟩:=h;obtain⟨l,_,M⟩:=W.parts;refine FlN.of ?_;rw[M];have L:=W5 G;clear M G;cases L with
 |n1 n h=>constructor<;>simp[mkN]
 |n2 z h=>constructor<;>simp[mkN]
 |n3 n h=>constructor<;>simp[mkN]
 |n4=>constructor<;>simp[mkN]
 |n5 z h=>constructor<;>simp[mkN]
 |n6 f a c k g m w K y=>
  have R:EmL N b r f/\EmL N (b+nNL f) (r+nTL f) [a,c]:=EmL.split l;have s:∀x∈ixL b r f,Pk N (b+nNL (f++[a,c])) 16 x:=λx s=>by
   obtain⟨p,q,j,e,B,h,C,_⟩:=R.1.kds (λp q=>by rw[(k p q).2];decide) x s;exact⟨j,e,by rw[M3a];omega,h,by rw[C];exact(k p q).2⟩
  have S:Pz T (ixN (b+nNL f) (r+nTL f) a):=G7c m w ((F.drop λp q=>(k p q).1).head m).1;have V:=R.2.head.2.head.1.pk (i:=b+nNL (f++[a,c])) y (by decide) (by rw[M3a];simp only[nNL];omega);have H:ixL b r (f++[a,c])=ixL b r f++[ixN (b+nNL f) (r+nTL f) a,ixN (b+nNL f+nN a) (r+nTL f+nT a) c]:=by rw[Y1a];rfl
  have v:(ixL b r (f++[a,c])).dropLast.dropLast=ixL b r f:=by rw[H];simp
  have u:(ixL b r (f++[a,c])).dropLast.getLastD 0=ixN (b+nNL f) (r+nTL f) a:=by rw[H];simp[List.getLastD_eq_getLast?]
  have D:(ixL b r (f++[a,c])).getLastD 0=ixN (b+nNL f+nN a) (r+nTL f+nT a) c:=by rw[H];simp[List.getLastD_eq_getLast?]
  generalize ixL b r (f++[a,c])=a2 at *;constructor<;>simp[mkN]
  rw[List.getLastD_eq_getLast?]at u D;rw[v,u,D];exact⟨s,S,V⟩
 |n7 a f k g m=>
  have E:∀p∈a::f,isE p.k:=λp q=>by
   rcases jW.1 q with rfl|q
   · exact g
   · exact(m p q).2
  have s:∀x∈ixL b r (a::f),Pe N (b+nNL (a::f)) x:=λx s=>by
   obtain⟨p,q,j,e,B,h,C,_⟩:=l.kds (λp q=>(E p q).1) x s;exact⟨j,e,B,h,by rw[C];exact E p q⟩
  constructor<;>simp[mkN,ixL]
  exact⟨s _ (by simp[ixL]),λx X=>s x (by simp[ixL,X])⟩
 |n8 z a A k g=>
  have m:=l.head.1.pe (i:=b+nNL [a]) g (by rw[nNL];omega);constructor<;>simp[mkN,ixL]
  exact m
 |n9 a c k g m w=>
  have v:=l.head.1.pe (i:=b+nNL [a,c]) g (by rw[nNL];omega);have u:=l.head.2.head.1.pe (i:=b+nNL [a,c]) w (by rw[nNL,nNL];omega);constructor<;>simp[mkN,ixL]
  exact⟨v,u⟩
 |n10 f k g=>
  have P:∀p∈f,1<=p.k:=λp q=>by rw[(k p q).2];decide
  have s:∀x∈ixL b r f,Pk N (b+nNL f) 15 x/\S4 (ndx N x).text:=λx s=>by
   obtain⟨p,q,j,e,B,h,C,Z⟩:=l.kds P x s;refine⟨⟨j,e,B,h,by rw[C];exact(k p q).2⟩, ?_⟩;have:(ndx N x).text=p.tx:=by
    unfold ndx;rw[e,tQ,lQ,gQ h];exact Z
   rw[this];obtain⟨G,E⟩:=k p q;have L:=W5 G;cases L<;>simp[Nt.k]at E
   simpa[Nt.tx]
  have Y:=l.txs P;constructor<;>simp[mkN]
  exact⟨λx h=>(s x h).1,by rw[Y];exact g,λx h=>(s x h).2⟩
 |n11 f k=>
  have s:∀x∈ixL b r f,Pe N (b+nNL f) x:=λx s=>by
   obtain⟨p,q,j,e,B,h,C,_⟩:=l.kds (λp q=>(k p q).2.1) x s;exact⟨j,e,B,h,by rw[C];exact(k p q).2⟩
  constructor<;>simp[mkN]
  exact s
 |n12 z a c A k g m w=>
  have v:=l.head.1.pe (i:=b+nNL [a,c]) g (by rw[nNL];omega);have u:=l.head.2.head.1.pe (i:=b+nNL [a,c]) w (by rw[nNL,nNL];omega);constructor<;>simp[mkN,ixL]
  · exact⟨v,u⟩
  · simpa using A
 |n13 z a A k g=>
  have m:=l.head.1.pe (i:=b+nNL [a]) g (by rw[nNL];omega);constructor<;>simp[mkN,ixL]
  · exact m
  · simpa using A
 |n14 a t k g m=>
  have v:=l.head.1.pe (i:=b+nNL [a,.ty (some t)]) g (by rw[nNL];omega);have u:Py T (ixN (b+nN a) (r+nT a) (.ty (some t))):=by
   rcases G7c (b:=b+nN a) (a:= .ty (some t)) (T:=T) (tb:=r+nT a) m (.inr rfl) ((F.head k).2.head m).1 with h|h
   · have:=M2a t;rw[ixN]at h;omega
   · exact h
  constructor<;>simp[mkN,ixL]
  exact⟨v,u⟩
 |n15 z a A k g=>
  have m:=l.head.1.pe (i:=b+nNL [a]) g (by rw[nNL];omega);constructor<;>simp[mkN,ixL]
  exact m
 |n16 z a A k g=>
  have u:Pz T (ixN b r a):=G7c k g (F.head k).1;constructor<;>simp[mkN,ixL]
  exact u
 |n17 z a c A k g m w=>
  have v:Pz T (ixN b r a):=G7c k g (F.head k).1;have u:=l.head.2.head.1.pe (i:=b+nNL [a,c]) w (by rw[nNL,nNL];omega);constructor<;>simp[mkN,ixL]
  exact⟨v,u⟩
 |n18 z a A k g=>
  have m:=l.head.1.pe (i:=b+nNL [a]) g (by rw[nNL];omega);constructor<;>simp[mkN,ixL]
  exact m
 |n19 z a c A k g m w=>
  have v:=l.head.1.pe (i:=b+nNL [a,c]) g (by rw[nNL];omega);have u:=l.head.2.head.1.pe (i:=b+nNL [a,c]) w (by rw[nNL,nNL];omega);constructor<;>simp[mkN,ixL]
  exact⟨v,u⟩
 |n20 a c d k g m w K y=>
  have v:=l.head.1.pe (i:=b+nNL [a,c,d]) g (by rw[nNL];omega);have u:=l.head.2.head.1.pe (i:=b+nNL [a,c,d]) w (by rw[nNL,nNL];omega);have D:=l.head.2.head.2.head.1.pe (i:=b+nNL [a,c,d]) y (by rw[nNL,nNL,nNL];omega);constructor<;>simp[mkN,ixL]
  exact⟨v,u,D⟩
 |n21 a k g=>
  have m:=l.head.1.pe (i:=b+nNL [a]) g (by rw[nNL];omega);constructor<;>simp[mkN,ixL]
  exact m
 |n22 a c d k g m w K y=>
  have v:=l.head.1.pe (i:=b+nNL [a,c,d]) g (by rw[nNL];omega);have u:=l.head.2.head.1.pk (i:=b+nNL [a,c,d]) w (by decide) (by rw[nNL,nNL];omega);have D:ixN (b+nN a+nN c) (r+nT a+nT c) d= -1\/Pk N (b+nNL [a,c,d]) 26 (ixN (b+nN a+nN c) (r+nT a+nT c) d):=by
   rcases y with y|y
   · exact .inr (l.head.2.head.2.head.1.pk y (by decide) (by rw[nNL,nNL,nNL];omega))
   · obtain⟨o,rfl⟩:=K6a K (.inl y);cases o with
     |none=>exact .inl rfl
     |some t=>simp[Nt.k]at y
  constructor<;>simp[mkN,ixL]
  exact⟨v,u,D⟩
 |n23 a c k g m w=>
  have v:=l.head.1.pe (i:=b+nNL [a,c]) g (by rw[nNL];omega);have u:=l.head.2.head.1.pk (i:=b+nNL [a,c]) w (by decide) (by rw[nNL,nNL];omega);constructor<;>simp[mkN,ixL]
  exact⟨v,u⟩
 |n24 a k g=>
  have m:=l.head.1.pe (i:=b+nNL [a]) g (by rw[nNL];omega);constructor<;>simp[mkN,ixL]
  exact m
 |n25 a k g=>
  have m:=l.head.1.pe (i:=b+nNL [a]) g (by rw[nNL];omega);constructor<;>simp[mkN,ixL]
  exact m
 |n26 f k=>
  have s:∀x∈ixL b r f,∃j:Nat,x=j/\j<b+nNL f:=λx s=>by
   obtain⟨p,q,j,e,B,h,C,_⟩:=l.kds (λp q=>by have:=(k p q).2.1;omega) x s;exact⟨j,e,B⟩
  constructor<;>simp[mkN]
  exact s
theorem Prgm.flat{a:List Nt}(h:Prgm N T a)(i:Nat)(c:i<N.length):FlN N T i N[i]:=by
 have b:Em N 0 0 (.nd 26 [] 0 a):=⟨[],[],by simp[h.nodes],rfl⟩;have e:N.length=nN (.nd 26 [] 0 a):=by
  have:=congrArg List.length h.nodes;rw[iZ,Z8]at this;exact this
 have d:EmY T 0 (.nd 26 [] 0 a):=⟨[],[],by rw[emY,h.types];simp,rfl,P5a⟩;exact G8d c (J0d _ 0 0 (w26 h.wn) b d i (wQ _) (by omega))
end
def Tg(N:List Nd)(b:Nat)(j:Int):Prop:=∃n:Nat,j=n/\∃h:n<N.length,(N[n].kind=16\/N[n].kind=17)/\(n<b\/N[n].kind=17/\Pk N n 6 N[n].a)
theorem Tg.mono{N:List Nd}{a b:Nat}{j:Int}(h:Tg N a j)(f:a<=b):Tg N b j:=by
 obtain⟨n,e,d,c,h⟩:=h;exact⟨n,e,d,c,h.imp (λx=>by omega) id⟩
def FrOk(N:List Nd)(b:Nat)(a:List Fr):Prop:=∀f∈a,∀x j,f x=some j->Tg N b j
theorem FrOk.mono{N:List Nd}{a b:Nat}{c:List Fr}(h:FrOk N a c)(d:a<=b):FrOk N b c:=λf g x j e=>(h f g x j e).mono d
theorem FrOk.look{N:List Nd}{b:Nat}:∀{fs:List Fr},FrOk N b fs->∀{x j},lookQ x fs=some j->Tg N b j
 |[],_,x,j,e=>by simp[lookQ]at e
 |f::r,h,x,j,e=>by
  rw[lookQ]at e;cases a:lookQ x r with
  |none=>rw[a]at e;exact h f (by simp) x j e
  |some i=>
   rw[a]at e;simp only[zQ]at e;subst e;exact FrOk.look (fs:=r) (λf c=>h f (by simp[c])) a
theorem FrOk.set{N:List Nd}{b:Nat}{c:List Fr}(h:FrOk N b c){x:bZ}{j:Int}(i:Tg N b j):FrOk N b (I8 c x j):=by
 intro f a y k e;unfold I8 at a;rcases qW.1 a with a|a
 · exact h f ((List.dropLast_sublist _).subset a) y k e
 · simp only[zW]at a;subst a;unfold Fr.set at e;split at e
   · simp only[zQ]at e;rw[<-e];exact i
   · unfold H4a at e;rw[List.getLastD_eq_getLast?]at e;cases d:c.getLast? with
     |none=>rw[d]at e;simp[Fr.no]at e
     |some g=>
      rw[d]at e;exact h g (List.mem_of_getLast? d) y k e
theorem FrOk.drop{N:List Nd}{b:Nat}{a:List Fr}(h:FrOk N b a):FrOk N b a.dropLast:=λf c=>h f ((List.dropLast_sublist _).subset c)
theorem FrOk.push{N:List Nd}{b:Nat}{c:List Fr}(h:FrOk N b c):FrOk N b (c++[Fr.no]):=by
 intro f a x j e;rcases qW.1 a with a|a
 · exact h f a x j e
 · simp only[zW]at a;subst a;simp[Fr.no]at e
def isV(k:Int):Prop:=k=5\/k=18
structure Fnd(N:List Nd)(a b:Nat)(fs:List Fr)(l:List (Nat×Int)):Prop where
 fr:FrOk N b fs
 tg:∀p∈l,(∃h:p.1<N.length,isV N[p.1].kind)/\Tg N p.1 p.2
 cov:∀i (h:i<N.length),a<=i->i<b->isV N[i].kind->∃j,(i,j)∈l
def FndB(N:List Nd)(a b:Nat)(r:Br):Prop:=∀c l,r= .ok c l->Fnd N a b c l
theorem FndB.and{N:List Nd}{a b c:Nat}{r:Br}{k:List Fr->Br}(h:FndB N a b r)(w:∀f,FrOk N b f->FndB N b c (k f)):FndB N a c (r.and k):=by
 intro A l e;cases r with
 |bad e i=>simp[Br.and]at e
 |ok f1 x=>
  rw[Br.and_ok]at e;have g:=h f1 x rfl;cases n:k f1 with
  |bad z B=>rw[n]at e;simp at e
  |ok f2 y=>
   rw[n]at e;simp only[Br.ok.injEq]at e;obtain⟨rfl,rfl⟩:=e;have m:=w f1 g.fr f2 y n;refine⟨m.fr,λp d=> ?_,λi q t u s=> ?_⟩
   · rcases qW.1 d with d|d
     · exact g.tg p d
     · exact m.tg p d
   · by_cases v:i<b
     · obtain⟨j,o⟩:=g.cov i q t v s;exact⟨j,by simp[o]⟩
     · obtain⟨j,o⟩:=m.cov i q (by omega) u s;exact⟨j,by simp[o]⟩
theorem FndB.grow{N:List Nd}{a b:Nat}{r:Br}(h:FndB N a b r)(m:∀h:b<N.length,¬isV N[b].kind):FndB N a (b+1) r:=by
 intro g l e;have c:=h g l e;refine⟨c.fr.mono (by omega),c.tg,λi d j n f=> ?_⟩;by_cases k:i=b
 · subst k;exact absurd f (m d)
 · exact c.cov i d j (by omega) f
theorem FndB.pop{N:List Nd}{a b:Nat}{r:Br}(h:FndB N a b r):FndB N a b r.pop:=by
 intro f l e;cases r with
 |bad e i=>simp[Br.pop]at e
 |ok f1 d=>
  simp only[Br.pop,Br.ok.injEq]at e;obtain⟨rfl,rfl⟩:=e;have c:=h f1 d rfl;exact⟨c.fr.drop,c.tg,c.cov⟩
theorem FndB.setF{N:List Nd}{a b:Nat}{r:Br}(h:FndB N a b r){x:bZ}{j:Int}(d:Tg N b j):FndB N a b (r.setF x j):=by
 intro g l e;cases r with
 |bad e i=>simp[Br.setF]at e
 |ok f1 f=>
  simp only[Br.setF,Br.ok.injEq]at e;obtain⟨rfl,rfl⟩:=e;have c:=h f1 f rfl;exact⟨c.fr.set d,c.tg,c.cov⟩
theorem FndB.none{N:List Nd}{a:Nat}{b:List Fr}(h:FrOk N a b):FndB N a a (.ok b []):=by
 intro f l e;simp only[Br.ok.injEq]at e;obtain⟨rfl,rfl⟩:=e;exact⟨h,λp c=>by simp at c,λi j d g=>by omega⟩
theorem FndB.bad{N:List Nd}{a b:Nat}{e:Int}{i:Nat}:FndB N a b (.bad e i):=by
 intro f l e;cases e
section
variable{N:List Nd}
theorem K4c{b d:Nat}{k:Int}{f:bZ}{n:Int}{a:List Nt}(h:Em N b d (.nd k f n a)):∃c:b+nNL a<N.length,N[b+nNL a].kind=k:=by
 obtain⟨_,c,e⟩:=h.parts;exact⟨c,(congrArg Nd.kind e).trans (B7a _ _ _ _)⟩
mutual
theorem L8c:∀(t:Nt) (g:List Fr) (b l:Nat),Wn t->Em N b l t->FrOk N b g->FndB N b (b+nN t) (bnT g b t)
 | .ty _,g,b,l,_,_,d=>by rw[bnT,nN];exact FndB.none d
 | .nd k F n c,g,b,l,u,q,d=>by
  obtain⟨x,s⟩:=K4c q;have X:=u;rw[Wn]at X;obtain⟨a9,-,z⟩:=X;have v:=q.parts.1;rw[bnT,nN,<-Nat.add_assoc];split
  · rename_i K;subst K;have P:c=[]:=by simpa[shp]using a9
    subst P;simp only[nNL,Nat.add_zero]at *;split
    · exact FndB.bad
    · rename_i j M;intro f aa e;simp only[Br.ok.injEq]at e;obtain⟨rfl,rfl⟩:=e;refine⟨d.mono (by omega),λp w=> ?_,λi W V hb m=>⟨j, ?_⟩⟩
      · simp only[zW]at w;subst w;exact⟨⟨x,.inl s⟩,d.look M⟩
      · have:i=b:=by omega
        subst this;simp
  rename_i K;split
  · rename_i H;split
    · exact FndB.bad
    · rename_i j M;have hl:=D6a c false g b l z v d;intro f aa e;rw[Br.and_ok]at e;cases L:bnL false g b c with
      |bad e2 i2=>rw[L]at e;simp at e
      |ok f2 l2=>
       rw[L]at e;simp only[Br.ok.injEq]at e;obtain⟨rfl,rfl⟩:=e;have C:=hl f2 l2 L;refine⟨C.fr.mono (by omega),λp w=> ?_,λi W V hb m=> ?_⟩
       · rcases qW.1 w with w|w
         · simp only[zW]at w;subst w;exact⟨⟨x,.inr (s.trans H)⟩,(d.look M).mono (by simp)⟩
         · exact C.tg p w
       · by_cases a5:i=b+nNL c
         · subst a5;exact⟨j,by simp⟩
         · obtain⟨j',a6⟩:=C.cov i W V (by omega) m;exact⟨j',by simp[a6]⟩
  rename_i H;have E:∀h:b+nNL c<N.length,¬isV N[b+nNL c].kind:=λh m=>by
   rw[s]at m;rcases m with m|m
   · exact K m
   · exact H m
  split
  · rename_i B;split
    · exact FndB.bad
    · have R:Tg N (b+nNL c+1) ((b+nNL c:Nat):Int):=⟨b+nNL c,rfl,x,.inr (s.trans B),.inl (by omega)⟩;refine FndB.setF (FndB.grow ?_ E) R;by_cases D:F4d c=true
      · rw[rY D];refine D6a c false _ b l z v (d.set ⟨b+nNL c,rfl,x,.inr (s.trans B),.inr ⟨s.trans B, ?_⟩⟩);match c,D,v,x,s,q with
        |[a,.nd S a2 Z A],D,v,x,s,q=>
         have a7:S=6:=by simpa[F4d]using D
         have ea:N[b+nNL [a,.nd S a2 Z A]].a=ixN (b+nN a) (l+nT a) (.nd S a2 Z A):=by
          obtain⟨_,_,e⟩:=q.parts;have:=congrArg Nd.a e;subst B;exact this
         rw[ea];exact v.head.2.head.1.pk (by simp[Nt.k,a7]) (by decide) (by simp only[nNL];omega)
      · rw[yY D];exact D6a c false g b l z v d
  rename_i B;split
  · rename_i G;have P:∃o,c=[.ty o]:=by
     have hs:=W5 u;subst G;cases hs with
     |n16 F a h0 h1 C=>
      obtain⟨o,rfl⟩:=K6a h1 C;exact⟨o,rfl⟩
    obtain⟨o,rfl⟩:=P;have a8:nNL [Nt.ty o]=0:=by simp[nNL,nN]
    rw[a8]at *;have R:Tg N (b+0+1) ((b+0:Nat):Int):=⟨b+0,rfl,x,.inl (s.trans G),.inl (by omega)⟩;exact FndB.setF (r:= .ok g []) (FndB.grow (b:=b+0) (FndB.none (by simpa using d)) E) R
  rename_i G;split
  · exact FndB.grow (D6a c true _ b l z v d.push).pop E
  split
  · exact FndB.grow (D6a c false _ b l z v d.push).pop E
  · exact FndB.grow (D6a c false g b l z v d) E
theorem D6a:∀(c:List Nt) (y:Bool) (g:List Fr) (b l:Nat),WnL c->EmL N b l c->FrOk N b g->FndB N b (b+nNL c) (bnL y g b c)
 |[],y,g,b,l,_,_,d=>by rw[bnL,nNL];exact FndB.none d
 | .ty o::r,y,g,b,l,u,q,d=>by
  rw[WnL]at u;rw[bnL,nNL,nN,Nat.zero_add];exact D6a r y g b (l+nT (.ty o)) u.2 q.head.2 d
 | .nd k F n A::r,y,g,b,l,u,q,d=>by
  rw[WnL]at u;rw[bnL,nNL,<-Nat.add_assoc];refine FndB.and (b:=b+nN (.nd k F n A)) ?_ λf a4=>D6a r y f _ _ u.2 q.head.2 a4;split
  · rename_i T;have a3:k=26:=by simp at T;exact T.2
    have Y:=u.1;rw[Wn]at Y;obtain⟨x,s⟩:=K4c q.head.1;rw[nN,<-Nat.add_assoc];refine FndB.grow (D6a A false g b l Y.2.2 q.head.1.parts.1 d) λh m=> ?_;rw[s,a3]at m;rcases m with m|m<;>exact absurd m (by decide)
  · exact L8c (.nd k F n A) g b l u.1 q.head.1 d
end
theorem Z2d(l:List (Nat×Int)):∀(b:uZ) (i:Nat) (v:Int),(upd b l)[i]? =some v->b[i]? =some v/\(∀j,(i,j) ∉ l)\/(i,v)∈l:=by
 induction l with
 |nil=>intro b i v h;exact .inl ⟨h,λ_ c=>by simp at c⟩
 |cons p r g=>
  intro b i v h;rcases g (b.set p.1 p.2) i v h with ⟨a,f⟩|a
  · by_cases d:p.1=i
    · right;rw[d,List.getElem?_set_self']at a;cases e:b[i]? with
      |none=>rw[e]at a;simp at a
      |some u=>
       rw[e]at a;simp at a;rw[<-a,<-d];simp
    · left;rw[List.getElem?_set_ne d]at a;refine⟨a,λj c=> ?_⟩;rcases jW.1 c with rfl|c
      · exact d rfl
      · exact f j c
  · exact .inr (by simp[a])
structure Y3d(N:List Nd)(ts:uZ):Prop where
 len:ts.length=N.length
 tg:∀i (h:i<N.length),isV N[i].kind->Tg N i (ts.getD i 0)
 no:∀i (h:i<N.length),¬isV N[i].kind->ts.getD i 0= -1
 rg:∀i,i<N.length->-1<=ts.getD i 0/\ts.getD i 0<N.length
theorem Z7c{T:List Ty}{g:List Nt}(h:Prgm N T g){m:List Fr}{l:List (Nat×Int)}(q:bnT [] 0 (.nd 26 [] 0 g)= .ok m l):Y3d N (upd (List.replicate N.length (-1)) l):=by
 have r:Em N 0 0 (.nd 26 [] 0 g):=⟨[],[],by simp[h.nodes],rfl⟩;have u:N.length=nN (.nd 26 [] 0 g):=by
  have:=congrArg List.length h.nodes;rw[iZ,Z8]at this;exact this
 have d:=L8c (.nd 26 [] 0 g) [] 0 0 (w26 h.wn) r (λf d=>by simp at d) m l q;have t:(upd (List.replicate N.length (-1)) l).length=N.length:=by rw[P4a];simp
 have key:∀i (b:i<N.length),∃v,(upd (List.replicate N.length (-1)) l).getD i 0=v/\((v= -1/\∀j,(i,j) ∉ l)\/(i,v)∈l):=λi b=>by
  have a:(upd (List.replicate N.length (-1)) l)[i]? =some ((upd (List.replicate N.length (-1)) l).getD i 0):=by
   rw[lQ,gQ (by omega)];rfl
  refine⟨_,rfl, ?_⟩;rcases Z2d l _ i _ a with ⟨c,p⟩|c
  · left;rw[List.getElem?_replicate,rY b]at c;simp only[zQ]at c;exact⟨c.symm,p⟩
  · exact .inr c
 refine⟨t,λi b k=> ?_,λi b k=> ?_,λi b=> ?_⟩
 · obtain⟨v,e,a⟩:=key i b;rw[e];rcases a with ⟨_,a⟩|a
   · obtain⟨j,s⟩:=d.cov i b (wQ _) (by omega) k;exact absurd s (a j)
   · exact(d.tg _ a).2
 · obtain⟨v,e,a⟩:=key i b;rw[e];rcases a with ⟨a,_⟩|a
   · exact a
   · obtain⟨⟨_,c⟩,_⟩:=d.tg _ a;exact absurd c k
 · obtain⟨v,e,a⟩:=key i b;rw[e];rcases a with ⟨a,_⟩|a
   · omega
   · obtain⟨_,n,o,w,_⟩:=d.tg _ a;simp only at o;omega
end
def B3a:Tr:= .nd 5 [] []
def plT(k:Int):Tr:= .nd k [] []
abbrev Of:=List (Option Tr)
def ofA(a:Of)(x:Int):Tr:=(a.getD x.toNat none).getD B3a
structure Cx where
 N:List Nd
 T:List Ty
 ts:uZ
 fn:uZ
def J8a(T:List Ty)(n:Nd):Tr:=if n.ty= -1 then B3a else tr T n.ty.toNat
def W8(c:Cx)(a:Of)(j:Int):Tr:=
 if (ndx c.N j).ty≠-1 then tr c.T (ndx c.N j).ty.toNat else if (ndx c.N j).kind=17 then ofA a (ndx c.N j).a else B3a
def fnT(c:Cx)(n:Nd):Tr:= .nd 9 [] (J8a c.T n::n.list.map (W8 c []))
def N9(a:Of)(n:Nd):Option Tr:=
 if (ofA a n.a).k=5 then some (ofA a n.a) else if (ofA a n.a).k=8/\n.text=[108,101,110,103,116,104] then some (plT 1) else J1 n.text (ofA a n.a).ns (ofA a n.a).ks
def M8(a:Of)(n:Nd):Option Tr:=
 if F2 (ofA a n.b) (plT 1)=true then if (ofA a n.a).k=5 then some (ofA a n.a) else if (ofA a n.a).k=8 then some ((ofA a n.a).ks.headD B3a) else none else none
def O9(c:Cx)(a:Of)(i:Nat):Option (List (Int×Tr)):=
 let n:=ndx c.N i
 if n.kind=7 then if (ofA a n.a).k=5 then some [] else some (n.list.zip (ofA a n.a).ks.tail)
 else if n.kind=14 then some [(n.a,tr c.T n.ty.toNat)]
 else if n.kind=17 then if n.ty≠-1 then some [(n.a,tr c.T n.ty.toNat)] else some []
 else if n.kind=18 then some [(n.a,W8 c a (c.ts.getD i 0))]
 else if n.kind=19 then (N9 a n).map λt=>[(n.b,t)]
 else if n.kind=20 then (M8 a n).map λt=>[(n.c,t)]
 else if n.kind=24 then some [(n.a,J8a c.T (ndx c.N (c.fn.getD i 0)))]
 else some []
def U9(c:Cx)(a:Of)(i:Nat):Bool:=
 match O9 c a i with
 |none=>false
 |some l=>l.all λp=>F2 (ofA a p.1) p.2
def E7a(a:Of)(x:Int):Bool:=(ofA a x).k==1||(ofA a x).k==5
def D0a(c:Cx)(a:Of)(i:Nat):Option Tr:=
 let n:=ndx c.N i
 if (ofA a n.a).k=5 then some (ofA a n.a)
 else if (ofA a n.a).k≠9\/n.list.length≠(ofA a n.a).ks.tail.length then none
 else if U9 c a i=true then some ((ofA a n.a).ks.headD B3a) else none
def K7b(a:Of)(n:Nd):Option Tr:=
 if (ofA a n.a).k=5\/(ofA a n.b).k=5 then some B3a
 else if (ofA a n.a).k≠(ofA a n.b).k\/((ofA a n.a).k≠1/\(ofA a n.a).k≠3) then none
 else some (plT (ofA a n.a).k)
def P0b(a:Of)(n:Nd):Option Tr:=
 if n.text=[61,61] then some (plT 2) else if n.text=[43] then K7b a n
 else if E7a a n.a && E7a a n.b then some (if n.text=[60] then plT 2 else plT 1) else none
def S3b(a:Of)(n:Nd):Option Tr:=
 if n.text=[33] then some (plT 2) else if n.text=[116,121,112,101,111,102] then some (plT 3) else if E7a a n.a then some (plT 1) else none
def S7b(N:List Nd)(a:Of)(n:Nd):Tr:= .nd 7 (n.list.map λx=>(ndx N x).text) (n.list.map λx=>ofA a (ndx N x).a)
def L2d(a:Of)(n:Nd):Tr:= .nd 8 [] [C8a (n.list.map (ofA a))]
def F1(c:Cx)(a:Of)(i:Nat):Option Tr:=
 let n:=ndx c.N i
 if n.kind=1 then some (plT 1) else if n.kind=2 then some (plT 3) else if n.kind=3 then some (plT 2)
 else if n.kind=5 then some (W8 c a (c.ts.getD i 0)) else if n.kind=6 then some (ofA a i)
 else if n.kind=7 then D0a c a i else if n.kind=8 then N9 a n else if n.kind=9 then M8 a n
 else if n.kind=10 then some (S7b c.N a n) else if n.kind=11 then some (L2d a n)
 else if n.kind=12 then P0b a n else if n.kind=13 then S3b a n
 else if n.kind=14 then some (tr c.T n.ty.toNat) else some (plT 4)
def ckN(c:Cx)(a:Of)(i:Nat):Int ⊕ Option Tr:=
 let n:=ndx c.N i
 if 1<=n.kind/\n.kind<=14 then match F1 c a i with
  |none=> .inl 9
  |some t=>if 300<sz t then .inl 2 else .inr (some t)
 else if n.kind=24/\c.fn.getD i 0= -1 then .inl 4
 else if U9 c a i=true then .inr none else .inl 9
def of0(c:Cx):Of:=c.N.map λn=>if n.kind=6 then some (fnT c n) else none
def ckS(c:Cx)(r:(Int×Nat) ⊕ Of)(i:Nat):(Int×Nat) ⊕ Of:=
 match r with
 | .inl e=> .inl e
 | .inr a=>match ckN c a i with
  | .inl e=> .inl (e,i)
  | .inr none=> .inr a
  | .inr (some t)=> .inr (a.set i (some t))
def Y8(c:Cx):Nat->(Int×Nat) ⊕ Of
 |0=> .inr (of0 c)
 |j+1=>ckS c (Y8 c j) j
def ckP(c:Cx):(Int×Nat) ⊕ Of:=Y8 c c.N.length
theorem W2b(c:Cx){e:Int×Nat}:∀{j k:Nat},Y8 c j= .inl e->j<=k->Y8 c k= .inl e
 |j,0,h,b=>by
  have:j=0:=by omega
  subst this;exact h
 |j,k+1,h,b=>by
  by_cases a:j=k+1
  · subst a;exact h
  · rw[Y8,W2b c h (by omega:j<=k)];rfl
structure F5c(c:Cx):Prop where
 flat:∀i (h:i<c.N.length),FlN c.N c.T i c.N[i]
 nms:Y3d c.N c.ts
 lenN:c.N.length<=1200
 lenT:c.T.length<=300
 ok:TsOk c.T
 ls:∀i (h:i<c.N.length),c.N[i].list.length<=1200
 fnl:c.fn.length=c.N.length
 fnr:∀i,i<c.N.length->c.fn.getD i 0= -1\/∃j:Nat,c.fn.getD i 0=j/\j<c.N.length
 tx:∀nd∈c.N,nd.text.length<=30
theorem F7{N:List Nd}{i:Nat}(h:i<N.length):ndx N (i:Int)=N[i]:=by
 unfold ndx;rw[tQ,lQ,gQ h];rfl
structure CkI(c:Cx)(of:Of)(j:Nat):Prop where
 len:of.length=c.N.length
 ex:∀i (h:i<c.N.length),isE c.N[i].kind->(i<j\/c.N[i].kind=6)->∃t,of[i]? =some (some t)
 sm:∀i t,i<j->of[i]? =some (some t)->sz t<=300
 no:∀i (h:i<c.N.length),¬isE c.N[i].kind->of[i]? =some none
 later:∀i (h:i<c.N.length),j<=i->of[i]? =some (if c.N[i].kind=6 then some (fnT c c.N[i]) else none)
theorem N8b(c:Cx):∀(j:Nat) (l:Of),j<=c.N.length->Y8 c j= .inr l->CkI c l j
 |0,l,_,h=>by
  simp only[Y8,Sum.inr.injEq]at h;subst h;have key:∀i (h:i<c.N.length),(of0 c)[i]? =some (if c.N[i].kind=6 then some (fnT c c.N[i]) else none):=λi h=>by
   unfold of0;rw[List.getElem?_map,gQ h];rfl
  refine⟨by simp[of0],λi h b d=> ?_,λi t h=>by omega,λi h b=> ?_,λi h _=>key i h⟩
  · rcases d with d|d
    · omega
    · exact⟨_,by rw[key i h,rY d]⟩
  · rw[key i h,yY (λd=>b (by rw[d];exact⟨by decide,by decide⟩))]
 |j+1,l,y,h=>by
  rw[Y8]at h;cases m:Y8 c j with
  |inl e=>rw[m]at h;simp[ckS]at h
  |inr p=>
   rw[m]at h;have f:=N8b c j p (by omega) m;have n:j<c.N.length:=by omega
   simp only[ckS]at h;cases a:ckN c p j with
   |inl e=>rw[a]at h;simp at h
   |inr o=>
    rw[a]at h;unfold ckN at a;simp only[F7 n]at a;cases o with
    |none=>
     simp only[Sum.inr.injEq]at h;subst h;have s:¬isE c.N[j].kind:=by
      intro b;have v:1<=c.N[j].kind/\c.N[j].kind<=14:=b;rw[rY v]at a;split at a
      · simp at a
      · split at a<;>simp at a
     refine⟨f.len,λi h b d=>f.ex i h b ?_,λi t h k=> ?_,f.no,λi h w=>f.later i h (by omega)⟩
     · rcases d with d|d
       · by_cases g:i=j
         · subst g;exact absurd b s
         · exact .inl (by omega)
       · exact .inr d
     · by_cases g:i=j
       · subst g;rw[f.no i n s]at k;simp at k
       · exact f.sm i t (by omega) k
    |some t=>
     simp only[Sum.inr.injEq]at h;subst h;have q:isE c.N[j].kind/\sz t<=300:=by
      by_cases b:1<=c.N[j].kind/\c.N[j].kind<=14
      · refine⟨b, ?_⟩;rw[rY b]at a;split at a
        · simp at a
        · split at a
          · simp at a
          · simp only[Sum.inr.injEq,zQ]at a;subst a;omega
      · rw[yY b]at a;split at a
        · simp at a
        · split at a<;>simp at a
     have r:j<p.length:=by rw[f.len];exact n
     refine⟨by rw[List.length_set];exact f.len,λi h b d=> ?_,λi u h k=> ?_,λi h b=> ?_,λi h w=> ?_⟩
     · by_cases g:i=j
       · subst g;exact⟨t,by rw[List.getElem?_set_self r]⟩
       · rw[List.getElem?_set_ne (by omega)];exact f.ex i h b (d.imp (λx=>by omega) id)
     · by_cases g:i=j
       · subst g;rw[List.getElem?_set_self r]at k;simp only[zQ]at k;subst k;exact q.2
       · rw[List.getElem?_set_ne (by omega)]at k;exact f.sm i u (by omega) k
     · by_cases g:i=j
       · subst g;exact absurd q.1 b
       · rw[List.getElem?_set_ne (by omega)];exact f.no i h b
     · rw[List.getElem?_set_ne (by omega)];exact f.later i h (by omega)
def prt(n:Nd):uZ:=
 if n.kind=10\/n.kind=11\/n.kind=26 then n.list
 else if n.kind=7 then n.a::n.list
 else if n.kind=6 then n.list++[n.a]
 else if n.kind=8\/n.kind=13\/n.kind=14\/n.kind=15\/n.kind=17\/n.kind=18\/n.kind=21\/n.kind=24\/n.kind=25 then [n.a]
 else if n.kind=9\/n.kind=12\/n.kind=19\/n.kind=23 then [n.a,n.b]
 else if n.kind=20 then [n.a,n.b,n.c]
 else if n.kind=22 then if n.c= -1 then [n.a,n.b] else [n.a,n.b,n.c]
 else []
theorem Pe.lt{N:List Nd}{i:Nat}{x:Int}(h:Pe N i x):∃j:Nat,x=j/\j<i:=by obtain⟨j,e,h,_⟩:=h;exact⟨j,e,h⟩
theorem Pk.lt{N:List Nd}{i:Nat}{k x:Int}(h:Pk N i k x):∃j:Nat,x=j/\j<i:=by obtain⟨j,e,h,_⟩:=h;exact⟨j,e,h⟩
theorem A2e{N:List Nd}{T:List Ty}{i:Nat}{n:Nd}(h:FlN N T i n):∀x∈prt n,∃j:Nat,x=j/\j<i:=by
 intro x b;unfold prt at b;split at b
 · rename_i a;rcases a with a|a|a
   · exact((h.k10 a).1 x b).lt
   · exact(h.k11 a x b).lt
   · exact h.k26 a x b
 split at b
 · rename_i a;rcases jW.1 b with rfl|b
   · exact(h.k7 a).1.lt
   · exact((h.k7 a).2 x b).lt
 split at b
 · rename_i a;rcases qW.1 b with b|b
   · exact((h.k6 a).1 x b).lt
   · simp only[zW]at b;subst b;exact(h.k6 a).2.2.lt
 split at b
 · rename_i a;simp only[zW]at b;subst b;rcases a with a|a|a|a|a|a|a|a|a
   · exact(h.k1 (by omega)).lt
   · exact(h.k1 (by omega)).lt
   · exact(h.k14 a).1.lt
   · exact(h.k1 (by omega)).lt
   · exact(h.k17 a).2.lt
   · exact(h.k1 (by omega)).lt
   · exact(h.k1 (by omega)).lt
   · exact(h.k1 (by omega)).lt
   · exact(h.k1 (by omega)).lt
 split at b
 · rename_i a;simp only[jW,qZ,or_false]at b;by_cases d:n.kind=23
   · rcases b with rfl|rfl
     · exact(h.k23 d).1.lt
     · exact(h.k23 d).2.lt
   · rcases b with rfl|rfl
     · exact(h.k2 (by omega)).1.lt
     · exact(h.k2 (by omega)).2.lt
 split at b
 · rename_i a;simp only[jW,qZ,or_false]at b;rcases b with rfl|rfl|rfl
   · exact(h.k20 a).1.lt
   · exact(h.k20 a).2.1.lt
   · exact(h.k20 a).2.2.lt
 split at b
 · rename_i a;have c:=h.k22 a;split at b
   · simp only[jW,qZ,or_false]at b;rcases b with rfl|rfl
     · exact c.1.lt
     · exact c.2.1.lt
   · rename_i e;simp only[jW,qZ,or_false]at b;rcases b with rfl|rfl|rfl
     · exact c.1.lt
     · exact c.2.1.lt
     · rcases c.2.2 with h|h
       · exact absurd h e
       · exact h.lt
 · simp at b
def setAQ(b:uZ)(v:Int)(l:uZ):uZ:=l.foldl (λa x=>a.set x.toNat v) b
theorem J7a(v:Int):∀(l:uZ) (a:uZ),(setAQ a v l).length=a.length
 |[],a=>rfl
 |x::l,a=>by rw[setAQ,List.foldl_cons,<-setAQ,J7a v l];simp
theorem L8a(a:uZ)(v:Int)(l:uZ)(x:Int):setAQ a v (l++[x])=(setAQ a v l).set x.toNat v:=by simp[setAQ]
def fnH(N:List Nd)(a:uZ)(i:Nat):uZ:=if i+1=N.length then a.set i (-1) else a
def fnW(N:List Nd)(a:uZ)(i:Nat):Int:=if (ndx N i).kind=6 then i else (fnH N a i).getD i 0
def fnSQ(N:List Nd)(a:uZ)(i:Nat):uZ:=setAQ (fnH N a i) (fnW N a i) (prt (ndx N i))
def fnI(N:List Nd):Nat->uZ
 |0=>List.replicate N.length 0
 |j+1=>fnSQ N (fnI N j) (N.length - 1 - j)
def fnP(N:List Nd):uZ:=fnI N N.length
def InA(n:Nat)(a:uZ):Prop:=a.length=n/\∀v∈a,-1<=v/\v<n
theorem InA.set{n:Nat}{b:uZ}(h:InA n b)(i:Nat){v:Int}(c:-1<=v/\v<n):InA n (b.set i v):=by
 refine⟨by rw[List.length_set];exact h.1,λu a=> ?_⟩;rcases List.mem_or_eq_of_mem_set a with a|rfl
 · exact h.2 u a
 · exact c
theorem InA.setA{n:Nat}{v:Int}(b:-1<=v/\v<n):∀{l a:uZ},InA n a->InA n (setAQ a v l)
 |[],_,h=>h
 |x::l,_,h=>InA.setA b (l:=l) (h.set x.toNat b)
theorem InA.getD{n:Nat}{a:uZ}(h:InA n a)(c:0<n)(i:Nat):-1<=a.getD i 0/\a.getD i 0<n:=by
 rw[lQ];by_cases b:i<a.length
 · rw[gQ b];exact h.2 _ (mQ b)
 · rw[List.getElem?_eq_none (by omega)]
   simp;omega
theorem G5d{N:List Nd}{a:uZ}(h:InA N.length a)(i:Nat):InA N.length (fnH N a i):=by
 unfold fnH;split
 · exact h.set i (by omega)
 · exact h
theorem C7e{N:List Nd}{a:uZ}(h:InA N.length a){i:Nat}(b:i<N.length):-1<=fnW N a i/\fnW N a i<N.length:=by
 unfold fnW;split
 · omega
 · exact(G5d h i).getD (by omega) i
theorem G3d(N:List Nd):∀j,j<=N.length->InA N.length (fnI N j)
 |0,_=>⟨by simp[fnI],λv a=>by
  simp[fnI]at a;have:=List.length_pos_iff.2 a.1
  omega⟩
 |j+1,c=>by
  have b:=G3d N j (by omega);rw[fnI,fnSQ];exact(G5d b _).setA (C7e b (by omega))
def cxP(N:List Nd)(T:List Ty)(l:List (Nat×Int)):Cx:=⟨N,T,upd (List.replicate N.length (-1)) l,fnP N⟩
theorem J5d{N:List Nd}{T:List Ty}{a:List Nt}(h:Prgm N T a){e:List Fr}{l:List (Nat×Int)}(k:bnT [] 0 (.nd 26 [] 0 a)= .ok e l)(n:∀o∈N,o.text.length<=30):F5c (cxP N T l):=by
 have d:=G3d N N.length (vQ _);refine⟨h.flat,Z7c h k,h.lenN,h.lenT,h.ok,λi b=> ?_,d.1,λi b=> ?_,n⟩
 · have m:N[i].fl∈emN 0 0 (.nd 26 [] 0 a):=by
    rw[<-h.nodes];exact List.mem_map_of_mem (mQ b)
   have c:=N1b (.nd 26 [] 0 a) (R5a _ (w26 h.wn)) 0 0 _ m;have g:N.length=nN (.nd 26 [] 0 a):=by
    have:=congrArg List.length h.nodes;rw[iZ,Z8]at this;exact this
   have p:=h.lenN;have j:N[i].fl.list=N[i].list:=rfl;rw[j]at c;show N[i].list.length<=1200;omega
 · have q:i<N.length:=b;obtain⟨c,g⟩:=d.getD (by omega) i;show (fnI N N.length).getD i 0= -1\/_;by_cases f:(fnI N N.length).getD i 0= -1
   · exact .inl f
   · exact .inr ⟨((fnI N N.length).getD i 0).toNat,by show (fnI N N.length).getD i 0=_;omega,by show _<N.length;omega⟩
theorem Z2c:∀a:List bZ,(∀n∈a,S4 n)->nsW a<=a.length * 28
 |[],_=>by simp[nsW]
 |n::r,h=>by
  have c:=Z2c r λm b=>h m (by simp[b]);have d:=(h n (by simp)).2.1;have e:nsW (n::r)=n.length+8+nsW r:=by simp[nsW]
  rw[e,jQ];omega
theorem Z3a:∀l:List Tr,(∀x∈l,wg x+44<=60 * sz x)->wgL l+39 * l.length<=60 * szL l
 |[],_=>by simp[wgL,szL]
 |t::r,h=>by
  have b:=Z3a r λx a=>h x (by simp[a]);have c:=h t (by simp);rw[wgL,szL,jQ];omega
theorem W1d{t:Tr}(h:Wf t):wg t+44<=60 * sz t:=by
 induction h with
 |plain k b d=>simp[wg,sz,wgL,szL,nsW]
 |obj i c e nd f l a=>
  have b:=Z3a c a;have d:=Z2c i f;rw[wg,sz];omega
 |arr t _ a=>
  simp only[wg,sz,wgL,szL,nsW,List.map_nil,List.sum_nil];omega
 |fn t j _ _ m g=>
  have b:=Z3a j g;simp only[wg,sz,wgL,szL,nsW,List.map_nil,List.sum_nil];omega
 |uni c e _ a=>
  have b:=Z3a c a;simp only[wg,sz,nsW,List.map_nil,List.sum_nil];omega
def Cx.fl(c:Cx):Cx:=⟨c.N.map Nd.fl,c.T,c.ts,c.fn⟩
theorem O4a(N:List Nd)(x:Int):ndx (N.map Nd.fl) x=(ndx N x).fl:=by
 unfold ndx;rw[lQ,lQ,List.getElem?_map];cases N[x.toNat]? <;>rfl
theorem M4b(c:Cx)(a:Of)(j:Int):W8 c.fl a j=W8 c a j:=by
 unfold W8;rw[show c.fl.N=c.N.map Nd.fl from rfl,O4a];rfl
theorem C9e(c:Cx)(n:Nd):fnT c.fl n.fl=fnT c n:=by
 unfold fnT;rw[show W8 c.fl []=W8 c [] from funext λj=>M4b c [] j];rfl
theorem V5d(c:Cx)(a:Of)(i:Nat):O9 c.fl a i=O9 c a i:=by
 unfold O9;simp only[M4b,show c.fl.N=c.N.map Nd.fl from rfl,O4a];rfl
theorem J1b(c:Cx)(a:Of)(i:Nat):U9 c.fl a i=U9 c a i:=by unfold U9;rw[V5d]
theorem K2d(c:Cx)(a:Of)(i:Nat):D0a c.fl a i=D0a c a i:=by
 unfold D0a;simp only[J1b,show c.fl.N=c.N.map Nd.fl from rfl,O4a];rfl
theorem Q3d(N:List Nd)(a:Of)(n:Nd):S7b (N.map Nd.fl) a n.fl=S7b N a n:=by
 unfold S7b;simp only[O4a];rfl
theorem I1d(c:Cx)(a:Of)(i:Nat):F1 c.fl a i=F1 c a i:=by
 unfold F1;simp only[K2d,M4b,show c.fl.N=c.N.map Nd.fl from rfl,O4a,Q3d];rfl
theorem E2e(c:Cx)(a:Of)(i:Nat):ckN c.fl a i=ckN c a i:=by
 unfold ckN;simp only[I1d,J1b,show c.fl.N=c.N.map Nd.fl from rfl,O4a];rfl
theorem B3e(c:Cx):of0 c.fl=of0 c:=by
 unfold of0;rw[show c.fl.N=c.N.map Nd.fl from rfl,List.map_map];refine List.map_congr_left λn _=> ?_;show (if n.kind=6 then some (fnT c.fl n.fl) else none)=_;rw[C9e]
theorem L3c(c:Cx):∀j,Y8 c.fl j=Y8 c j
 |0=>by rw[Y8,Y8,B3e]
 |j+1=>by
  rw[Y8,Y8,L3c c j];unfold ckS;simp only[E2e]
theorem J8d(c:Cx):ckP c.fl=ckP c:=by
 unfold ckP;rw[L3c,show c.fl.N.length=c.N.length from iZ ..]
theorem A3e(n:Nd):prt n.fl=prt n:=rfl
theorem G4d(N:List Nd):∀j,fnI (N.map Nd.fl) j=fnI N j
 |0=>by rw[fnI,fnI,iZ]
 |j+1=>by
  rw[fnI,fnI,G4d N j];unfold fnSQ fnW fnH;simp only[iZ,O4a,A3e];rfl
theorem J6d(N:List Nd)(T:List Ty)(l:List (Nat×Int)):cxP (N.map Nd.fl) T l=(cxP N T l).fl:=by
 unfold cxP fnP Cx.fl;rw[iZ,G4d]
theorem J7d{N a:List Nd}(T:List Ty)(l:List (Nat×Int))(h:a.map Nd.fl=N.map Nd.fl):ckP (cxP a T l)=ckP (cxP N T l):=by
 rw[<-J8d,<-J8d (cxP N T l),<-J6d,<-J6d,h]
def OfW(a:Of):Prop:=∀(i:Nat) (t:Tr),a[i]? =some (some t)->Wf t
theorem D6{c:Prop}[Decidable c]{x y:Option Tr}{t:Tr}(h:(if c then x else y)=some t):(c/\x=some t)\/(¬c/\y=some t):=by
 by_cases a:c
 · rw[rY a]at h;exact .inl ⟨a,h⟩
 · rw[yY a]at h;exact .inr ⟨a,h⟩
theorem L7a:Wf B3a:= .plain 5 (by decide) (by decide)
theorem OfW.a{a:Of}(h:OfW a)(x:Int):Wf (ofA a x):=by
 unfold ofA;rw[lQ];cases b:a[x.toNat]? with
 |none=>exact L7a
 |some o=>cases o with
  |none=>exact L7a
  |some t=>exact h _ t b
theorem Wf.kid{t x:Tr}(h:Wf t)(a:x∈t.ks):Wf x:=by
 cases h with
 |plain k=>simp[Tr.ks]at a
 |obj f e _ _ _ b=>exact b x a
 |arr t b=>simp[Tr.ks]at a;subst a;exact b
 |fn t g c d=>
  simp only[Tr.ks,jW]at a;rcases a with rfl|a
  · exact c
  · exact d x a
 |uni e _ b=>exact b x a
theorem Wf.head{t:Tr}(h:Wf t):Wf (t.ks.headD B3a):=by
 cases a:t.ks with
 |nil=>exact L7a
 |cons x r=>exact h.kid (by rw[a];simp)
section
variable{c:Cx}(b:F5c c){of:Of}(a:OfW of)
include b
theorem W2d{x:Int}(h:Pz c.T x)(d:x≠-1):Wf (tr c.T x.toNat):=by
 rcases h with h|⟨j,rfl,hj,_⟩
 · exact absurd h d
 · rw[tQ];exact G4b b.ok j hj
theorem G6e{i:Nat}(j:i<c.N.length):Pz c.T c.N[i].ty:=by
 have d:=b.flat i j;by_cases h:c.N[i].kind=6
 · exact(d.k6 h).2.1
 by_cases e:c.N[i].kind=14
 · exact .inr (d.k14 e).2
 by_cases f:c.N[i].kind=16
 · exact d.k16 f
 by_cases g:c.N[i].kind=17
 · exact(d.k17 g).1
 · exact .inl (d.ty h e f g)
theorem K2a(x:Int):Pz c.T (ndx c.N x).ty:=by
 by_cases h:x.toNat<c.N.length
 · have:=G6e b h;unfold ndx;rw[lQ,gQ h];exact this
 · unfold ndx;rw[lQ,List.getElem?_eq_none (by omega)];exact .inl rfl
theorem O7d(x:Int):Wf (J8a c.T (ndx c.N x)):=by
 unfold J8a;split
 · exact L7a
 · rename_i h;exact W2d b (K2a b x) h
include a
theorem J8c(x:Int):Wf (W8 c of x):=by
 unfold W8;split
 · rename_i h;exact W2d b (K2a b x) h
 split
 · exact a.a _
 · exact L7a
omit b
theorem R7c{n:Nd}{t:Tr}(h:N9 of n=some t):Wf t:=by
 unfold N9 at h;split at h
 · simp only[zQ]at h;subst h;exact a.a _
 split at h
 · simp only[zQ]at h;subst h;exact .plain 1 (by decide) (by decide)
 · exact(a.a _).kid (C0a h)
theorem O4c{n:Nd}{t:Tr}(h:M8 of n=some t):Wf t:=by
 unfold M8 at h;split at h
 · split at h
   · simp only[zQ]at h;subst h;exact a.a _
   split at h
   · simp only[zQ]at h;subst h;exact(a.a _).head
   · simp at h
 · simp at h
include b
omit b in
theorem K1d{i:Nat}{t:Tr}(h:D0a c of i=some t):Wf t:=by
 unfold D0a at h
 simp only at h
 split at h
 · simp only[zQ]at h
   subst h;exact a.a _
 split at h
 · simp at h
 split at h
 · simp only[zQ]at h
   subst h;exact(a.a _).head
 · simp at h
theorem H9d{i:Nat}(p:i<c.N.length){t:Tr}(h:F1 c of i=some t):Wf t:=by
 have d:∀k:Int,1<=k->k<=6->∀{u:Tr},some (plT k)=some u->Wf u:=λk m f u h=>by
  simp only[zQ]at h;subst h;exact .plain k m f
 have o:=b.flat i p;unfold F1 at h;rw[F7 p]at h;rcases D6 h with ⟨_,h⟩|⟨_,h⟩
 · exact d 1 (by decide) (by decide) h
 rcases D6 h with ⟨_,h⟩|⟨_,h⟩
 · exact d 3 (by decide) (by decide) h
 rcases D6 h with ⟨_,h⟩|⟨_,h⟩
 · exact d 2 (by decide) (by decide) h
 rcases D6 h with ⟨_,h⟩|⟨_,h⟩
 · simp only[zQ]at h;subst h;exact J8c b a _
 rcases D6 h with ⟨_,h⟩|⟨_,h⟩
 · simp only[zQ]at h;subst h;exact a.a _
 rcases D6 h with ⟨_,h⟩|⟨_,h⟩
 · exact K1d a h
 rcases D6 h with ⟨_,h⟩|⟨_,h⟩
 · exact R7c a h
 rcases D6 h with ⟨_,h⟩|⟨_,h⟩
 · exact O4c a h
 rcases D6 h with ⟨q,h⟩|⟨_,h⟩
 · simp only[zQ]at h;subst h;obtain⟨m,f,s⟩:=o.k10 q;refine .obj _ _ (by simp) f (λn w=> ?_) (λx g=> ?_)
   · obtain⟨y,l,rfl⟩:=jZ.1 w;exact s y l
   · obtain⟨y,l,rfl⟩:=jZ.1 g;exact a.a _
 rcases D6 h with ⟨_,h⟩|⟨_,h⟩
 · simp only[zQ]at h;subst h;refine .arr _ (U0c _ λx g=> ?_);obtain⟨y,l,rfl⟩:=jZ.1 g;exact a.a _
 rcases D6 h with ⟨_,h⟩|⟨_,h⟩
 · unfold P0b at h;rcases D6 h with ⟨_,h⟩|⟨_,h⟩
   · exact d 2 (by decide) (by decide) h
   rcases D6 h with ⟨_,h⟩|⟨_,h⟩
   · unfold K7b at h;rcases D6 h with ⟨_,h⟩|⟨_,h⟩
     · simp only[zQ]at h;subst h;exact L7a
     rcases D6 h with ⟨_,h⟩|⟨z,h⟩
     · simp at h
     · exact d _ (by omega) (by omega) h
   rcases D6 h with ⟨_,h⟩|⟨_,h⟩
   · split at h
     · exact d 2 (by decide) (by decide) h
     · exact d 1 (by decide) (by decide) h
   · simp at h
 rcases D6 h with ⟨_,h⟩|⟨_,h⟩
 · unfold S3b at h;rcases D6 h with ⟨_,h⟩|⟨_,h⟩
   · exact d 2 (by decide) (by decide) h
   rcases D6 h with ⟨_,h⟩|⟨_,h⟩
   · exact d 3 (by decide) (by decide) h
   rcases D6 h with ⟨_,h⟩|⟨_,h⟩
   · exact d 1 (by decide) (by decide) h
   · simp at h
 rcases D6 h with ⟨r,h⟩|⟨_,h⟩
 · simp only[zQ]at h;subst h;obtain⟨j,e,v,_⟩:=(o.k14 r).2;show Wf (tr c.T c.N[i].ty.toNat);rw[e,tQ];exact G4b b.ok j v
 · exact d 4 (by decide) (by decide) h
end
theorem B3c{c:Cx}(g:F5c c):∀(j:Nat) (k:Of),j<=c.N.length->Y8 c j= .inr k->OfW k
 |0,k,_,h=>by
  simp only[Y8,Sum.inr.injEq]at h;subst h;intro i t b;unfold of0 at b;rw[List.getElem?_map]at b;cases p:c.N[i]? with
  |none=>rw[p]at b;simp at b
  |some n=>
   rw[p]at b;simp only[Option.map_some,zQ]at b;split at b
   · simp only[zQ]at b;subst b;obtain⟨z,rfl⟩:=List.getElem?_eq_some_iff.1 p;have r:=O7d g (i:Int);rw[F7 z]at r;refine .fn _ _ r λx f=> ?_;obtain⟨y,B,rfl⟩:=jZ.1 f;exact J8c g (of:=[]) (λi t h=>by simp at h) y
   · simp at b
 |j+1,k,A,h=>by
  rw[Y8]at h;cases m:Y8 c j with
  |inl e=>rw[m]at h;simp[ckS]at h
  |inr l=>
   rw[m]at h;have q:=B3c g j l (by omega) m;simp only[ckS]at h;cases a:ckN c l j with
   |inl e=>rw[a]at h;simp at h
   |inr o=>
    rw[a]at h;cases o with
    |none=>
     simp only[Sum.inr.injEq]at h;subst h;exact q
    |some t=>
     simp only[Sum.inr.injEq]at h;subst h;intro i u d;by_cases s:j=i
     · subst s;rw[List.getElem?_set_self']at d;cases w:l[j]? with
       |none=>rw[w]at d;simp at d
       |some o=>
        rw[w]at d;simp at d;subst d;unfold ckN at a;simp only at a;split at a
        · cases f:F1 c l j with
          |none=>rw[f]at a;simp at a
          |some v=>
           rw[f]at a;simp only at a;split at a
           · simp at a
           · simp only[Sum.inr.injEq,zQ]at a;subst a;exact H9d g q (by omega) f
        · split at a
          · simp at a
          · split at a<;>simp at a
     · rw[List.getElem?_set_ne s]at d;exact q i u d
theorem H6a:∀l r:List Tr,szL (l++r)=szL l+szL r
 |[],r=>by simp[szL]
 |t::l,r=>by rw[vZ,szL,szL,H6a l r];omega
mutual
theorem V7c:∀t:Tr,szL (flat t)<=sz t
 | .nd k d a=>by
  rw[flat];split
  · have:=S9a a;rw[sz];omega
  · simp[szL]
theorem S9a:∀l:List Tr,szL (J8 l)<=szL l
 |[]=>by simp[J8,szL]
 |t::r=>by
  have b:=V7c t;have c:=S9a r;rw[J8,H6a,szL];omega
end
theorem Y5b:∀l a:List Tr,szL (dd a l)<=szL a+szL l
 |[],a=>by simp[dd,szL]
 |t::r,a=>by
  rw[dd,szL];split
  · have:=Y5b r a;omega
  · have:=Y5b r (a++[t]);rw[H6a,szL,szL]at this;omega
theorem V2c(l:List Tr):sz (C8a l)<=1+szL l:=by
 unfold C8a;split
 · simp[sz,szL]
 · have a:=Y5b (J8 l) [];have b:=S9a l;rw[szL]at a;split
   · simp[sz,szL]
   · rename_i t h;rw[h,szL,szL]at a;omega
   · rename_i t u r h;rw[h]at a;rw[sz];omega
theorem Z8a{m:Nat}:∀l:List Tr,(∀x∈l,sz x<=m)->szL l<=l.length * m
 |[],_=>by simp[szL]
 |t::r,h=>by
  have b:=h t (by simp);have c:=Z8a r λx a=>h x (by simp[a]);rw[szL,jQ,Nat.add_mul];omega
section
variable{c:Cx}(a:F5c c)
include a
theorem H8c{x:Int}(h:Pz c.T x)(e:x≠-1):sz (tr c.T x.toNat)<=300:=by
 rcases h with h|⟨j,rfl,hj,hs⟩
 · exact absurd h e
 · have:=a.lenT;rw[tQ];omega
theorem O8d(x:Int):sz (J8a c.T (ndx c.N x))<=300:=by
 unfold J8a;split
 · simp[B3a,sz,szL]
 · rename_i h;exact H8c a (K2a a x) h
theorem A7e(x:Int):sz (W8 c [] x)<=300:=by
 unfold W8;split
 · rename_i h;exact H8c a (K2a a x) h
 split
 · simp[ofA,B3a,sz,szL]
 · simp[B3a,sz,szL]
theorem C8e{i:Nat}(e:i<c.N.length):sz (fnT c c.N[i])<=400000:=by
 have f:=O8d a (i:Int);rw[F7 e]at f;have g:=Z8a (m:=300) (c.N[i].list.map (W8 c [])) λx h=>by
  obtain⟨y,k,rfl⟩:=jZ.1 h;exact A7e a y
 have j:=a.ls i e;rw[iZ]at g;unfold fnT;rw[sz,szL];omega
variable{d:Of}{i:Nat}(b:CkI c d i)
include b
omit a in
theorem W0a{x:Int}(h:Pe c.N i x):sz (ofA d x)<=300:=by
 obtain⟨j,rfl,e,k,g⟩:=h
 obtain⟨t,f⟩:=b.ex j k g (.inl e)
 unfold ofA
 rw[tQ,lQ,f]
 exact b.sm j t e f
theorem X3d{j:Nat}(f:j<c.N.length)(e:c.N[j].kind=6):sz (ofA d (j:Int))<=400000:=by
 obtain⟨t,g⟩:=b.ex j f (by rw[e];exact⟨by decide,by decide⟩) (.inr e);unfold ofA;rw[tQ,lQ,g];by_cases h:j<i
 · have:=b.sm j t h g
   simp;omega
 · have:=b.later j f (by omega);rw[g,rY e]at this;simp only[zQ]at this;subst this;exact C8e a f
theorem S6d{x:Int}(h:Tg c.N i x):sz (W8 c d x)<=400000:=by
 obtain⟨j,rfl,m,q,l⟩:=h;have o:=K2a a (j:Int);unfold W8;split
 · rename_i f;have:=H8c a o f;omega
 split
 · rename_i k;rw[F7 m]at k⊢;rcases l with l|⟨_,n,e,f,g,h6⟩
   · obtain⟨n,e,f,g,p⟩:=((a.flat j m).k17 k).2;have:=W0a b (x:=c.N[j].a) ⟨n,e,by omega,g,p⟩;omega
   · rw[e];exact X3d a b g h6
 · simp[B3a,sz,szL]
omit a in
theorem F2d{x:Int}(h:Pe c.N i x){t:Tr}(e:t∈(ofA d x).ks):sz t<=300:=by
 have f:=W0a b h
 have g:=T4 e
 omega
omit a in
theorem J7c{x:Int}(h:Pe c.N i x):sz ((ofA d x).ks.headD B3a)<=300:=by
 cases e:(ofA d x).ks with
 |nil=>simp[B3a,sz,szL]
 |cons y r=>exact F2d b h (by rw[e];simp)
omit a in
theorem R8c{n:Nd}(e:Pe c.N i n.a){t:Tr}(h:N9 d n=some t):sz t<=300:=by
 unfold N9 at h
 rcases D6 h with ⟨_,h⟩|⟨_,h⟩
 · simp only[zQ]at h
   subst h;exact W0a b e
 rcases D6 h with ⟨_,h⟩|⟨_,h⟩
 · simp only[zQ]at h
   subst h;simp[plT,sz,szL]
 · exact F2d b e (C0a h)
omit a in
theorem O5c{n:Nd}(e:Pe c.N i n.a){t:Tr}(h:M8 d n=some t):sz t<=300:=by
 unfold M8 at h
 rcases D6 h with ⟨_,h⟩|⟨_,h⟩
 · rcases D6 h with ⟨_,h⟩|⟨_,h⟩
   · simp only[zQ]at h
     subst h;exact W0a b e
   rcases D6 h with ⟨_,h⟩|⟨_,h⟩
   · simp only[zQ]at h
     subst h;exact J7c b e
   · simp at h
 · simp at h
theorem I0d(l:i<c.N.length){t:Tr}(h:F1 c d i=some t):sz t<=1000000:=by
 have f:∀k:Int,∀{u:Tr},some (plT k)=some u->sz u<=1000000:=λk u h=>by
  simp only[zQ]at h;subst h;simp[plT,sz,szL]
 have g:=a.flat i l;have L:=a.ls i l;unfold F1 at h;rw[F7 l]at h;rcases D6 h with ⟨_,h⟩|⟨_,h⟩
 · exact f 1 h
 rcases D6 h with ⟨_,h⟩|⟨_,h⟩
 · exact f 3 h
 rcases D6 h with ⟨_,h⟩|⟨_,h⟩
 · exact f 2 h
 rcases D6 h with ⟨z,h⟩|⟨_,h⟩
 · simp only[zQ]at h;subst h
   have:=S6d a b (a.nms.tg i l (.inl z));omega
 rcases D6 h with ⟨A,h⟩|⟨_,h⟩
 · simp only[zQ]at h;subst h
   have:=X3d a b l A;omega
 rcases D6 h with ⟨q,h⟩|⟨_,h⟩
 · unfold D0a at h;rw[F7 l]at h;have m:=W0a b (g.k7 q).1;have n:=J7c b (g.k7 q).1;rcases D6 h with ⟨_,h⟩|⟨_,h⟩
   · simp only[zQ]at h;subst h;omega
   rcases D6 h with ⟨_,h⟩|⟨_,h⟩
   · simp at h
   rcases D6 h with ⟨_,h⟩|⟨_,h⟩
   · simp only[zQ]at h;subst h;omega
   · simp at h
 rcases D6 h with ⟨B,h⟩|⟨_,h⟩
 · have:=R8c b (g.k1 (.inl B)) h;omega
 rcases D6 h with ⟨C,h⟩|⟨_,h⟩
 · have:=O5c b (g.k2 (.inl C)).1 h;omega
 rcases D6 h with ⟨s,h⟩|⟨_,h⟩
 · simp only[zQ]at h;subst h;have n:=Z8a (m:=300) (c.N[i].list.map λx=>ofA d (ndx c.N x).a) λx o=>by
    obtain⟨y,p,rfl⟩:=jZ.1 o;obtain⟨j,rfl,G,r,K⟩:=(g.k10 s).1 y p;rw[F7 r];obtain⟨E,e,H,D⟩:=(a.flat j r).k1 (by omega);exact W0a b ⟨E,e,by omega,D⟩
   rw[iZ]at n;unfold S7b;rw[sz];omega
 rcases D6 h with ⟨v,h⟩|⟨_,h⟩
 · simp only[zQ]at h;subst h;have m:=V2c (c.N[i].list.map (ofA d));have n:=Z8a (m:=300) (c.N[i].list.map (ofA d)) λx o=>by
    obtain⟨y,p,rfl⟩:=jZ.1 o;exact W0a b (g.k11 v y p)
   rw[iZ]at n;unfold L2d;rw[sz,szL,szL];omega
 rcases D6 h with ⟨_,h⟩|⟨_,h⟩
 · unfold P0b at h;rcases D6 h with ⟨_,h⟩|⟨_,h⟩
   · exact f 2 h
   rcases D6 h with ⟨_,h⟩|⟨_,h⟩
   · unfold K7b at h;rcases D6 h with ⟨_,h⟩|⟨_,h⟩
     · exact f 5 h
     rcases D6 h with ⟨_,h⟩|⟨F,h⟩
     · simp at h
     · exact f _ h
   rcases D6 h with ⟨_,h⟩|⟨_,h⟩
   · split at h
     · exact f 2 h
     · exact f 1 h
   · simp at h
 rcases D6 h with ⟨_,h⟩|⟨_,h⟩
 · unfold S3b at h;rcases D6 h with ⟨_,h⟩|⟨_,h⟩
   · exact f 2 h
   rcases D6 h with ⟨_,h⟩|⟨_,h⟩
   · exact f 3 h
   rcases D6 h with ⟨_,h⟩|⟨_,h⟩
   · exact f 1 h
   · simp at h
 rcases D6 h with ⟨w,h⟩|⟨_,h⟩
 · simp only[zQ]at h;subst h;have m:=(g.k14 w).2;have:=H8c a (.inr m) (by obtain⟨j,e,_⟩:=m;omega);omega
 · exact f 4 h
theorem F5e(m:OfW d)(f:i<c.N.length)(j:c.N[i].kind=11):wgL (c.N[i].list.map (ofA d))<=25000000:=by
 have l:=a.flat i f;have n:=a.ls i f;have h:=Z3a (c.N[i].list.map (ofA d)) λx e=>by
  obtain⟨y,g,rfl⟩:=jZ.1 e;exact W1d (m.a y)
 have k:=Z8a (m:=300) (c.N[i].list.map (ofA d)) λx e=>by
  obtain⟨y,g,rfl⟩:=jZ.1 e;exact W0a b (l.k11 j y g)
 rw[iZ]at h k;omega
end
theorem I1c{l:bZ}{N:List Nd}{T:List Ty}{i:Nat}{x:Int}(d:(F4 l).2.1=0)(c:∀k:Nat,G5a 0 ⟨0,[],[]⟩ (sp' (F4 l).1 (k+60))=some (.ok ⟨i,N,T⟩ x))(a:N.length<=1200)(b:T.length<=300):PRes l (.inr (N,T)):=
 ⟨d,⟨i,N,T⟩,x,⟨60,λf e=>by
  obtain⟨k,rfl⟩:∃k,f=k+60:=⟨f - 60,by omega⟩;exact c k⟩,a,b,rfl,rfl⟩
def nB1:List Nd:=[⟨1,0,0,0,[],[],1,-1,6⟩,⟨3,0,0,0,[],[],1,-1,10⟩,⟨12,0,1,0,[],[43],0,-1,6⟩,⟨21,2,0,0,[],[],0,-1,0⟩,⟨26,0,0,0,[3],[],0,-1,0⟩]
def pB1:List Nt:=[.nd 21 [] 0 [.nd 12 [43] 0 [.nd 1 [] 1 [],.nd 3 [] 1 []]]]
theorem R3d:PRes [112,114,105,110,116,32,49,32,43,32,116,114,117,101,59] (.inr (nB1,[])):=I1c (i:=5) (x:=4) (by decide+kernel) (λk=>by kernel_rfl) (by decide) (by decide)
theorem B1e:∀p∈pB1,Wn p/\17<=p.k/\p.k<=25:=by
 intro p a;simp only[pB1,jW,qZ,or_false]at a;subst a;exact⟨w21 (w12 (by decide) (w1 (by omega)) (by simp[isE,Nt.k]) (w3 (.inr rfl)) (by simp[isE,Nt.k])) (by simp[isE,Nt.k]),by simp[Nt.k]⟩
theorem Q0d:Prgm nB1 [] pB1:=⟨B1e,by kernel_rfl,by kernel_rfl,by decide+kernel,by decide+kernel,by decide,by decide⟩
theorem B2e:bnT [] 0 (.nd 26 [] 0 pB1)= .ok [] []:=by kernel_rfl
theorem B9e:ckP (cxP nB1 [] [])= .inl (9,2):=by kernel_rfl
def nB2:List Nd:=[⟨1,0,0,0,[],[],1,-1,7⟩,⟨3,0,0,0,[],[],1,-1,10⟩,⟨11,0,0,0,[0,1],[],0,-1,6⟩,⟨21,2,0,0,[],[],0,-1,0⟩,⟨26,0,0,0,[3],[],0,-1,0⟩]
def pB2:List Nt:=[.nd 21 [] 0 [.nd 11 [] 0 [.nd 1 [] 1 [],.nd 3 [] 1 []]]]
theorem R2d:PRes [112,114,105,110,116,32,91,49,44,32,116,114,117,101,93,59] (.inr (nB2,[])):=I1c (i:=7) (x:=4) (by decide+kernel) (λk=>by kernel_rfl) (by decide) (by decide)
theorem A9e:∀p∈pB2,Wn p/\17<=p.k/\p.k<=25:=by
 intro p a;simp only[pB2,jW,qZ,or_false]at a;subst a;refine⟨w21 (w11 λp a=> ?_) (by simp[isE,Nt.k]),by simp[Nt.k]⟩;simp only[jW,qZ,or_false]at a;rcases a with rfl|rfl
 · exact⟨w1 (by omega),by simp[isE,Nt.k]⟩
 · exact⟨w3 (.inr rfl),by simp[isE,Nt.k]⟩
theorem P9d:Prgm nB2 [] pB2:=⟨A9e,by kernel_rfl,by kernel_rfl,by decide+kernel,by decide+kernel,by decide,by decide⟩
theorem B0e:bnT [] 0 (.nd 26 [] 0 pB2)= .ok [] []:=by kernel_rfl
def oB2:Of:=[some (.nd 1 [] []),some (.nd 2 [] []),some (.nd 8 [] [.nd 10 [] [.nd 1 [] [],.nd 2 [] []]]),none,none]
theorem B8e:ckP (cxP nB2 [] [])= .inr oB2:=by kernel_rfl
