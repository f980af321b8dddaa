/-
  A part of the proof.
-/
import Derived.Test.YtjhlphgdgpebfaaGreatDoorPlainA
import Derived.Laws.Entries
import Derived.KernelRfl
set_option maxHeartbeats 0
set_option linter.all false
set_option maxRecDepth 100000
namespace Go.Proofs.YtjhlphgdgpebfaaGreatDoor
open Bool renaming false->κ,true->τ
open Go renaming bits->û
open BinOp renaming and->Õ
open IntKind renaming i64->χ
open Int renaming reduceEq->Ö,eq_ofNat_of_zero_le->È
open List renaming length->Q,replicate->ó,getElem?_eq_some_iff->Î,length_singleton->Û,prefix_refl->ö
open Nat renaming add_assoc->þ,add_zero->Ð,zero_add->Þ
open Nt renaming k->õ
open Option renaming some->C
def Pe(N:List Nd)(i:Nat)(x:Int):Prop:=∃j:Nat,x=j/\j<i/\∃h,aP N[j].x
def Pk(N:List Nd)(i:Nat)(k:Int)(x:Int):Prop:=∃j:Nat,x=j/\j<i/\∃h,N[j].x=k
def Py(T:List Ty)(x:Int):Prop:=∃j:Nat,x=j/\j<Q T/\sz (tr T j)<=Q T
def Pz(T:List Ty)(x:Int):Prop:=x=-1\/Py T x
def aA(N:List Nd)(x:Int):Nd:=N.getD x.toNat kB
structure oI(N:List Nd)(T:List Ty)(i:Nat)(n:Nd):Prop where
 k:1<=n.x/\n.x<=26
 ty:n.x≠6->n.x≠14->n.x≠16->n.x≠17->n.ty=-1
 k6:n.x=6->(∀x∈n.M,Pk N i 16 x)/\Pz T n.ty/\Pk N i 26 n.a
 k7:n.x=7->Pe N i n.a/\∀x∈n.M,Pe N i x
 k1:n.x=8\/n.x=13\/n.x=15\/n.x=18\/n.x=21\/n.x=24\/n.x=25->Pe N i n.a
 k2:n.x=9\/n.x=12\/n.x=19->Pe N i n.a/\Pe N i n.b
 mz:n.x=10->(∀x∈n.M,Pk N i 15 x)/\(n.M.map λx=>(aA N x).text).Nodup/\∀x∈n.M,S6 (aA N x).text
 ny:n.x=11->∀x∈n.M,Pe N i x
 t9:n.x=12->n.text∈[[61,61],[60],[43],[45],[42]]
 tw:n.x=13->n.text∈[[33],[45],[116,121,112,101,111,102]]
 l6:n.x=14->Pe N i n.a/\Py T n.ty
 sk:n.x=16->Pz T n.ty
 ly:n.x=17->Pz T n.ty/\Pe N i n.a
 ku:n.x=20->Pe N i n.a/\Pe N i n.b/\Pe N i n.c
 o7:n.x=22->Pe N i n.a/\Pk N i 26 n.b/\(n.c=-1\/Pk N i 26 n.c)
 o6:n.x=23->Pe N i n.a/\Pk N i 26 n.b
 tu:n.x=26->∀x∈n.M,∃j:Nat,x=j/\j<i
 ls:n.x≠6->n.x≠7->n.x≠10->n.x≠11->n.x≠26->n.M=[]
section
variable{N:List Nd}{T:List Ty}
theorem Em.kd{b a}{p}(h:Em N b a p)(d:1<=p.k):∃j:Nat,bW b a p=j/\b<=j/\j<b+nN p/\∃h,N[j].x=p.k/\N[j].text=p.tx:=by
 cases p with
 |ty o=>cases o<;>simp[õ]at d
 |nd k g n f=>
  obtain⟨_,c,e⟩:=h.parts;refine⟨b+aB f,Em.ix,W,by grind[nN],c,(congrArg Nd.x e).trans<|J7 _ _ _ _,(congrArg Nd.text e).trans (DI _ _ _ _).1⟩
def dM.nw:∀{c} {b g},dM N b g c->(∀p∈c,1<=p.k)->∀x∈bD b g c,∃p∈c,∃j:Nat,x=j/\j<b+aB c/\∃h,N[j].x=p.k/\N[j].text=p.tx
 |[],_,_,_,_,x,a=>by grind[bD]
 |p::r,b,g,h,i,x,a=>by
  rw[bD,jW]at a;obtain⟨k,l⟩:=h.head;obtain rfl|a:=a
  .obtain⟨j,e,_,n,m,d⟩:=k.kd (i p θ);exact⟨p,θ,j,e,by rw[aB];omega,m,d⟩
  .obtain⟨q,f,j,e,n,d⟩:=dM.nw l (λq f=>i q<|by simp[f]) x a;exact⟨q,by simp[f],j,e,by rw[aB];omega,d⟩
theorem dM.rv:∀{a} {b c},dM N b c a->(∀p∈a,1<=p.k)->(bD b c a).map (λx=>(aA N x).text)=a.map Nt.tx
 |[],_,_,_,_=>K
 |p::r,b,c,h,d=>by
  obtain⟨f,g⟩:=h.head;obtain⟨j,e,_,n,k,m,i⟩:=f.kd (d p θ);rw[bD,bY,bY,dM.rv g λq l=>d q<|by simp[l],e];congr 1;unfold aA;rw[tQ,lQ,gQ k];exact i
def dM.split:∀{d c} {b a},dM N b a (d++c)->dM N b a d/\dM N (b+aB d) (a+cK d) c
 |[],c,b,a,h=>by
  refine⟨?_,by grind[aB,cK]⟩;obtain⟨A,B,e,f⟩:=h;exact⟨A,U2 b a c++B,by grind[U2],f⟩
 |p::r,c,b,a,h=>by
  rw[jZ]at h;obtain⟨j,g⟩:=h.head;obtain⟨k,i⟩:=dM.split g;refine⟨?_,by rw[aB,cK,<-þ,<-þ];exact i⟩;obtain⟨A,B,e,f⟩:=h;refine⟨A,U2 (b+aB (p::r)) (a+cK (p::r)) c++B,?_,f⟩;rw[e,<-List.cons_append,SB];simp
def JJ(T:List Ty)(b:Nat)(t:Nt):Prop:=∃a c,T=a++gL b t++c/\Q a=b/\aX a
def kN(T:List Ty)(b:Nat)(d:List Nt):Prop:=∃a c,T=a++Y2 b d++c/\Q a=b/\aX a
def kN.head{b}{p}{r}(h:kN T b<|p::r)(e:Wn p):JJ T b p/\kN T (b+nT p) r:=by
 obtain⟨a,c,h,rfl,d⟩:=h;rw[Y2]at h;exact⟨⟨a,Y2 (Q a+nT p) r++c,η,K,d⟩,⟨a++gL (Q a) p,c,η,by grind[wM],RD p e a d⟩⟩
def kN.drop:∀{c a} {b},kN T b (c++a)->(∀p∈c,Wn p)->kN T (b+cK c) a
 |[],a,b,h,_=>by grind[cK]
 |p::r,a,b,h,d=>by
  rw[cK,<-þ];exact kN.drop (h.head<|d p θ).2 λq e=>d q (by simp[e])
mutual
theorem Hg:∀t:Tr,sz t=fG t
 |.nd _ _ a=>by rw[sz,fG,ZP a]
theorem ZP:∀l:List Tr,cR l=S5 l
 |[]=>K
 |t::r=>by rw[cR,S5,Hg t,ZP r]
end
def Sub(N:List Nd)(T:List Ty)(i:Nat):Prop:=∃b c k d n a,Em N b c (.nd k d n a)/\Wn (.nd k d n a)/\i=b+aB a/\kN T c a
mutual
theorem QV:∀(t:Nt) (b a:Nat),Wn t->Em N b a t->JJ T a t->∀i,b<=i->i<b+nN t->Sub N T i
 |.ty _,b,a,_,_,_,i,e,h=>by grind[nN]
 |.nd k o n d,b,a,c,f,g,i,e,h=>by
  have m:=g;by_cases j:i=b+aB d
  .exact⟨b,a,k,o,n,d,f,c,j,m⟩
  .have l:=c;rw[Wn]at l;exact XL d b a l.2.2 f.parts.1 m i e (by grind[nN])
theorem XL:∀(d:List Nt) (b a:Nat),dP d->dM N b a d->kN T a d->∀i,b<=i->i<b+aB d->Sub N T i
 |[],b,a,_,_,_,i,e,h=>by grind[aB]
 |p::r,b,a,c,f,g,i,e,h=>by
  rw[dP]at c;by_cases j:i<b+nN p
  .exact QV p b a c.1 f.head.1 (g.head c.1).1 i e j
  .exact XL r (b+nN p) (a+nT p) c.2 f.head.2 (g.head c.1).2 i W (by grind[aB])
end
def GW{b e}{a}(d:Wn a)(i:jM a.k)(h:JJ T e a):Pz T (bW b e a):=by
 obtain⟨o,rfl⟩:=uA d i;cases o with
 |none=>exact .inl K
 |some t=>
  have:=yR t;obtain⟨c,f,h,rfl,g⟩:=h;have k:=d;obtain⟨l,m⟩:=MN t k c g;have j:Q (c++gN (Q c) t)=Q c+fG t:=by rw[qQ,tM]
  rw[gL]at h;have n:Q T=Q c+fG t+Q f:=by rw[h,qQ,j]
  refine .inr ⟨Q c+fG t-1,by grind[bW],W,?_⟩;grind[tr,fG,vA,Hg]
theorem oI.of{i}{n}(h:oI N T i n.fl):oI N T i n:=⟨h.k,h.ty,h.k6,h.k7,h.k1,h.k2,h.mz,h.ny,h.t9,h.tw,h.l6,h.sk,h.ly,h.ku,h.o7,h.o6,h.tu,h.ls⟩
def Em.pe{b a i}{p}(h:Em N b a p)(d:aP p.k)(f:b+nN p<=i):Pe N i (bW b a p):=by
 obtain⟨j,e,_,g,c,k,_⟩:=h.kd d.1;exact⟨j,e,W,c,η⟩
def Em.pk{b a i}{p}{k}(h:Em N b a p)(m:p.k=k)(d:1<=k)(f:b+nN p<=i):Pk N i k (bW b a p):=by
 obtain⟨j,e,_,g,c,l,_⟩:=h.kd W;exact⟨j,e,W,c,W⟩
def Vz{i}(hi)(h:Sub N T i):oI N T i N[i]:=by
 obtain⟨b,m,a5,u,n,f,S,L,rfl,D⟩:=h;obtain⟨k,_,Z⟩:=S.parts;refine oI.of ?_;rw[Z];have hs:=M7 L;cases hs with
 |n1 n h=>constructor<;>simp[bV]
 |n2 u h=>constructor<;>simp[bV]
 |n3 n h=>constructor<;>simp[bV]
 |n4=>constructor<;>simp[bV]
 |n5 u h=>constructor<;>simp[bV]
 |n6 f a c l g o q G w=>
  have R:=dM.split k;have s:∀x∈bD b m f,Pk N (b+aB (f++[a,c])) 16 x:=λx s=>by
   obtain⟨p,r,j,e,A,h,B,_⟩:=R.1.nw (λp r=>η) x s;exact⟨j,e,by grind[yN],h,η⟩
  have ha:Pz T (bW (b+aB f) (m+cK f) a):=GW o q ((D.drop λp r=>(l p r).1).head o).1;have hc:=R.2.head.2.head.1.pk (i:=b+aB (f++[a,c])) w ζ (by grind[yN,aB]);have F:bD b m (f++[a,c])=bD b m f++[bW (b+aB f) (m+cK f) a,bW (b+aB f+nN a) (m+cK f+nT a) c]:=by rw[vG];rfl
  have y:(bD b m<|f++[a,c]).dropLast.dropLast=bD b m f:=by rw[F];simp
  have v:(bD b m<|f++[a,c]).dropLast.getLastD 0=bW (b+aB f) (m+cK f) a:=by rw[F];simp[List.getLastD_eq_getLast?]
  have M:(bD b m<|f++[a,c]).getLastD 0=bW (b+aB f+nN a) (m+cK f+nT a) c:=by rw[F];simp[List.getLastD_eq_getLast?]
  generalize bD b m (f++[a,c])=a4 at*;constructor<;>simp[bV];grind
 |n7 a f l g o=>
  have H:∀p∈a::f,aP p.k:=λp r=>η;have s:∀x∈bD b m (a::f),Pe N (b+aB (a::f)) x:=λx s=>by
   obtain⟨p,r,j,e,A,h,B,_⟩:=k.nw (λp r=>(H p r).1) x s;exact⟨j,e,A,h,η⟩
  constructor<;>simp[bV,bD];grind[bD]
 |n8 u a z l g=>
  have o:=k.head.1.pe (i:=b+aB [a]) g (by grind[aB]);constructor<;>simp[bV,bD];omega
 |n9 a c l g o q=>
  have y:=k.head.1.pe (i:=b+aB [a,c]) g (by grind[aB]);have v:=k.head.2.head.1.pe (i:=b+aB [a,c]) q (by grind[aB]);constructor<;>simp[bV,bD];grind
 |n10 f l g=>
  have P:∀p∈f,1<=p.k:=λp r=>η;have s:∀x∈bD b m f,Pk N (b+aB f) 15 x/\S6 (aA N x).text:=λx s=>by
   obtain⟨p,r,j,e,A,h,B,a2⟩:=k.nw P x s;refine⟨⟨j,e,A,h,η⟩,?_⟩;have:(aA N x).text=p.tx:=by
    unfold aA;rw[e,tQ,lQ,gQ h];exact a2
   rw[this];obtain⟨L,H⟩:=l p r;have hs:=M7 L;cases hs<;>simp[õ]at H;grind[Nt.tx]
  have hn:=k.rv P;constructor<;>simp[bV];grind
 |n11 f l=>
  have s:∀x∈bD b m f,Pe N (b+aB f) x:=λx s=>by
   obtain⟨p,r,j,e,A,h,B,_⟩:=k.nw (λp r=>(l p r).2.1) x s;exact⟨j,e,A,h,η⟩
  constructor<;>simp[bV];omega
 |n12 u a c z l g o q=>
  have y:=k.head.1.pe (i:=b+aB [a,c]) g (by grind[aB]);have v:=k.head.2.head.1.pe (i:=b+aB [a,c]) q (by grind[aB]);constructor<;>simp[bV,bD]<;>grind
 |n13 u a z l g=>
  have o:=k.head.1.pe (i:=b+aB [a]) g (by grind[aB]);constructor<;>simp[bV,bD]<;>grind
 |n14 a t l g o=>
  have y:=k.head.1.pe (i:=b+aB [a,.ty<|C t]) g (by grind[aB]);have v:Py T (bW (b+nN a) (m+nT a)<|.ty<|C t):=by
   obtain h|h:=GW (a:=.ty<|C t) o (.inr K) ((D.head l).2.head o).1
   .grind[yR,bW]
   .omega
  constructor<;>simp[bV,bD];grind
 |n15 u a z l g=>
  have o:=k.head.1.pe (i:=b+aB [a]) g (by grind[aB]);constructor<;>simp[bV,bD];omega
 |n16 u a z l g=>
  have v:Pz T (bW b m a):=GW l g (D.head l).1;constructor<;>simp[bV,bD];omega
 |n17 u a c z l g o q=>
  have y:Pz T (bW b m a):=GW l g (D.head l).1;have v:=k.head.2.head.1.pe (i:=b+aB [a,c]) q (by grind[aB]);constructor<;>simp[bV,bD];grind
 |n18 u a z l g=>
  have o:=k.head.1.pe (i:=b+aB [a]) g (by grind[aB]);constructor<;>simp[bV,bD];omega
 |n19 u a c z l g o q=>
  have y:=k.head.1.pe (i:=b+aB [a,c]) g (by grind[aB]);have v:=k.head.2.head.1.pe (i:=b+aB [a,c]) q (by grind[aB]);constructor<;>simp[bV,bD];grind
 |n20 a c d l g o q G w=>
  have y:=k.head.1.pe (i:=b+aB [a,c,d]) g (by grind[aB]);have v:=k.head.2.head.1.pe (i:=b+aB [a,c,d]) q (by grind[aB]);have M:=k.head.2.head.2.head.1.pe (i:=b+aB [a,c,d]) w (by grind[aB]);constructor<;>simp[bV,bD];grind
 |n21 a l g=>
  have o:=k.head.1.pe (i:=b+aB [a]) g (by grind[aB]);constructor<;>simp[bV,bD];omega
 |n22 a c d l g o q G w=>
  have y:=k.head.1.pe (i:=b+aB [a,c,d]) g (by grind[aB]);have v:=k.head.2.head.1.pk (i:=b+aB [a,c,d]) q ζ (by grind[aB]);have M:bW (b+nN a+nN c) (m+nT a+nT c) d=-1\/Pk N (b+aB [a,c,d]) 26 (bW (b+nN a+nN c) (m+nT a+nT c) d):=by
   obtain w|w:=w
   .exact .inr (k.head.2.head.2.head.1.pk w ζ<|by grind[aB])
   .obtain⟨a3,rfl⟩:=uA G<|.inl w;cases a3 with
    |none=>exact .inl K
    |some t=>grind[õ]
  constructor<;>simp[bV,bD];grind
 |n23 a c l g o q=>
  have y:=k.head.1.pe (i:=b+aB [a,c]) g (by grind[aB]);have v:=k.head.2.head.1.pk (i:=b+aB [a,c]) q ζ (by grind[aB]);constructor<;>simp[bV,bD];grind
 |n24 a l g=>
  have o:=k.head.1.pe (i:=b+aB [a]) g (by grind[aB]);constructor<;>simp[bV,bD];omega
 |n25 a l g=>
  have o:=k.head.1.pe (i:=b+aB [a]) g (by grind[aB]);constructor<;>simp[bV,bD];omega
 |n26 f l=>
  have s:∀x∈bD b m f,∃j:Nat,x=j/\j<b+aB f:=λx s=>by
   obtain⟨p,r,j,e,A,h,B,_⟩:=k.nw (λp r=>η) x s;grind
  constructor<;>simp[bV];omega
def bJ.ew{a}(h:bJ N T a)(i)(c):oI N T i N[i]:=by
 have b:Em N 0 0 (.nd 26 [] 0 a):=⟨[],[],by simp[h.ey],K⟩;have e:Q N=nN (.nd 26 [] 0 a):=by
  have:=congrArg Q h.ey;rw[lZ,R6]at this;exact this
 have d:JJ T 0 (.nd 26 [] 0 a):=⟨[],[],by rw[gL,h.types];simp,K,GP⟩;exact Vz c (QV _ 0 0 (mM h.wn) b d i (wQ _) W)
end
structure Vl where
 g:Int
 n:Int
 t:bZ
 h:Option Nat
def Vl.beq(a b:Vl):Bool:=a.g==b.g&&a.n==b.n&&a.t==b.t&&a.h==b.h
def vN(n:Int):Vl:=⟨1,n,[],none⟩
def vT(t:bZ):Vl:=⟨4,0,t,none⟩
def vO:Vl:=⟨8,0,[],none⟩
def vB(b:Bool):Vl:=⟨2,if b then 1 else 0,[],none⟩
def Vl.j8(v:Vl):Bool:=!v.beq vO&&!v.beq (vB κ)
def pA(g:Int):bZ:=if g=1 then [110,117,109] else if g=2 then [98,111,111,108] else if g=4 then [116,101,120,116] else if g=8 then [110,117,108,108] else if g=16 then [111,98,106,101,99,116] else if g=32 then [97,114,114,97,121] else [102,117,110,99,116,105,111,110]
def Vl.ma(v:Vl):bZ:=if v.g=1 then Lib.itoa v.n else if v.g=2 then Lib.formatBool (v.n==1) else if v.g=4 then v.t else pA v.g
structure Th where
 k:Int
 p:bZ->Option Vl
 l:List Vl
 nd:Int
 sc:Option Nat
structure Sc where
 o:Int->Option Vl
 up:Option Nat
structure Co where
 ca:Nat
 th:Nat
 T:List Th
 S:List Sc
structure Ms where
 c:Co
 fu:Nat
 ln:List bZ
 ev:List<|Int×Int
inductive Rr(α:Type) where
 |ok (a:α) (s:Ms)
 |over (e i:Int) (s:Ms)
 |back (v:Vl) (s:Ms)
 |stk
inductive Rc(α:Type) where
 |ok (a:α) (c:Co)
 |over (e:Nat) (i:Int)
 |stk
def X(a):=Ms->Rr a
def X.bd{b c}(m:X b)(k:b->X c):X c:=λs=>match m s with
 |.ok a s=>k a s
 |.over e i s=>.over e i s
 |.back v s=>.back v s
 |.stk=>.stk
def X.cat(m:X<|List Vl):X (List Vl):=λs=>match m s with
 |.ok _ s=>.ok [vO] s
 |.over e i s=>.over e i s
 |.back v s=>.ok [v] s
 |.stk=>.stk
def bR{b}(f:Co->Rc b):X b:=λs=>match f s.c with
 |.ok a c=>.ok a {s with c:=c}
 |.over e i=>.over (e+3) i s
 |.stk=>.stk
def aF{b}(a:b):X b:=bR λc=>.ok a c
def aU:X Unit:=λs=>if s.fu=0 then .over 4 (-1) s else .ok () {s with fu:=s.fu-1}
def vX(l:bZ):X Unit:=λs=>.ok () {s with ln:=s.ln++[l]}
def ret(v:Vl):X (List Vl):=λs=>.back v s
def dJ(G:Int->Option Int)(i:Int)(v:Vl):X Vl:=λs=>match G i with
 |none=>.ok v s
 |C t=>if û Õ χ v.g t=0 then .over 2 i s else .ok v {s with ev:=s.ev++[(i,v.g)]}
def bX(i:Int):X Unit:=bR λc=>if c.th=2000 then .over 3 i else .ok () {c with th:=c.th+1}
def eO(i:Int)(v:Vl)(g:Int):X Unit:=bR λc=>if v.g=g then .ok () c else .over 0 i
def fR(v:Vl):X Th:=bR λc=>match v.h.bind (c.T[·]?) with
 |C t=>.ok t c
 |none=>.stk
def eL(t:Th):X Nat:=bR λc=>.ok (Q c.T) {c with T:=c.T++[t]}
def fL(v:Vl)(t:Th):X Unit:=bR λc=>.ok () {c with T:=c.T.set (v.h.getD 0) t}
def fM(a:Option Nat):X Nat:=bR λc=>.ok (Q c.S) {c with S:=c.S++[⟨λ_=>none,a⟩]}
def eY(j:Nat)(x:Int)(v:Vl):X Unit:=bR λc=>.ok () {c with S:=c.S.modify j λq=>⟨λy=>if y=x then C v else q.o y,q.up⟩}
def W9(S:List Sc)(x:Int):Nat->Option Nat->Option Nat
 |0,_=>none
 |_,none=>none
 |k+1,C j=>match S[j]? with
  |none=>none
  |C q=>if (q.o x).isSome then C j else W9 S x k q.up
def iQ(x:Int)(a:Option Nat):X Nat:=bR λc=>match W9 c.S x (Q c.S) a with
 |C j=>.ok j c
 |none=>.stk
def jA(j:Nat)(x:Int):X Vl:=bR λc=>match (c.S[j]?).bind (·.o x) with
 |C v=>.ok v c
 |none=>.stk
def wr(n:Int):Int:=(n+2147483648) % 4294967296-2147483648
def mD(i:Int)(sg:bZ)(a b:Vl):X Vl:=
 if sg=[61,61] then aF<|vB<|a.beq b
 else if sg=[43]/\a.g=4 then (eO i b 4).bd λ_=>aF<|vT<|(a.t++b.t).take 200
 else (eO i a 1).bd λ_=>(eO i b 1).bd λ_=>aF<|if sg=[43] then vN (wr<|a.n+b.n) else if sg=[45] then vN (wr<|a.n-b.n) else if sg=[42] then vN (wr<|a.n*b.n) else vB<|decide<|a.n<b.n
def kP(i:Int)(sg:bZ)(v:Vl):X Vl:=
 if sg=[33] then aF (vB<|!v.j8) else if sg=[116,121,112,101,111,102] then aF (vT<|pA v.g) else (eO i v 1).bd λ_=>aF<|vN<|wr<|-v.n
def mB(i:Int)(v:Vl)(x:bZ):X Vl:=
 if v.g=32/\x=[108,101,110,103,116,104] then (fR v).bd λt=>aF<|vN<|wr (Q t.l)
 else (eO i v 16).bd λ_=>(fR v).bd λt=>aF<|(t.p x).getD vO
def mY(i:Int)(v a:Vl):X Vl:=(eO i v 32).bd λ_=>(eO i a 1).bd λ_=>(fR v).bd λt=>aF<|if 0<=a.n then t.l.getD a.n.toNat vO else vO
def mC(i:Int)(x:bZ)(o v:Vl):X Unit:=(eO i o 16).bd λ_=>(fR o).bd λt=>fL o {t with p:=λy=>if y=x then C v else t.p y}
def lE(i:Int)(o a v:Vl):X Unit:=(eO i o 32).bd λ_=>(eO i a 1).bd λ_=>(fR o).bd λt=>
 if 0<=a.n/\a.n.toNat<Q t.l then fL o {t with l:=t.l.set a.n.toNat v}
 else if a.n=Q t.l then (bX i).bd λ_=>fL o {t with l:=t.l++[v]}
 else bR λ_=>.over 0 i
def iG(G:Int->Option Int):uZ->List Vl->Nat->X Unit
 |[],_,_=>aF ()
 |p::l,a,j=>(dJ G p<|a.headD vO).bd λv=>(eY j p v).bd λ_=>iG G l a.tail j
def parts(b:List bZ)(a:List Vl):bZ->Option Vl:=(b.zip a).foldl (λf p y=>if y=p.1 then C p.2 else f y) λ_=>none
inductive Md where
 |e (i:Int)
 |v (i:Int)
 |vs (l:uZ)
 |b (i:Int)
 |ss (l:uZ)
 |s (i:Int)
 |w (i:Int)
def r1(r:List Vl):Vl:=r.headD vO
def rn(N:List Nd)(e:Int->Int)(G:Int->Option Int):Nat->Md->Option Nat->X (List Vl)
 |0,_,_=>λ_=>.stk
 |k+1,.v i,d=>aU.bd λ_=>(rn N e G k (.e i) d).bd λr=>(dJ G i<|r1 r).bd λv=>aF [v]
 |_+1,.vs [],_=>aF []
 |k+1,.vs<|i::l,d=>(rn N e G k (.v i) d).bd λr=>(rn N e G k (.vs l) d).bd λq=>aF<|r1 r::q
 |k+1,.b i,d=>(fM d).bd λj=>rn N e G k (.ss (aA N i).M)<|C j
 |_+1,.ss [],_=>aF []
 |k+1,.ss<|i::l,d=>aU.bd λ_=>(rn N e G k (.s i) d).bd λ_=>rn N e G k (.ss l) d
 |k+1,.w i,d=>(rn N e G k (.v (aA N i).a) d).bd λr=>if (r1 r).j8 then (rn N e G k (.b (aA N i).b) d).bd λ_=>rn N e G k (.w i) d else aF []
 |k+1,.s i,d=>
  let n:=aA N i;let v:=λi=>rn N e G k (.v i) d;if n.x=17 then (v n.a).bd λr=>(eY (d.getD 0) i<|r1 r).bd λ_=>aF []
  else if n.x=18 then (v n.a).bd λr=>(iQ (e i) d).bd λj=>(eY j (e i)<|r1 r).bd λ_=>aF []
  else if n.x=19 then (v n.a).bd λo=>(v n.b).bd λr=>(mC i n.text (r1 o)<|r1 r).bd λ_=>aF []
  else if n.x=20 then (v n.a).bd λo=>(v n.b).bd λa=>(v n.c).bd λr=>(lE i (r1 o) (r1 a)<|r1 r).bd λ_=>aF []
  else if n.x=21 then (v n.a).bd λr=>(vX (r1 r).ma).bd λ_=>aF []
  else if n.x=22 then (v n.a).bd λr=>if (r1 r).j8 then rn N e G k (.b n.b) d else if n.c=-1 then aF [] else rn N e G k (.b n.c) d
  else if n.x=23 then rn N e G k (.w i) d
  else if n.x=24 then (v n.a).bd λr=>ret<|r1 r
  else (v n.a).bd λ_=>aF []
 |k+1,.e i,d=>
  let n:=aA N i;let v:=λi=>rn N e G k (.v i) d;if n.x=1 then aF [vN<|wr n.n]
  else if n.x=2 then aF [vT n.text]
  else if n.x=3 then aF [vB<|n.n==1]
  else if n.x=5 then (iQ (e i) d).bd λj=>(jA j<|e i).bd λr=>aF [r]
  else if n.x=6 then (bX i).bd λ_=>(eL ⟨64,λ_=>none,[],i,d⟩).bd λj=>aF [⟨64,0,[],C j⟩]
  else if n.x=7 then (v n.a).bd λf=>(rn N e G k (.vs n.M) d).bd λh=>(eO i (r1 f) 64).bd λ_=>
   (bR λc=>if c.ca=40 then .over 2 i else .ok () {c with ca:=c.ca+1}).bd λ_=>(fR<|r1 f).bd λt=>
   (X.cat<|(fM t.sc).bd λj=>(iG G (aA N t.nd).M h j).bd λ_=>rn N e G k (.b (aA N t.nd).a)<|C j).bd λr=>
   (bR λc=>.ok () {c with ca:=c.ca-1}).bd λ_=>aF r
  else if n.x=8 then (v n.a).bd λo=>(mB i (r1 o) n.text).bd λr=>aF [r]
  else if n.x=9 then (v n.a).bd λo=>(v n.b).bd λa=>(mY i (r1 o)<|r1 a).bd λr=>aF [r]
  else if n.x=10 then (rn N e G k (.vs<|n.M.map λx=>(aA N x).a) d).bd λg=>(bX i).bd λ_=>(eL ⟨16,parts (n.M.map λx=>(aA N x).text) g,[],0,none⟩).bd λj=>aF [⟨16,0,[],C j⟩]
  else if n.x=11 then (rn N e G k (.vs n.M) d).bd λg=>(bX i).bd λ_=>(eL ⟨32,λ_=>none,g,0,none⟩).bd λj=>aF [⟨32,0,[],C j⟩]
  else if n.x=12 then (v n.a).bd λa=>(v n.b).bd λb=>(mD i n.text (r1 a)<|r1 b).bd λr=>aF [r]
  else if n.x=13 then (v n.a).bd λa=>(kP i n.text<|r1 a).bd λr=>aF [r]
  else if n.x=14 then v n.a
  else aF [vO]
def eK(a:Nat):Ms:=⟨⟨0,0,[],[]⟩,a,[],[]⟩
def jL(N:List Nd)(b:Int->Int)(G:Int->Option Int)(a:Nat):Option (Int×Int×Ms):=
 match rn N b G (8*a+20) (.b<|(Q N:Int)-1) none (eK a) with
 |.ok _ s=>C (1,-1,s)
 |.over e i s=>C (e,i,s)
 |_=>none
structure Lg(N:List Nd)(nm:Int->Int)(G G':Int->Option Int) where
 R:{α:Type}->X α->X α->Prop
 stk:∀k md sc,R (λ_=>.stk)<|rn N nm G' k md sc
 bd:∀{α β:Type} {m m':X α} {k k':α->X β},R m m'->(∀a,R (k a)<|k' a)->R (m.bd k) (m'.bd k')
 cat:∀{m m':X (List Vl)},R m m'->R m.cat m'.cat
 co:∀{α:Type} (f:Co->Rc α),R (bR f)<|bR f
 jv:R aU aU
 uj:∀l,R (vX l)<|vX l
 ret:∀v,R (ret v)<|ret v
 lq:∀i v,R (dJ G i v)<|dJ G' i v
section
variable{N:List Nd}{a:Int->Int}{G G':Int->Option Int}(L:Lg N a G G')
theorem Lg.fe{c}(b:c):L.R (aF b) (aF b):=L.co _
def Lg.ite{g}{c}[Decidable c]{d b e f:X g}(h:L.R d e)(k:L.R b f):L.R (if c then d else b) (if c then e else f):=η
def ZA:∀(l) (b) (j),L.R (iG G l b j)<|iG G' l b j
 |[],_,_=>by rw[iG,iG];exact L.co _
 |p::l,b,j=>L.bd (L.lq _ _) λ_=>L.bd (L.co _) λ_=>ZA l b.tail j
def Pl(i)(x)(c b):L.R (mD i x c b) (mD i x c b):=by
 unfold mD;split
 .exact L.co _
 split
 .exact L.bd (L.co _) λ_=>L.co _
 .exact L.bd (L.co _) λ_=>L.bd (L.co _) λ_=>L.co _
def Pf(i)(x)(b):L.R (kP i x b) (kP i x b):=by
 unfold kP;repeat' split
 all_goals first|exact L.co _|exact L.bd (L.co _) λ_=>L.co _
def Ov(i)(v)(x):L.R (mB i v x) (mB i v x):=by
 unfold mB;split
 .exact L.bd (L.co _) λ_=>L.co _
 .exact L.bd (L.co _) λ_=>L.bd (L.co _) λ_=>L.co _
def wm(i)(v b):L.R (mY i v b) (mY i v b):=L.bd (L.co _) λ_=>L.bd (L.co _) λ_=>L.bd (L.co _) λ_=>L.co _
def Pi(i)(x)(o v):L.R (mC i x o v) (mC i x o v):=L.bd (L.co _) λ_=>L.bd (L.co _) λ_=>L.co _
def Oz(i)(o b v):L.R (lE i o b v) (lE i o b v):=L.bd (L.co _) λ_=>L.bd (L.co _) λ_=>L.bd (L.co _) λ_=>by
 repeat' split
 all_goals first|exact L.co _|exact L.bd (L.co _) λ_=>L.co _
def DZ:∀(k c) (d) (e),k<=c->L.R (rn N a G k d e) (rn N a G' c d e)
 |0,_,_,_,_=>L.stk _ _ _
 |k+1,c,d,e,h=>by
  obtain⟨c,rfl⟩:∃j,c=j+1:=⟨c-1,W⟩;have b:=λd e=>DZ k c d e W;cases d with
  |v i=>exact L.bd L.jv λ_=>L.bd (b _ _) λ_=>L.bd (L.lq _ _) λ_=>L.co _
  |vs l=>
   cases l with
   |nil=>rw[rn,rn];exact L.co _
   |cons i l=>exact L.bd (b _ _) λ_=>L.bd (b _ _) λ_=>L.co _
  |b i=>exact L.bd (L.co _) λ_=>b _ _
  |ss l=>
   cases l with
   |nil=>rw[rn,rn];exact L.co _
   |cons i l=>exact L.bd L.jv λ_=>L.bd (b _ _) λ_=>b _ _
  |w i=>
   refine L.bd (b _ _) λr=>?_;split
   .exact L.bd (b _ _) λ_=>b _ _
   .exact L.co _
  |s i=>
   rw[rn,rn];dsimp only;refine L.ite (L.bd (b _ _) λ_=>L.bd (L.co _) λ_=>L.co _) ?_;refine L.ite (L.bd (b _ _) λ_=>L.bd (L.co _) λ_=>L.bd (L.co _) λ_=>L.co _) ?_;refine L.ite (L.bd (b _ _) λ_=>L.bd (b _ _) λ_=>L.bd (Pi L _ _ _ _) λ_=>L.co _) ?_;refine L.ite (L.bd (b _ _) λ_=>L.bd (b _ _) λ_=>L.bd (b _ _) λ_=>L.bd (Oz L _ _ _ _) λ_=>L.co _) ?_;refine L.ite (L.bd (b _ _) λ_=>L.bd (L.uj _) λ_=>L.co _) ?_;refine L.ite ?_ ?_
   .refine L.bd (b _ _) λ_=>?_;repeat' split
    all_goals first|exact b _ _|exact L.co _
   refine L.ite (b _ _) ?_;exact L.ite (L.bd (b _ _) λ_=>L.ret _)<|L.bd (b _ _) λ_=>L.co _
  |e i=>
   rw[rn,rn];dsimp only;refine L.ite (L.co _) ?_;refine L.ite (L.co _) ?_;refine L.ite (L.co _) ?_;refine L.ite (L.bd (L.co _) λ_=>L.bd (L.co _) λ_=>L.co _) ?_;refine L.ite (L.bd (L.co _) λ_=>L.bd (L.co _) λ_=>L.co _) ?_;refine L.ite (L.bd (b _ _) λ_=>L.bd (b _ _) λ_=>L.bd (L.co _) λ_=>L.bd (L.co _) λ_=>L.bd (L.co _) λ_=>L.bd (L.cat<|L.bd (L.co _) λ_=>L.bd (ZA L _ _ _) λ_=>b _ _) λ_=>L.bd (L.co _) λ_=>L.co _) ?_;refine L.ite (L.bd (b _ _) λ_=>L.bd (Ov L _ _ _) λ_=>L.co _) ?_;refine L.ite (L.bd (b _ _) λ_=>L.bd (b _ _) λ_=>L.bd (wm L _ _ _) λ_=>L.co _) ?_;refine L.ite (L.bd (b _ _) λ_=>L.bd (L.co _) λ_=>L.bd (L.co _) λ_=>L.co _) ?_;refine L.ite (L.bd (b _ _) λ_=>L.bd (L.co _) λ_=>L.bd (L.co _) λ_=>L.co _) ?_;refine L.ite (L.bd (b _ _) λ_=>L.bd (b _ _) λ_=>L.bd (Pl L _ _ _ _) λ_=>L.co _) ?_;refine L.ite (L.bd (b _ _) λ_=>L.bd (Pf L _ _ _) λ_=>L.co _) ?_;exact L.ite (b _ _)<|L.co _
end
def Tg(N:List Nd)(b:Nat)(j:Int):Prop:=∃n:Nat,j=n/\∃h,(N[n].x=16\/N[n].x=17)/\(n<b\/N[n].x=17/\Pk N n 6 N[n].a)
def Tg.mono{N}{a b}{j}(h:Tg N a j)(f:a<=b):Tg N b j:=by
 obtain⟨n,e,d,c,h⟩:=h;exact⟨n,e,d,c,h.imp (λx=>W) id⟩
def fD(N:List Nd)(b:Nat)(a:List Fr):Prop:=∀f∈a,∀x j,f x=C j->Tg N b j
def fD.mono{N}{a b}{c}(h:fD N a c)(d:a<=b):fD N b c:=λf g x j e=>(h f g x j e).mono d
def fD.look{N}{b}:∀{fs},fD N b fs->∀{x j},bM x fs=C j->Tg N b j
 |[],_,x,j,e=>by grind[bM]
 |f::r,h,x,j,e=>by
  rw[bM]at e;cases a:bM x r with
  |none=>rw[a]at e;exact h f θ x j e
  |some i=>
   rw[a]at e;simp only[zQ]at e;subst e;exact fD.look (fs:=r) (λf c=>h f<|by simp[c]) a
theorem fD.set{N}{b}{c}(h:fD N b c){x}{j}(i:Tg N b j):fD N b (I2 c x j):=by
 intro f a y k e;unfold I2 at a;obtain a|a:=qW.1 a
 .exact h f ((List.dropLast_sublist _).subset a) y k e
 .simp at a;subst a;unfold Fr.set at e;split at e
  .grind
  .unfold kG at e;rw[List.getLastD_eq_getLast?]at e;cases d:c.getLast? with
   |none=>simp_all[Fr.no]
   |some g=>
    rw[d]at e;exact h g (List.mem_of_getLast? d) y k e
def fD.drop{N}{b}{a}(h:fD N b a):fD N b a.dropLast:=λf c=>h f<|(List.dropLast_sublist _).subset c
def fD.push{N}{b}{c}(h:fD N b c):fD N b (c++[Fr.no]):=by
 intro f a x j e;obtain a|a:=qW.1 a
 .exact h f a x j e
 simp_all[zW,Fr.no]
def xJ(k:Int):Prop:=k=5\/k=18
structure ř(N:List Nd)(a b:Nat)(fs:List Fr)(l:List<|Nat×Int):Prop where
 fr:fD N b fs
 tg:∀p∈l,(∃h:p.1<Q N,xJ N[p.1].x)/\Tg N p.1 p.2
 od:∀i (h:i<Q N),a<=i->i<b->xJ N[i].x->∃j,(i,j)∈l
def cM(N:List Nd)(a b:Nat)(r:Br):Prop:=∀c l,r=.ok c l->ř N a b c l
theorem cM.and{N}{a b c}{r}{k}(h:cM N a b r)(w:∀f,fD N b f->cM N b c (k f)):cM N a c (r.and k):=by
 intro A l e;cases r with
 |bad e i=>grind[Br.and]
 |ok f1 x=>
  rw[Br.jf]at e;have g:=h f1 x K;cases n:k f1 with
  |bad z B=>grind
  |ok f2 y=>
   rw[n]at e;simp at e;obtain⟨rfl,rfl⟩:=e;have m:=w f1 g.fr f2 y n;refine⟨m.fr,λp d=>?_,λi o s t q=>?_⟩
   .obtain d|d:=qW.1 d
    .exact g.tg p d
    .exact m.tg p d
   .by_cases u:i<b
    .obtain⟨j,v⟩:=g.od i o s u q;grind
    .obtain⟨j,v⟩:=m.od i o W t q;grind
theorem cM.grow{N}{a b}{r}(h:cM N a b r)(n:∀h,¬xJ N[b].x):cM N a (b+1) r:=by
 intro d l e;have c:=h d l e;refine⟨c.fr.mono W,c.tg,λi g f k j=>?_⟩;by_cases m:i=b
 .grind
 .exact c.od i g f W j
theorem cM.pop{N}{a b}{r}(h:cM N a b r):cM N a b r.pop:=by
 intro f l e;cases r with
 |bad e i=>grind[Br.pop]
 |ok f1 d=>
  simp only[Br.pop,Br.ok.injEq]at e;obtain⟨rfl,rfl⟩:=e;have c:=h f1 d K;exact⟨c.fr.drop,c.tg,c.od⟩
theorem cM.jk{N}{a b}{r}(h:cM N a b r){x}{j}(d:Tg N b j):cM N a b (r.jk x j):=by
 intro g l e;cases r with
 |bad e i=>grind[Br.jk]
 |ok f1 f=>
  simp only[Br.jk,Br.ok.injEq]at e;obtain⟨rfl,rfl⟩:=e;have c:=h f1 f K;exact⟨c.fr.set d,c.tg,c.od⟩
theorem cM.none{N}{a}{b}(h:fD N a b):cM N a a (.ok b []):=by
 intro f l e;simp at e;obtain⟨rfl,rfl⟩:=e;exact⟨h,λp j=>η,λi g c d=>W⟩
def cM.bad{N}{a b}{e}{i}:cM N a b (.bad e i):=by
 intro f l e;grind
section
variable{N:List Nd}
def XM{b d}{k}{f}{n}{a}(h:Em N b d<|.nd k f n a):∃c,N[b+aB a].x=k:=by
 obtain⟨_,c,e⟩:=h.parts;exact⟨c,(congrArg Nd.x e).trans<|J7 _ _ _ _⟩
mutual
theorem MW:∀(t:Nt) (g:List Fr) (b d:Nat),Wn t->Em N b d t->fD N b g->cM N b (b+nN t) (dU g b t)
 |.ty _,g,b,d,_,_,j=>by simp_all[dU,nN,cM.none]
 |.nd k F n c,g,b,d,q,m,j=>by
  obtain⟨v,p⟩:=XM m;have a3:=q;rw[Wn]at a3;obtain⟨ab,-,x⟩:=a3;have s:=m.parts.1;rw[dU,nN,<-þ];split
  .rename_i T;subst T;have L:c=[]:=by simpa[bO]using ab
   subst L;simp only[aB,Ð]at*;split
   .exact cM.bad
   .rename_i a5 H;intro f ac e;simp at e;obtain⟨rfl,rfl⟩:=e;refine⟨j.mono W,λa6 u=>?_,λi a2 Z hb l=>⟨a5,?_⟩⟩
    .simp at u;subst u;exact⟨⟨v,.inl p⟩,j.look H⟩
    grind
  rename_i T;split
  .rename_i R;split
   .exact cM.bad
   .rename_i a5 H;have hl:=tH c κ g b d x s j;intro f ac e;rw[Br.jf]at e;cases hh:bE κ g b c with
    |bad e2 i2=>grind
    |ok f2 l2=>
     rw[hh]at e;simp only[Br.ok.injEq]at e;obtain⟨rfl,rfl⟩:=e;have D:=hl f2 l2 hh;refine⟨D.fr.mono W,λa6 u=>?_,λi a2 Z hb l=>?_⟩
     .obtain u|u:=qW.1 u
      .simp at u;subst u;exact⟨⟨v,.inr<|p.trans R⟩,(j.look H).mono θ⟩
      .exact D.tg a6 u
     .by_cases ad:i=b+aB c
      .grind
      .obtain⟨j',ae⟩:=D.od i a2 Z W l;grind
  rename_i R;have B:∀h:b+aB c<Q N,¬xJ N[b+aB c].x:=λh l=>by
   rw[p]at l;obtain l|l:=l<;>omega
  split
  .rename_i z;split
   .exact cM.bad
   .have M:Tg N (b+aB c+1) ((b+aB c:Nat):Int):=⟨b+aB c,K,v,.inr<|p.trans z,.inl W⟩;refine cM.jk (cM.grow ?_ B) M;by_cases A:vS c=τ
    .rw[yY A];refine tH c κ _ b d x s<|j.set ⟨b+aB c,K,v,.inr<|p.trans z,.inr ⟨p.trans z,?_⟩⟩;match c,A,s,v,p,m with
     |[a,.nd P a7 n' y],A,s,v,p,m=>
      have af:P=6:=by simpa[vS]using A
      have ea:N[b+aB [a,.nd P a7 n' y]].a=bW (b+nN a) (d+nT a) (.nd P a7 n' y):=by
       obtain⟨_,_,e⟩:=m.parts;have:=congrArg Nd.a e;subst z;exact this
      rw[ea];exact s.head.2.head.1.pk (by grind[õ]) ζ (by grind[aB])
    .rw[wY A];exact tH c κ g b d x s j
  rename_i z;split
  .rename_i G;have L:∃o,c=[.ty o]:=by
    have hs:=M7 q;subst G;cases hs with
    |n16 F a h0 h1 D=>
     grind[uA]
   obtain⟨o,rfl⟩:=L;have aa:aB [Nt.ty o]=0:=by simp[aB,nN]
   rw[aa]at*;have M:Tg N (b+0+1) ((b+0:Nat):Int):=⟨b+0,K,v,.inl<|p.trans G,.inl W⟩;exact cM.jk (cM.grow (b:=b+0) (cM.none W) B) M
  rename_i G;split
  .exact cM.grow (tH c τ _ b d x s j.push).pop B
  split
  .exact cM.grow (tH c κ _ b d x s j.push).pop B
  .exact cM.grow (tH c κ g b d x s j) B
theorem tH:∀(c:List Nt) (w:Bool) (g:List Fr) (b d:Nat),dP c->dM N b d c->fD N b g->cM N b (b+aB c) (bE w g b c)
 |[],w,g,b,d,_,_,j=>by simp_all[bE,aB,cM.none]
 |.ty o::r,w,g,b,d,q,m,j=>by
  rw[dP]at q;rw[bE,aB,nN,Þ];exact tH r w g b (d+nT (.ty o)) q.2 m.head.2 j
 |.nd k F n y::r,w,g,b,d,q,m,j=>by
  rw[dP]at q;rw[bE,aB,<-þ];refine cM.and (b:=b+nN (.nd k F n y)) ?_ λf a9=>tH r w f _ _ q.2 m.head.2 a9;split
  .rename_i S;have a8:k=26:=by simp at S;exact S.2
   have a4:=q.1;rw[Wn]at a4;obtain⟨v,p⟩:=XM m.head.1;rw[nN,<-þ];refine cM.grow (tH y κ g b d a4.2.2 m.head.1.parts.1 j) λh l=>?_;rw[p,a8]at l;obtain l|l:=l<;>exact absurd l ζ
  .exact MW (.nd k F n y) g b d q.1 m.head.1 j
end
def Ym(l):∀(a) (i) (v),(dG a l)[i]?=C v->a[i]?=C v/\(∀j,(i,j) ∉ l)\/(i,v)∈l:=by
 induction l with
 |nil=>intro a i v h;exact .inl ⟨h,λ_ e=>η⟩
 |cons p r c=>
  intro a i v h;obtain⟨b,d⟩|b:=c (a.set p.1 p.2) i v h<;>grind
structure Az(N:List Nd)(ts:uZ):Prop where
 len:Q ts=Q N
 tg:∀i (h:i<Q N),xJ N[i].x->Tg N i (ts.getD i 0)
 no:∀i (h:i<Q N),¬xJ N[i].x->ts.getD i 0=-1
 rg:∀i,i<Q N->-1<=ts.getD i 0/\ts.getD i 0<Q N
def Ey{T}{d}(h:bJ N T d){g}{l}(o:dU [] 0 (.nd 26 [] 0 d)=.ok g l):Az N (dG (ó (Q N)<|-1) l):=by
 have p:Em N 0 0 (.nd 26 [] 0 d):=⟨[],[],by simp[h.ey],K⟩;have u:Q N=nN (.nd 26 [] 0 d):=by
  have:=congrArg Q h.ey;rw[lZ,R6]at this;exact this
 have c:=MW (.nd 26 [] 0 d) [] 0 0 (mM h.wn) p (λf c=>η) g l o;have q:Q (dG (ó (Q N)<|-1) l)=Q N:=by rw[yX];simp
 have key:∀i (b:i<Q N),∃v,(dG (ó (Q N)<|-1) l).getD i 0=v/\((v=-1/\∀j,(i,j) ∉ l)\/(i,v)∈l):=λi b=>by
  have a:(dG (ó (Q N)<|-1) l)[i]?=C ((dG (ó (Q N)<|-1) l).getD i 0):=by
   rw[lQ,gQ W];rfl
  refine⟨_,K,?_⟩;obtain⟨k,s⟩|k:=Ym l _ i _ a<;>grind
 refine⟨q,λi b m=>?_,λi b m=>?_,λi b=>?_⟩
 .obtain⟨v,e,a⟩:=key i b;rw[e];obtain⟨_,a⟩|a:=a
  .obtain⟨j,t⟩:=c.od i b (wQ _) W m;grind
  .exact(c.tg _ a).2
 .obtain⟨v,e,a⟩:=key i b;rw[e];obtain⟨a,_⟩|a:=a
  .omega
  .obtain⟨⟨_,k⟩,_⟩:=c.tg _ a;grind
 .obtain⟨v,e,a⟩:=key i b;rw[e];obtain⟨a,_⟩|a:=a
  .omega
  .obtain⟨_,n,r,w,_⟩:=c.tg _ a;omega
end
def iM:Tr:=.nd 5 [] []
def eV(k:Int):Tr:=.nd k [] []
abbrev Of:=List<|Option Tr
def bB(a:Of)(x:Int):Tr:=(a.getD x.toNat none).getD iM
structure Cx where
 N:List Nd
 T:List Ty
 ts:uZ
 fn:uZ
def lJ(T:List Ty)(n:Nd):Tr:=if n.ty=-1 then iM else tr T n.ty.toNat
def Z5(c:Cx)(a:Of)(j:Int):Tr:=
 if (aA c.N j).ty≠-1 then tr c.T (aA c.N j).ty.toNat else if (aA c.N j).x=17 then bB a (aA c.N j).a else iM
def oO(c:Cx)(n:Nd):Tr:=.nd 9 []<|lJ c.T n::n.M.map (Z5 c [])
def N9(a:Of)(n:Nd):Option Tr:=
 if (bB a n.a).k=5 then C (bB a n.a) else if (bB a n.a).k=8/\n.text=[108,101,110,103,116,104] then C (eV 1) else I8 n.text (bB a n.a).ns (bB a n.a).ks
def M3(a:Of)(n:Nd):Option Tr:=
 if F7 (bB a n.b) (eV 1)=τ then if (bB a n.a).k=5 then C (bB a n.a) else if (bB a n.a).k=8 then C ((bB a n.a).ks.headD iM) else none else none
def aN(c:Cx)(a:Of)(i:Nat):Option (List<|Int×Tr):=
 let n:=aA c.N i;if n.x=7 then if (bB a n.a).k=5 then C [] else C<|n.M.zip (bB a n.a).ks.tail
 else if n.x=14 then C [(n.a,tr c.T n.ty.toNat)]
 else if n.x=17 then if n.ty≠-1 then C [(n.a,tr c.T n.ty.toNat)] else C []
 else if n.x=18 then C [(n.a,Z5 c a<|c.ts.getD i 0)]
 else if n.x=19 then (N9 a n).map λt=>[(n.b,t)]
 else if n.x=20 then (M3 a n).map λt=>[(n.c,t)]
 else if n.x=24 then C [(n.a,lJ c.T<|aA c.N<|c.fn.getD i 0)]
 else C []
def Y1(c:Cx)(a:Of)(i:Nat):Bool:=
 match aN c a i with
 |none=>κ
 |C l=>l.all λp=>F7 (bB a p.1) p.2
def jH(a:Of)(x:Int):Bool:=(bB a x).k==1||(bB a x).k==5
def nD(c:Cx)(a:Of)(i:Nat):Option Tr:=
 let n:=aA c.N i;if (bB a n.a).k=5 then C<|bB a n.a
 else if (bB a n.a).k≠9\/Q n.M≠Q (bB a n.a).ks.tail then none
 else if Y1 c a i=τ then C ((bB a n.a).ks.headD iM) else none
def sT(a:Of)(n:Nd):Option Tr:=
 if (bB a n.a).k=5\/(bB a n.b).k=5 then C iM
 else if (bB a n.a).k≠(bB a n.b).k\/((bB a n.a).k≠1/\(bB a n.a).k≠3) then none
 else C<|eV (bB a n.a).k
def uR(a:Of)(n:Nd):Option Tr:=
 if n.text=[61,61] then C (eV 2) else if n.text=[43] then sT a n
 else if jH a n.a&&jH a n.b then C (if n.text=[60] then eV 2 else eV 1) else none
def uL(a:Of)(n:Nd):Option Tr:=
 if n.text=[33] then C (eV 2) else if n.text=[116,121,112,101,111,102] then C (eV 3) else if jH a n.a then C (eV 1) else none
def DK(N:List Nd)(a:Of)(n:Nd):Tr:=.nd 7 (n.M.map λx=>(aA N x).text)<|n.M.map λx=>bB a (aA N x).a
def BL(a:Of)(n:Nd):Tr:=.nd 8 [] [mE<|n.M.map<|bB a]
def F6(c:Cx)(a:Of)(i:Nat):Option Tr:=
 let n:=aA c.N i;if n.x=1 then C (eV 1) else if n.x=2 then C (eV 3) else if n.x=3 then C<|eV 2
 else if n.x=5 then C (Z5 c a<|c.ts.getD i 0) else if n.x=6 then C<|bB a i
 else if n.x=7 then nD c a i else if n.x=8 then N9 a n else if n.x=9 then M3 a n
 else if n.x=10 then C (DK c.N a n) else if n.x=11 then C<|BL a n
 else if n.x=12 then uR a n else if n.x=13 then uL a n
 else if n.x=14 then C (tr c.T n.ty.toNat) else C<|eV 4
def kS(c:Cx)(a:Of)(i:Nat):Int ⊕ Option Tr:=
 let n:=aA c.N i;if 1<=n.x/\n.x<=14 then match F6 c a i with
  |none=>.inl 9
  |C t=>if 300<sz t then .inl 2 else .inr<|C t
 else if n.x=24/\c.fn.getD i 0=-1 then .inl 4
 else if Y1 c a i=τ then .inr none else .inl 9
def kA(c:Cx):Of:=c.N.map λn=>if n.x=6 then C (oO c n) else none
def rX(c:Cx)(r:(Int×Nat) ⊕ Of)(i:Nat):(Int×Nat) ⊕ Of:=
 match r with
 |.inl e=>.inl e
 |.inr a=>match kS c a i with
  |.inl e=>.inl (e,i)
  |.inr none=>.inr a
  |.inr (C t)=>.inr<|a.set i<|C t
def W5(c:Cx):Nat->(Int×Nat) ⊕ Of
 |0=>.inr<|kA c
 |j+1=>rX c (W5 c j) j
def mW(c:Cx):(Int×Nat) ⊕ Of:=W5 c (Q c.N)
theorem DD(c){e}:∀{j k},W5 c j=.inl e->j<=k->W5 c k=.inl e
 |j,0,h,a=>η
 |j,k+1,h,a=>by
  by_cases b:j=k+1
  .grind
  .rw[W5,DD c h (W:j<=k)];rfl
structure jG(c:Cx):Prop where
 ew:∀i (h:i<Q c.N),oI c.N c.T i c.N[i]
 mw:Az c.N c.ts
 fp:Q c.N<=1200
 jz:Q c.T<=300
 ok:aX c.T
 ls:∀i (h:i<Q c.N),Q c.N[i].M<=1200
 sv:Q c.fn=Q c.N
 uk:∀i,i<Q c.N->c.fn.getD i 0=-1\/∃j:Nat,c.fn.getD i 0=j/\j<Q c.N
 tx:∀nd∈c.N,Q nd.text<=30
theorem B7{N}{i:Nat}(h):aA N i=N[i]:=by
 unfold aA;grind
structure EJ(c:Cx)(of:Of)(j:Nat):Prop where
 len:Q of=Q c.N
 ex:∀i (h:i<Q c.N),aP c.N[i].x->(i<j\/c.N[i].x=6)->∃t,of[i]?=C (C t)
 sm:∀i t,i<j->of[i]?=C (C t)->sz t<=300
 no:∀i (h:i<Q c.N),¬aP c.N[i].x->of[i]?=C none
 later:∀i (h:i<Q c.N),j<=i->of[i]?=C (if c.N[i].x=6 then C (oO c c.N[i]) else none)
def FV(c):∀(j) (l),j<=Q c.N->W5 c j=.inr l->EJ c l j
 |0,l,_,h=>by
  simp only[W5,Sum.inr.injEq]at h;subst h;have key:∀i (h:i<Q c.N),(kA c)[i]?=C (if c.N[i].x=6 then C (oO c c.N[i]) else none):=λi h=>by
   unfold kA;grind
  refine⟨by simp[kA],λi h a d=>?_,λi t h=>W,λi h a=>?_,λi h _=>key i h⟩
  .grind
  .rw[key i h,wY λd=>a<|by rw[d];exact⟨ζ,ζ⟩]
 |j+1,l,w,h=>by
  rw[W5]at h;cases p:W5 c j with
  |inl e=>grind[rX]
  |inr n=>
   rw[p]at h;have b:=FV c j n W p;have m:j<Q c.N:=W;simp only[rX]at h;cases f:kS c n j with
   |inl e=>grind
   |inr o=>
    rw[f]at h;unfold kS at f;simp only[B7 m]at f;cases o with
    |none=>
     simp at h;subst h;have s:¬aP c.N[j].x:=by
      intro a;have q:1<=c.N[j].x/\c.N[j].x<=14:=a;rw[yY q]at f;split at f
      .grind
      .grind
     refine⟨b.len,λi h a d=>b.ex i h a ?_,λi t h g=>?_,b.no,λi h r=>b.later i h W⟩
     .grind
     .by_cases k:i=j
      .subst k;rw[b.no i m s]at g;grind
      .exact b.sm i t W g
    |some t=>
     simp at h;subst h;have v:aP c.N[j].x/\sz t<=300:=by
      by_cases a:1<=c.N[j].x/\c.N[j].x<=14
      .refine⟨a,?_⟩;grind
      .grind
     have y:j<Q n:=by rw[b.len];exact m
     refine⟨by rw[List.length_set];exact b.len,λi h a d=>?_,λi u h g=>?_,λi h a=>?_,λi h r=>?_⟩
     .by_cases k:i=j
      .grind
      .rw[List.getElem?_set_ne W];exact b.ex i h a<|d.imp (λx=>W) id
     .by_cases k:i=j
      .grind
      .rw[List.getElem?_set_ne W]at g;exact b.sm i u W g
     .by_cases k:i=j
      .grind
      .rw[List.getElem?_set_ne W];exact b.no i h a
     .rw[List.getElem?_set_ne W];exact b.later i h W
def aD(n:Nd):uZ:=
 if n.x=10\/n.x=11\/n.x=26 then n.M
 else if n.x=7 then n.a::n.M
 else if n.x=6 then n.M++[n.a]
 else if n.x=8\/n.x=13\/n.x=14\/n.x=15\/n.x=17\/n.x=18\/n.x=21\/n.x=24\/n.x=25 then [n.a]
 else if n.x=9\/n.x=12\/n.x=19\/n.x=23 then [n.a,n.b]
 else if n.x=20 then [n.a,n.b,n.c]
 else if n.x=22 then if n.c=-1 then [n.a,n.b] else [n.a,n.b,n.c]
 else []
theorem Pe.lt{N}{i}{x}(h:Pe N i x):∃j:Nat,x=j/\j<i:=by obtain⟨j,e,h,_⟩:=h;grind
theorem Pk.lt{N}{i}{k x}(h:Pk N i k x):∃j:Nat,x=j/\j<i:=by obtain⟨j,e,h,_⟩:=h;grind
def Gv{N}{T}{i}{n}(h:oI N T i n):∀x∈aD n,∃j:Nat,x=j/\j<i:=by
 intro x b;unfold aD at b;split at b
 .rename_i a;obtain a|a|a:=a
  .exact((h.mz a).1 x b).lt
  .exact(h.ny a x b).lt
  .exact h.tu a x b
 split at b
 .rename_i a;obtain rfl|b:=jW.1 b
  .exact(h.k7 a).1.lt
  .exact((h.k7 a).2 x b).lt
 split at b
 .rename_i a;obtain b|b:=qW.1 b
  .exact((h.k6 a).1 x b).lt
  .simp at b;subst b;exact(h.k6 a).2.2.lt
 split at b
 .rename_i a;simp at b;subst b;obtain a|a|a|a|a|a|a|a|a:=a
  .exact(h.k1 W).lt
  .exact(h.k1 W).lt
  .exact(h.l6 a).1.lt
  .exact(h.k1 W).lt
  .exact(h.ly a).2.lt
  .exact(h.k1 W).lt
  .exact(h.k1 W).lt
  .exact(h.k1 W).lt
  .exact(h.k1 W).lt
 split at b
 .rename_i a;simp at b;by_cases d:n.x=23
  .obtain rfl|rfl:=b
   .exact(h.o6 d).1.lt
   .exact(h.o6 d).2.lt
  .obtain rfl|rfl:=b
   .exact(h.k2 W).1.lt
   .exact(h.k2 W).2.lt
 split at b
 .rename_i a;simp at b;obtain rfl|rfl|rfl:=b
  .exact(h.ku a).1.lt
  .exact(h.ku a).2.1.lt
  .exact(h.ku a).2.2.lt
 split at b
 .rename_i a;have c:=h.o7 a;split at b
  .simp at b;obtain rfl|rfl:=b
   .exact c.1.lt
   .exact c.2.1.lt
  .rename_i e;simp at b;obtain rfl|rfl|rfl:=b
   .exact c.1.lt
   .exact c.2.1.lt
   .obtain h|h:=c.2.2
    .omega
    .exact h.lt
 grind
def bK(b:uZ)(v:Int)(l:uZ):uZ:=l.foldl (λa x=>a.set x.toNat v) b
theorem zI(v):∀(l) (a),Q (bK a v l)=Q a
 |[],a=>K
 |x::l,a=>by rw[bK,List.foldl_cons,<-bK,zI v l];simp
def jC(N:List Nd)(a:uZ)(i:Nat):uZ:=if i+1=Q N then a.set i (-1) else a
def lT(N:List Nd)(a:uZ)(i:Nat):Int:=if (aA N i).x=6 then i else (jC N a i).getD i 0
def eP(N:List Nd)(a:uZ)(i:Nat):uZ:=bK (jC N a i) (lT N a i)<|aD<|aA N i
def mU(N:List Nd):Nat->uZ
 |0=>ó (Q N) 0
 |j+1=>eP N (mU N j)<|Q N-1-j
def kC(N:List Nd):uZ:=mU N (Q N)
def oF(n:Nat)(a:uZ):Prop:=Q a=n/\∀v∈a,-1<=v/\v<n
theorem oF.set{n}{b}(h:oF n b)(i){v:Int}(c:-1<=v/\v<n):oF n (b.set i v):=by
 refine⟨by rw[List.length_set];exact h.1,λu a=>?_⟩;obtain a|rfl:=List.mem_or_eq_of_mem_set a
 .exact h.2 u a
 omega
def oF.qq{n:Nat}{v:Int}(b:-1<=v/\v<n):∀{l a},oF n a->oF n (bK a v l)
 |[],_,h=>h
 |x::l,_,h=>oF.qq b (l:=l)<|h.set x.toNat b
theorem oF.getD{n}{a}(h:oF n a)(c:0<n)(i):-1<=a.getD i 0/\a.getD i 0<n:=by
 rw[lQ];by_cases b:i<Q a
 .rw[gQ b];exact h.2 _<|mQ b
 grind
def YH{N}{a}(h:oF (Q N) a)(i):oF (Q N) (jC N a i):=by
 unfold jC;split
 .exact h.set i W
 omega
def Sq{N}{a}(h:oF (Q N) a){i}(b:i<Q N):-1<=lT N a i/\lT N a i<Q N:=by
 unfold lT;split
 .omega
 .exact(YH h i).getD W i
def YK(N):∀j,j<=Q N->oF (Q N) (mU N j)
 |0,_=>⟨by simp[mU],λv c=>by
  grind[mU,List.length_pos_iff]⟩
 |j+1,b=>by
  have a:=YK N j W;rw[mU,eP];exact(YH a _).qq (Sq a W)
def aQ(N:List Nd)(T:List Ty)(l:List<|Nat×Int):Cx:=⟨N,T,dG (ó (Q N)<|-1) l,kC N⟩
def yP{N}{T}{a}(h:bJ N T a){e}{l}(j:dU [] 0 (.nd 26 [] 0 a)=.ok e l)(m:∀n∈N,Q n.text<=30):jG (aQ N T l):=by
 have d:=YK N (Q N)<|vQ _;refine⟨h.ew,Ey h j,h.fp,h.jz,h.ok,λi b=>?_,d.1,λi b=>?_,m⟩
 .have k:N[i].fl∈iR 0 0 (.nd 26 [] 0 a):=by
   rw[<-h.ey];exact List.mem_map_of_mem<|mQ b
  have c:=NC (.nd 26 [] 0 a) (Y7 _<|mM h.wn) 0 0 _ k;have f:Q N=nN (.nd 26 [] 0 a):=by
   have:=congrArg Q h.ey;rw[lZ,R6]at this;exact this
  have p:=h.fp;have g:N[i].fl.M=N[i].M:=K;rw[g]at c;show Q N[i].M<=1200;omega
 .have q:i<Q N:=b;obtain⟨c,f⟩:=d.getD W i;show (mU N (Q N)).getD i 0=-1\/_;by_cases o:(mU N (Q N)).getD i 0=-1
  .omega
  .exact .inr ⟨((mU N (Q N)).getD i 0).toNat,by show (mU N (Q N)).getD i 0=_;omega,by show _<Q N;omega⟩
theorem Fx:∀a,(∀n∈a,S6 n)->lP a<=Q a*28
 |[],_=>by simp[lP]
 |n::r,h=>by
  have b:=Fx r λm d=>h m η;have c:=(h n θ).2.1;grind[lP,jQ]
def ED:∀l,(∀x∈l,wg x+44<=60*sz x)->dW l+39*Q l<=60*cR l
 |[],_=>by grind[dW,cR]
 |t::r,h=>by
  have a:=ED r λx b=>h x η;grind[dW,cR,jQ]
def C5f{t}(h:Wf t):wg t+44<=60*sz t:=by
 induction h with
 |plain k b g=>grind[wg,sz,dW,cR,lP]
 |obj m c d nd i j a=>
  have b:=ED c a;grind[Fx,wg,sz]
 |arr t _ a=>
  grind[wg,sz,dW,cR,lP]
 |fn t f _ _ l e=>
  have b:=ED f e;grind[wg,sz,dW,cR,lP]
 |uni c d _ a=>
  have b:=ED c a;grind[wg,sz,lP]
abbrev Gm:=Int->Option Int
def vR(g:Gm)(x v:Int):Gm:=λu=>if u=x then C v else g u
def gJ(g:Gm)(x:Int)(t:Tr):Gm:=if jJ t=127 then g else vR g x<|jJ t
def sG(a:Of)(g:Gm)(p:Int×Tr):Gm:=if (bB a p.1).k=5 then gJ g p.1 p.2 else g
def pQ(c:Cx)(a:Of)(g:Gm)(i:Nat):Gm:=
 if (aA c.N i).x=16 then if (aA c.N i).ty≠-1 then gJ g i (tr c.T (aA c.N i).ty.toNat) else g
 else if (aA c.N i).x=7\/(aA c.N i).x=8\/(aA c.N i).x=9 then gJ g i (bB a i) else g
def xI(c:Cx)(a:Of)(g:Gm)(i:Nat):Gm:=((aN c a i).getD []).foldl (sG a)<|pQ c a g i
def pX(c:Cx)(a:Of):Nat->Gm
 |0=>λ_=>none
 |j+1=>xI c a (pX c a j) j
def U5(g:Gm):Nat->List (Int×Int)
 |0=>[]
 |j+1=>U5 g j++(match g j with
  |C v=>[(j,v)]
  |none=>[])
def fS(c:Cx)(a:Of):List (Int×Int):=U5 (pX c a (Q c.N)) (Q c.N)
structure EC(c:Cx)(of:Of)(i:Nat):Prop where
 asked:∃l,aN c of i=C l
 call:(aA c.N i).x=7->(bB of (aA c.N i).a).k=5\/((bB of (aA c.N i).a).k=9/\Q (aA c.N i).M=Q (bB of (aA c.N i).a).ks.tail)
 ret:(aA c.N i).x=24->c.fn.getD i 0≠-1
def uB(c:Cx)(i:Nat)(a b:Of):Prop:=∀j (h),(j<i\/c.N[j].x=6)->a[j]?=b[j]?
theorem uB.a{c}{i}{a b}(h:uB c i a b){x}(f:Pe c.N i x):bB a x=bB b x:=by
 obtain⟨j,rfl,d,e,_⟩:=f;unfold bB;rw[tQ,lQ,lQ,h j e<|.inl d]
theorem uB.has{c}(m:jG c){i}{f g}(h:uB c i f g){x}(p:Tg c.N i x):Z5 c f x=Z5 c g x:=by
 obtain⟨j,rfl,d,q,b⟩:=p;unfold Z5;rw[B7 d];split
 .rfl
 split
 .rename_i l;have k:=((m.ew j d).ly l).2;obtain b|⟨_,n,e,o,a,h6⟩:=b
  .obtain⟨n,e,o,a,r⟩:=k;rw[e];unfold bB;rw[tQ,lQ,lQ,h n a<|.inl W]
  .rw[e];unfold bB;rw[tQ,lQ,lQ,h n a<|.inr h6]
 .rfl
theorem uB.asks{c}(d:jG c){i}(e:i<Q c.N){f g}(h:uB c i f g):aN c f i=aN c g i:=by
 have b:=d.ew i e;have j:=d.mw.tg i e;unfold aN;simp only[B7 e];split
 .rename_i a;rw[h.a (b.k7 a).1]
 split
 .rfl
 split
 .rfl
 split
 .rename_i a;rw[h.has d<|j<|.inr a]
 split
 .rename_i a;unfold N9;rw[h.a (b.k2 W).1]
 split
 .rename_i a;unfold M3;rw[h.a (b.ku a).1,h.a (b.ku a).2.1]
 .rfl
def zx{c}{b m}{j}(q:j<Q c.N)(h:W5 c j=.inr b)(d:W5 c (j+1)=.inr m):uB c j b m:=by
 have l:=FV c j b W h;rw[W5,h]at d;simp only[rX]at d;intro i k g;cases a:kS c b j with
 |inl e=>grind
 |inr o=>
  rw[a]at d;cases o with
  |none=>
   grind
  |some t=>
   simp at d;subst d;by_cases n:i=j
   .subst n;have f:c.N[i].x=6:=by
     obtain g|g:=g
     .omega
     .omega
    unfold kS at a;simp only[B7 k]at a;rw[yY W]at a;have e:F6 c b i=C (bB b i):=by
     unfold F6;simp only[B7 k,f];rfl
    rw[e]at a;simp only at a;split at a
    .grind
    .simp at a;subst a;rw[List.getElem?_set_self<|by rw[l.len];omega];obtain⟨t,p⟩:=l.ex i k (by rw[f];exact⟨ζ,ζ⟩)<|.inr f;rw[p];grind[bB]
   grind
def Jl{c}:∀(k j) {b d},j<=k->k<=Q c.N->W5 c j=.inr b->W5 c k=.inr d->uB c j b d
 |0,j,b,d,p,q,h,a=>by
  have:j=0:=W;subst this;rw[h]at a;simp at a;subst a;exact λ_ _ _=>K
 |k+1,j,b,d,p,q,h,a=>by
  by_cases o:j=k+1
  .subst o;rw[h]at a;simp at a;subst a;exact λ_ _ _=>K
  .cases l:W5 c k with
   |inl e=>grind[DD]
   |inr r=>
    have m:=Jl k j W W h l;have n:=zx W l a;intro i g f;rw[m i g f];exact n i g<|f.imp (λx=>W) id
def BA{c}(e:jG c){f g}{i}(a:i<Q c.N)(d:uB c i f g)(h:EC c f i):EC c g i:=by
 have k:=e.ew i a;refine⟨by rw[<-d.asks e a];exact h.asked,λb=>?_,h.ret⟩;have j:=h.call b;rw[B7 a]at j b⊢;rw[<-d.a (k.k7 b).1];omega
def BC{c}{b l}{j}(g:j<Q c.N)(h:W5 c j=.inr b)(d:W5 c (j+1)=.inr l):EC c b j:=by
 rw[W5,h]at d;simp only[rX]at d;have key:∃o,kS c b j=.inr o:=by
  cases a:kS c b j with
  |inl e=>grind
  |inr o=>simp
 obtain⟨o,a⟩:=key;unfold kS at a;simp only[B7 g]at a;by_cases f:1<=c.N[j].x/\c.N[j].x<=14
 .rw[yY f]at a;cases n:F6 c b j with
  |none=>grind
  |some t=>
   refine⟨?_,λk=>?_,λi=>by grind[B7]⟩
   .unfold aN;simp only[B7 g];split
    .split<;>exact⟨_,K⟩
    split
    .simp
    rw[wY W,wY W,wY W,wY W,wY W];simp
   grind[F6,nD]
 .rw[wY f]at a;split at a
  .grind
  .rename_i i;split at a
   .rename_i m;refine⟨?_,λk=>by grind[B7],λh=>by grind[B7]⟩;grind[Y1]
   grind
structure DQ(c:Cx)(of:Of):Prop where
 inv:EJ c of (Q c.N)
 dn:∀i,i<Q c.N->EC c of i
theorem XT{c}(g:jG c){a}(h:mW c=.inr a):DQ c a:=by
 unfold mW at h;refine⟨FV c _ a (vQ _) h,λi d=>?_⟩;cases b:W5 c i with
 |inl e=>grind[DD]
 |inr j=>
  cases f:W5 c (i+1) with
  |inl e=>grind[DD]
  |inr k=>exact BA g d (Jl _ i W (vQ _) b h)<|BC d b f
def tF(g:Gm):Prop:=∀x v,g x=C v->1<=v/\v<127
def Rk:∀{l},(∀x∈l,1<=jJ x)->l≠[]->1<=lN l
 |t::r,h,_=>by
  grind[lN,jJ,Nat.left_le_or]
theorem ņ{t}(h:Wf t):1<=jJ t:=by
 induction h with
 |plain k c d=>
  grind[jJ,uO]
 |obj f b=>grind[jJ,uO]
 |arr t=>grind[jJ,uO]
 |fn t g=>grind[jJ,uO]
 |uni b e _ a=>
  rw[jJ,yY K];exact Rk a η
def tF.put{g}(h:tF g)(x){t}(b:Wf t):tF (gJ g x t):=by
 unfold gJ;split
 .omega
 .rename_i a;intro y v e;unfold vR at e;split at e
  .grind[zQ,ņ,KK]
  .exact h y v e
def ZL{g}(h:tF g):∀n,(∀p∈U5 g n,(0<=p.1/\p.1<n)/\1<=p.2/\p.2<127)/\(U5 g n).Pairwise λp q=>p.1<q.1
 |0=>by simp[U5]
 |n+1=>by
  obtain⟨c,d⟩:=ZL h n;rw[U5];cases b:g n with
  |none=>
   grind
  |some v=>
   simp only;refine⟨λp a=>?_,?_⟩
   .obtain a|a:=qW.1 a
    .grind
    .simp at a;subst a;have:=h _ _ b;omega
   grind
def uU(a:Of):Prop:=∀(i:Nat) (t),a[i]?=C (C t)->Wf t
def D7{c}[Decidable c]{x y}{t:Tr}(h:(if c then x else y)=C t):(c/\x=C t)\/(¬c/\y=C t):=η
theorem zC:Wf iM:=.plain 5 ζ ζ
theorem uU.a{a}(h:uU a)(x):Wf (bB a x):=by
 unfold bB;rw[lQ];cases b:a[x.toNat]? with
 |none=>exact zC
 |some o=>cases o with
  |none=>exact zC
  |some t=>exact h _ t b
def Wf.rq{t x}(h:Wf t)(b:x∈t.ks):Wf x:=by
 cases h with
 |plain k=>grind[Tr.ks]
 |obj f c _ _ _ a=>exact a x b
 |arr t a=>grind[Tr.ks]
 |fn t g d e=>
  grind[Tr.ks]
 |uni c _ a=>exact a x b
def Wf.head{t}(h:Wf t):Wf (t.ks.headD iM):=by
 cases a:t.ks with
 |nil=>exact zC
 |cons x r=>exact h.rq η
section
variable{c:Cx}(b:jG c){d:Of}(a:uU d)
include b
theorem BK{x}(h:Pz c.T x)(e:x≠-1):Wf (tr c.T x.toNat):=by
 obtain h|⟨j,rfl,hj,_⟩:=h
 .omega
 .rw[tQ];exact BR b.ok j hj
def C9f{i}(k:i<Q c.N):Pz c.T c.N[i].ty:=by
 have e:=b.ew i k;by_cases j:c.N[i].x=6
 .exact(e.k6 j).2.1
 by_cases f:c.N[i].x=14
 .exact .inr (e.l6 f).2
 by_cases g:c.N[i].x=16
 .exact e.sk g
 by_cases h:c.N[i].x=17
 .exact(e.ly h).1
 .exact .inl<|e.ty j f g h
theorem pW(x):Pz c.T (aA c.N x).ty:=by
 by_cases h:x.toNat<Q c.N
 .have:=C9f b h;grind[aA]
 .unfold aA;rw[lQ,List.getElem?_eq_none W];exact .inl K
theorem ZK(x):Wf (lJ c.T<|aA c.N x):=by
 grind[lJ,zC,BK,pW]
include a
theorem NK(x):Wf (Z5 c d x):=by
 unfold Z5;split
 .grind[BK,pW]
 split
 .exact a.a _
 grind[zC]
omit b
theorem Cr{n}{t}(h:N9 d n=C t):Wf t:=by
 unfold N9 at h;split at h
 .simp at h;subst h;exact a.a _
 split at h
 .simp at h;subst h;exact .plain 1 ζ ζ
 .exact(a.a _).rq<|EK h
theorem Ei{n}{t}(h:M3 d n=C t):Wf t:=by
 unfold M3 at h;split at h
 .split at h
  .simp at h;subst h;exact a.a _
  split at h
  .simp only[zQ]at h;subst h;exact(a.a _).head
  grind
 grind
include b
def xu{i}{l}(h:aN c d i=C l):∀p∈l,Wf p.2:=by
 unfold aN at h;simp only at h;intro p k;split at h
 .split at h
  .grind
  .simp at h;subst h;have:=(List.of_mem_zip k).2;exact(a.a _).rq<|List.mem_of_mem_tail this
 split at h
 .simp at h;subst h;simp at k;subst k;have n:=pW b i;by_cases m:(aA c.N i).ty=-1
  .rename_i o _;exfalso;by_cases f:i<Q c.N
   .rw[B7 f]at m;rename_i g;rw[B7 f]at g;obtain⟨j,e,_⟩:=((b.ew i f).l6 g).2;omega
   .rename_i g;grind[aA,kB]
  grind[BK]
 split at h
 .grind[zQ,zW,BK,pW]
 split at h
 .grind[zQ,zW,NK]
 split at h
 .rw[Option.map_eq_some_iff]at h;grind[Cr]
 split at h
 .rw[Option.map_eq_some_iff]at h;grind[Ei]
 grind[zQ,zW,ZK]
omit b in
theorem Ry{i:Nat}{t:Tr}(h:nD c d i=C t):Wf t:=by
 unfold nD at h;simp only at h;split at h
 .simp at h;subst h;exact a.a _
 split at h
 .grind
 split at h
 .simp only[zQ]at h;subst h;exact(a.a _).head
 grind
theorem Uu{i}(o:i<Q c.N){t}(h:F6 c d i=C t):Wf t:=by
 have z:∀k:Int,1<=k->k<=6->∀{u:Tr},C (eV k)=C u->Wf u:=λk l f u h=>by
  simp at h;subst h;exact .plain k l f
 have m:=b.ew i o;unfold F6 at h;rw[B7 o]at h;obtain⟨_,h⟩|⟨_,h⟩:=D7 h
 .grind
 obtain⟨_,h⟩|⟨_,h⟩:=D7 h
 .grind
 obtain⟨_,h⟩|⟨_,h⟩:=D7 h
 .grind
 obtain⟨_,h⟩|⟨_,h⟩:=D7 h
 .grind[zQ,NK]
 obtain⟨_,h⟩|⟨_,h⟩:=D7 h
 .simp at h;subst h;exact a.a _
 obtain⟨_,h⟩|⟨_,h⟩:=D7 h
 .grind[Ry]
 obtain⟨_,h⟩|⟨_,h⟩:=D7 h
 .grind[Cr]
 obtain⟨_,h⟩|⟨_,h⟩:=D7 h
 .grind[Ei]
 obtain⟨p,h⟩|⟨_,h⟩:=D7 h
 .simp at h;subst h;obtain⟨l,f,v⟩:=m.mz p;refine .obj _ _ θ f (λn w=>?_) λx g=>?_
  .grind
  .obtain⟨y,s,rfl⟩:=kZ.1 g;exact a.a _
 obtain⟨_,h⟩|⟨_,h⟩:=D7 h
 .simp at h;subst h;refine .arr _<|Ŧ _ λx g=>?_;obtain⟨y,s,rfl⟩:=kZ.1 g;exact a.a _
 obtain⟨_,h⟩|⟨_,h⟩:=D7 h
 .unfold uR at h;obtain⟨_,h⟩|⟨_,h⟩:=D7 h
  .grind
  obtain⟨_,h⟩|⟨_,h⟩:=D7 h
  .unfold sT at h;grind[zC]
  grind
 obtain⟨_,h⟩|⟨_,h⟩:=D7 h
 .grind[uL]
 obtain⟨q,h⟩|⟨_,h⟩:=D7 h
 .simp at h;subst h;obtain⟨j,e,r,_⟩:=(m.l6 q).2;rw[e,tQ];exact BR b.ok j r
 grind
end
def RM{c}(d:jG c):∀(j) (b),j<=Q c.N->W5 c j=.inr b->uU b
 |0,b,_,h=>by
  simp only[W5,Sum.inr.injEq]at h;subst h;intro i t a;unfold kA at a;rw[List.getElem?_map]at a;cases k:c.N[i]? with
  |none=>grind
  |some n=>
   rw[k]at a;simp only[Option.map_some,zQ]at a;split at a
   .simp only[zQ]at a;subst a;obtain⟨r,rfl⟩:=Î.1 k;have f:=ZK d i;rw[B7 r]at f;refine .fn _ _ f λx s=>?_;obtain⟨y,z,rfl⟩:=kZ.1 s;exact NK d (λi t h=>η) y
   grind
 |j+1,b,w,h=>by
  rw[W5]at h;cases g:W5 c j with
  |inl e=>grind[rX]
  |inr m=>
   rw[g]at h;have v:=RM d j m W g;simp only[rX]at h;cases q:kS c m j with
   |inl e=>grind
   |inr o=>
    rw[q]at h;cases o with
    |none=>
     grind
    |some t=>
     simp at h;subst h;intro i u l;by_cases p:j=i
     .grind[List.getElem?_set_self',kS,F6,Sum.inr.injEq,zQ,Uu]
     .rw[List.getElem?_set_ne p]at l;exact v i u l
def Xd{c}(b:jG c){a}(e:uU a){g}(h:tF g)(i):tF (xI c a g i):=by
 have k:tF (pQ c a g i):=by
  unfold pQ;split
  .split
   .rename_i m;exact h.put _<|BK b (pW b i) m
   omega
  split
  .exact h.put _<|e.a _
  .omega
 unfold xI;cases d:aN c a i with
 |none=>grind
 |some l=>
  have f:=xu b e d;show tF<|l.foldl (sG a) _;clear d;generalize pQ c a g i=j at*;induction l generalizing j with
  |nil=>grind
  |cons p r n=>
   rw[List.foldl_cons];refine n (λq o=>f q η) _ ?_;unfold sG;split
   .exact k.put _ (f p θ)
   omega
def YU{c}(a:jG c){d}(b:uU d):∀j,tF<|pX c d j
 |0=>λx v e=>by grind[pX]
 |j+1=>Xd a b (YU a b j) j
theorem yU:∀l r,cR (l++r)=cR l+cR r
 |[],r=>by simp[cR]
 |t::l,r=>by rw[jZ,cR,cR,yU l r];omega
mutual
theorem į:∀t:Tr,cR (flat t)<=sz t
 |.nd k d a=>by
  rw[flat];split
  .have:=MO a;grind[sz]
  grind[cR]
theorem MO:∀l:List Tr,cR (J8 l)<=cR l
 |[]=>by grind[J8,cR]
 |t::r=>by
  have b:=į t;have c:=MO r;grind[J8,yU,cR]
end
theorem TH:∀l a,cR (dd a l)<=cR a+cR l
 |[],a=>by grind[dd,cR]
 |t::r,a=>by
  rw[dd,cR];split
  .have:=TH r a;omega
  .have:=TH r<|a++[t];grind[yU,cR]
def Ľ(l):sz (mE l)<=1+cR l:=by
 grind[mE,sz,cR,TH,J8,MO]
def EA{m}:∀l,(∀x∈l,sz x<=m)->cR l<=Q l*m
 |[],_=>by simp[cR]
 |t::r,h=>by
  have a:=h t θ;have b:=EA r λx c=>h x η;grind[cR,jQ,Nat.add_mul]
section
variable{c:Cx}(a:jG c)
include a
theorem GU{x}(h:Pz c.T x)(e:x≠-1):sz (tr c.T x.toNat)<=300:=by
 obtain h|⟨j,rfl,hj,hs⟩:=h
 .omega
 .have:=a.jz;grind
def C7e(x):sz (lJ c.T<|aA c.N x)<=300:=by
 grind[lJ,iM,sz,cR,GU,pW]
theorem Xb(x):sz (Z5 c [] x)<=300:=by
 grind[Z5,GU,pW,bB,iM,sz,cR]
theorem Sj{i}(e:i<Q c.N):sz (oO c c.N[i])<=400000:=by
 have f:=C7e a i;rw[B7 e]at f;have g:=EA (m:=300) (c.N[i].M.map<|Z5 c []) λx j=>by
  grind[Xb]
 have h:=a.ls i e;grind[lZ,oO,sz,cR]
variable{b:Of}{i:Nat}(d:EJ c b i)
include d
omit a in
theorem uM{x:Int}(h:Pe c.N i x):sz (bB b x)<=300:=by
 obtain⟨j,rfl,e,k,g⟩:=h;obtain⟨t,f⟩:=d.ex j k g<|.inl e;unfold bB;rw[tQ,lQ,f];exact d.sm j t e f
theorem Dg{j}(f:j<Q c.N)(e:c.N[j].x=6):sz (bB b j)<=400000:=by
 obtain⟨t,g⟩:=d.ex j f (by rw[e];exact⟨ζ,ζ⟩)<|.inr e;unfold bB;rw[tQ,lQ,g];by_cases h:j<i
 .have:=d.sm j t h g;grind
 .have:=d.later j f W;grind[Sj]
def ļ{x}(h:Tg c.N i x):sz (Z5 c b x)<=400000:=by
 obtain⟨j,rfl,k,q,g⟩:=h;have p:=pW a (j:Int);unfold Z5;split
 .grind[GU]
 split
 .rename_i f;rw[B7 k]at f⊢;obtain g|⟨_,n,e,o,l,h6⟩:=g
  .obtain⟨n,e,o,l,m⟩:=((a.ew j k).ly f).2;have:=uM d ⟨n,e,W,l,m⟩;omega
  grind[Dg]
 grind[iM,sz,cR]
omit a in
theorem ZH{x:Int}(h:Pe c.N i x){t:Tr}(e:t∈(bB b x).ks):sz t<=300:=by
 have f:=uM d h;have g:=T9 e;omega
omit a in
theorem XY{x:Int}(h:Pe c.N i x):sz ((bB b x).ks.headD iM)<=300:=by
 cases e:(bB b x).ks<;>grind[bB,iM,sz,cR,ZH]
omit a in
def B7d{n:Nd}(e:Pe c.N i n.a){t:Tr}(h:N9 b n=C t):sz t<=300:=by
 unfold N9 at h;obtain⟨_,h⟩|⟨_,h⟩:=D7 h
 .grind[zQ,uM]
 obtain⟨_,h⟩|⟨_,h⟩:=D7 h<;>grind[zQ,eV,sz,cR,ZH,EK]
omit a in
def Qc{n:Nd}(e:Pe c.N i n.a){t:Tr}(h:M3 b n=C t):sz t<=300:=by
 unfold M3 at h;obtain⟨_,h⟩|⟨_,h⟩:=D7 h
 .obtain⟨_,h⟩|⟨_,h⟩:=D7 h
  .grind[zQ,uM]
  grind[XY]
 grind
def Us(g:i<Q c.N){t}(h:F6 c b i=C t):sz t<=1000000:=by
 have F:∀k:Int,∀{u:Tr},C (eV k)=C u->sz u<=1000000:=λk u h=>by
  grind[zQ,eV,sz,cR]
 have f:=a.ew i g;have N:=a.ls i g;unfold F6 at h;rw[B7 g]at h;obtain⟨_,h⟩|⟨_,h⟩:=D7 h
 .grind
 obtain⟨_,h⟩|⟨_,h⟩:=D7 h
 .grind
 obtain⟨_,h⟩|⟨_,h⟩:=D7 h
 .grind
 obtain⟨w,h⟩|⟨_,h⟩:=D7 h
 .simp only[zQ]at h;subst h;have:=ļ a d<|a.mw.tg i g<|.inl w;omega
 obtain⟨G,h⟩|⟨_,h⟩:=D7 h
 .grind[zQ,Dg]
 obtain⟨p,h⟩|⟨_,h⟩:=D7 h
 .unfold nD at h;rw[B7 g]at h;have l:=uM d (f.k7 p).1;have o:=XY d (f.k7 p).1;grind
 obtain⟨z,h⟩|⟨_,h⟩:=D7 h
 .have:=B7d d (f.k1<|.inl z) h;omega
 obtain⟨A,h⟩|⟨_,h⟩:=D7 h
 .have:=Qc d (f.k2<|.inl A).1 h;omega
 obtain⟨r,h⟩|⟨_,h⟩:=D7 h
 .simp at h;subst h;have o:=EA (c.N[i].M.map λx=>bB b (aA c.N x).a) λx m=>by
   obtain⟨y,n,rfl⟩:=kZ.1 m;obtain⟨j,rfl,H,q,M⟩:=(f.mz r).1 y n;rw[B7 q];obtain⟨D,e,L,B⟩:=(a.ew j q).k1 W;exact uM d ⟨D,e,W,B⟩
  grind[lZ,DK,sz]
 obtain⟨s,h⟩|⟨_,h⟩:=D7 h
 .simp at h;subst h;have l:=Ľ<|c.N[i].M.map<|bB b;have o:=EA (c.N[i].M.map<|bB b) λx m=>by
   obtain⟨y,n,rfl⟩:=kZ.1 m;exact uM d<|f.ny s y n
  grind[lZ,BL,sz,cR]
 obtain⟨_,h⟩|⟨_,h⟩:=D7 h
 .unfold uR at h;obtain⟨_,h⟩|⟨_,h⟩:=D7 h
  .grind
  obtain⟨_,h⟩|⟨_,h⟩:=D7 h
  .unfold sT at h;obtain⟨_,h⟩|⟨_,h⟩:=D7 h
   .exact F 5 h
   grind
  grind
 obtain⟨_,h⟩|⟨_,h⟩:=D7 h
 .grind[uL]
 obtain⟨v,h⟩|⟨_,h⟩:=D7 h
 .simp at h;subst h;have l:=(f.l6 v).2;have:=GU a (.inr l) (by obtain⟨j,e,_⟩:=l;omega);omega
 grind
def A5f(k:uU b)(f)(h:c.N[i].x=11):dW (c.N[i].M.map<|bB b)<=25000000:=by
 have j:=a.ew i f;have n:=a.ls i f;have l:=ED (c.N[i].M.map<|bB b) λx e=>by
  obtain⟨y,g,rfl⟩:=kZ.1 e;exact C5f<|k.a y
 have m:=EA (c.N[i].M.map<|bB b) λx e=>by
  obtain⟨y,g,rfl⟩:=kZ.1 e;exact uM d<|j.ny h y g
 grind
end
abbrev Pw(g:Int):Prop:=g=1\/g=2\/g=4\/g=8\/g=16\/g=32\/g=64
def aZ(c:Co)(v:Vl):Prop:=Q v.t<=4000/\(-2147483648<=v.n/\v.n<=2147483647)/\(1<=v.g/\v.g<=64/\(v.g=1\/v.g=2\/v.g=4\/v.g=8\/v.g=16\/v.g=32\/v.g=64))/\match v.h with
 |none=>v.g<16
 |C i=>∃t,c.T[i]?=C t/\t.k=v.g
def iL(c:Co)(a:Option Nat):Prop:=∀j,a=C j->j<Q c.S
structure Gr(c c':Co):Prop where
 T:∀(i:Nat) (t:Th),c.T[i]?=C t->∃t':Th,c'.T[i]?=C t'/\t'.k=t.k
 S:Q c.S<=Q c'.S
theorem Gr.refl(c):Gr c c:=⟨λ_ t h=>⟨t,h,K⟩,vQ _⟩
theorem Gr.trans{a b c}(h:Gr a b)(k:Gr b c):Gr a c:=⟨λi t e=>by
 obtain⟨f,d,g⟩:=h.T i t e;obtain⟨m,j,l⟩:=k.T i f d;grind,kQ h.S k.S⟩
def aZ.pw{c}{v}(h:aZ c v):Pw v.g:=h.2.2.1.2.2
def aZ.gr{c a}{v}(h:aZ c v)(g:Gr c a):aZ a v:=by
 obtain⟨d,e,f,b⟩:=h;refine⟨d,e,f,?_⟩;cases j:v.h with
 |none=>grind
 |some i=>
  rw[j]at b;obtain⟨t,k,n⟩:=b;obtain⟨o,l,m⟩:=g.T i t k;grind
def iL.gr{c a}{s}(h:iL c s)(b:Gr c a):iL a s:=λj e=>yQ (h j e) b.S
theorem aZ.lt{c}{v}(h:aZ c v):∀i,v.h=C i->i<Q c.T:=λi e=>by
 obtain⟨_,_,_,a⟩:=h;grind
structure jP(N:List Nd)(c:Co)(t:Th):Prop where
 k:t.k=16\/t.k=32\/t.k=64
 p:∀x v,t.p x=C v->aZ c v
 l:∀v∈t.l,aZ c v
 sc:iL c t.sc
 fq:Q t.l<=1200+c.th
 nd:t.k=64->0<=t.nd/\t.nd<Q N/\(aA N t.nd).x=6
def jP.gr{N}{c a}{t}(h:jP N c t)(b:Gr c a)(f:c.th<=a.th):jP N a t:=
 ⟨h.k,λx v e=>(h.p x v e).gr b,λv d=>(h.l v d).gr b,h.sc.gr b,by have:=h.fq;omega,h.nd⟩
structure iE(N:List Nd)(c:Co):Prop where
 T:∀(i:Nat) (t:Th),c.T[i]?=C t->jP N c t
 S:∀(i:Nat) (q:Sc),c.S[i]?=C q->(∀x v,q.o x=C v->aZ c v)/\∀j,q.up=C j->j<i
 th:c.th<=2000
 ca:c.ca<=40
section
variable{N:List Nd}{c:Co}
def W8(t):Gr c {c with T:=c.T++[t]}:=⟨λi u h=>⟨u,η,K⟩,vQ _⟩
def CF(u:Option Nat):Gr c {c with S:=c.S++[⟨λ_=>none,u⟩]}:=⟨λ_ t h=>⟨t,h,K⟩,θ⟩
def vF(j)(f):Gr c {c with S:=c.S.modify j f}:=⟨λ_ t h=>⟨t,h,K⟩,θ⟩
def tW{j}{t u}(b:c.T[j]?=C t)(a:u.k=t.k):Gr c {c with T:=c.T.set j u}:=⟨λi v h=>η,vQ _⟩
theorem iE.of(h:iE N c){a}(b:Gr c a)(d:c.th<=a.th/\a.th<=2000)(k:a.ca<=40)(g:∀(i:Nat) (t),a.T[i]?=C t->c.T[i]?=C t\/jP N a t)
 (f:∀(i) (q:Sc),a.S[i]?=C q->c.S[i]?=C q\/(∀x v,q.o x=C v->aZ a v)/\∀j,q.up=C j->j<i):iE N a where
 T i t ht:=(g i t ht).elim (λe=>(h.T i t e).gr b d.1) id;S i q hq:=(f i q hq).elim (λe=>⟨λx v l=>((h.S i q e).1 x v l).gr b,(h.S i q e).2⟩) id;th:=d.2;ca:=k
def iE.ko(h:iE N c){t}(b:jP N {c with T:=c.T++[t]} t):iE N {c with T:=c.T++[t]}:=
 h.of (W8 t) ⟨vQ _,h.th⟩ h.ca (λi u d=>η) λi q a=>.inl a
def iE.kr(h:iE N c){u:Option Nat}(g:iL c u):iE N {c with S:=c.S++[⟨λ_=>none,u⟩]}:=
 h.of (CF u) ⟨vQ _,h.th⟩ h.ca (λ_ _ f=>.inl f) (λi q a=>by
  obtain b|b:=Nat.lt_or_ge i (Q c.S)
  .grind
  .simp only at a;rw[List.getElem?_append_right b]at a;obtain e|e:=Nat.eq_zero_or_pos<|i-Q c.S
   .rw[e]at a;simp at a;subst a;exact .inr ⟨λx v k=>η,λj d=>by have:=g j d;omega⟩
   grind)
def iE.ld(h:iE N c){j}{t u}(d:c.T[j]?=C t)(a:u.k=t.k)(e:jP N {c with T:=c.T.set j u} u):iE N {c with T:=c.T.set j u}:=
 h.of (tW d a) ⟨vQ _,h.th⟩ h.ca (λi v f=>η) λi q b=>.inl b
def iE.ke(h:iE N c)(j)(x){v}(f:aZ c v):iE N {c with S:=c.S.modify j λq=>⟨λy=>if y=x then C v else q.o y,q.up⟩}:=
 h.of (vF j _) ⟨vQ _,h.th⟩ h.ca (λ_ _ e=>.inl e) (λi q a=>by
  simp only at a;rw[List.getElem?_modify]at a;split at a
  .cases hs:c.S[i]? with
   |none=>grind
   |some d=>
    rw[hs]at a;rw[Option.map_eq_map,Option.map_some,zQ]at a;subst a;refine .inr ⟨λy u b=>?_,(h.S i d hs).2⟩;dsimp only at b;split at b
    .cases b;exact f.gr<|vF j _
    .exact((h.S i d hs).1 y u b).gr<|vF j _
  grind)
end
def Ca{b}(m:X b):Prop:=∀s,match m s with
 |.ok _ a=>a.c.ca=s.c.ca
 |.back _ a=>a.c.ca=s.c.ca
 |_=>True
section
variable{a b:Type}
theorem Ca.bd{m}{k:a->X b}(h:Ca m)(g:∀c,Ca<|k c):Ca (m.bd k):=λs=>by
 have f:=h s;unfold X.bd;cases e:m s with
 |ok c d=>
  rw[e]at f;have j:=g c d;grind
 |back v d=>grind
 |over x i l=>simp
 |stk=>simp
def Ca.co{f:Co->Rc a}(h:∀c e d,f c=.ok e d->d.ca=c.ca):Ca (bR f):=λs=>by
 grind[bR]
def Ca.ite{c}[Decidable c]{d e:X a}(h:Ca d)(k:Ca e):Ca (if c then d else e):=η
theorem Ca.fe(c:a):Ca (aF c):=Ca.co λ_ _ _ h=>η
theorem Ca.cat{m}(h:Ca m):Ca m.cat:=λs=>by
 have c:=h s;grind[X.cat]
def Ca.jv:Ca aU:=λs=>by
 grind[aU]
def Ca.lq(G)(i)(v):Ca (dJ G i v):=λs=>by
 grind[dJ,û]
def Ca.jm(i)(v)(g):Ca (eO i v g):=Ca.co λc d e h=>η
def Ca.kj(v):Ca (fR v):=Ca.co λc d e h=>η
def Ca.ko(t):Ca (eL t):=Ca.co λ_ _ _ h=>η
def Ca.ld(v)(t):Ca (fL v t):=Ca.co λ_ _ _ h=>η
def Ca.kr(u):Ca (fM u):=Ca.co λ_ _ _ h=>η
def Ca.ke(j)(x)(v):Ca (eY j x v):=Ca.co λ_ _ _ h=>η
def Ca.made(i):Ca (bX i):=Ca.co λc d e h=>η
def Ca.qj(x)(d):Ca (iQ x d):=Ca.co λc e f h=>η
def Ca.so(j)(x):Ca (jA j x):=Ca.co λc d e h=>η
def Oy(i)(x)(c d):Ca (mD i x c d):=by
 unfold mD;exact .ite (.fe _)<|.ite (.bd (.jm _ _ _) λ_=>.fe _)<|.bd (.jm _ _ _) λ_=>.bd (.jm _ _ _) λ_=>.fe _
def Om(i)(x)(c):Ca (kP i x c):=by
 unfold kP;exact .ite (.fe _)<|.ite (.fe _)<|.bd (.jm _ _ _) λ_=>.fe _
def Od(i)(v)(x):Ca (mB i v x):=by
 unfold mB;exact .ite (.bd (.kj _) λ_=>.fe _)<|.bd (.jm _ _ _) λ_=>.bd (.kj _) λ_=>.fe _
def BE(i)(v c):Ca (mY i v c):=.bd (.jm _ _ _) λ_=>.bd (.jm _ _ _) λ_=>.bd (.kj _) λ_=>.fe _
def Oq(i)(x)(o v):Ca (mC i x o v):=.bd (.jm _ _ _) λ_=>.bd (.kj _) λ_=>.ld _ _
def Oi(i)(o c v):Ca (lE i o c v):=.bd (.jm _ _ _) λ_=>.bd (.jm _ _ _) λ_=>.bd (.kj _) λ_=>.ite (.ld _ _) (.ite (.bd (.made _) λ_=>.ld _ _)<|.co λ_ _ _ h=>η)
def QP(G):∀(l) (c) (j),Ca<|iG G l c j
 |[],_,_=>by rw[iG];exact .fe _
 |p::l,c,j=>by rw[iG];exact .bd (.lq _ _ _) λ_=>.bd (.ke _ _ _) λ_=>QP G l c.tail j
def ă{f:Co->Rc a}{s c}{u}(h:bR f s=.back u c):False:=by
 grind[bR]
def Sk{m:X (List Vl)}{s c}{u}(h:m.cat s=.back u c):False:=by
 grind[X.cat]
def zm(i)(v){m:Th->X (List Vl)}(h:∀t,Ca<|m t)(p:∀t s u n,m t s=.back u n->False):Ca ((bR λc=>if c.ca=40 then .over 2 i else .ok () {c with ca:=c.ca+1}).bd λ_=>(fR v).bd λt=>(m t).bd λr=>(bR λc=>.ok () {c with ca:=c.ca-1}).bd λ_=>aF r):=λs=>by
 by_cases l:s.c.ca=40
 .grind[X.bd,bR]
 .have g:(bR λc=>if c.ca=40 then Rc.over 2 i else .ok () {c with ca:=c.ca+1}) s=.ok () {s with c:={s.c with ca:=s.c.ca+1}}:=by simp[bR,l]
  have k:Ca ((fR v).bd m):=.bd (.kj v) h;have d:=k {s with c:={s.c with ca:=s.c.ca+1}};unfold X.bd at d⊢;rw[g];simp only;cases e:fR v {s with c:={s.c with ca:=s.c.ca+1}} with
  |ok t f=>
   rw[e]at d;simp only at d⊢;cases o:m t f<;>simp_all[bR,aF]
  |back u f=>exact(ă e).elim
  |over x j f=>simp
  |stk=>simp
def Et(N)(f)(G):∀(k) (d) (e),Ca<|rn N f G k d e
 |0,d,e=>λs=>by simp[rn]
 |k+1,d,e=>by
  have c:=Et N f G k;cases d with
  |v i=>rw[rn];exact .bd .jv λ_=>.bd (c _ _) λ_=>.bd (.lq _ _ _) λ_=>.fe _
  |vs l=>
   cases l with
   |nil=>rw[rn];exact .fe _
   |cons i l=>rw[rn];exact .bd (c _ _) λ_=>.bd (c _ _) λ_=>.fe _
  |b i=>rw[rn];exact .bd (.kr _) λ_=>c _ _
  |ss l=>
   cases l with
   |nil=>rw[rn];exact .fe _
   |cons i l=>rw[rn];exact .bd .jv λ_=>.bd (c _ _) λ_=>c _ _
  |w i=>rw[rn];exact .bd (c _ _) λ_=>.ite (.bd (c _ _) λ_=>c _ _)<|.fe _
  |s i=>
   rw[rn];dsimp only;refine .ite (.bd (c _ _) λ_=>.bd (.ke _ _ _) λ_=>.fe _) ?_;refine .ite (.bd (c _ _) λ_=>.bd (.qj _ _) λ_=>.bd (.ke _ _ _) λ_=>.fe _) ?_;refine .ite (.bd (c _ _) λ_=>.bd (c _ _) λ_=>.bd (Oq _ _ _ _) λ_=>.fe _) ?_;refine .ite (.bd (c _ _) λ_=>.bd (c _ _) λ_=>.bd (c _ _) λ_=>.bd (Oi _ _ _ _) λ_=>.fe _) ?_;refine .ite (.bd (c _ _) λ_=>.bd (λs=>K) λ_=>.fe _) ?_;refine .ite (.bd (c _ _) λ_=>.ite (c _ _)<|.ite (.fe _)<|c _ _) ?_;refine .ite (c _ _) ?_;exact .ite (.bd (c _ _) λ_=>λs=>K)<|.bd (c _ _) λ_=>.fe _
  |e i=>
   rw[rn];dsimp only;refine .ite (.fe _) ?_;refine .ite (.fe _) ?_;refine .ite (.fe _) ?_;refine .ite (.bd (.qj _ _) λ_=>.bd (.so _ _) λ_=>.fe _) ?_;refine .ite (.bd (.made _) λ_=>.bd (.ko _) λ_=>.fe _) ?_;refine .ite (.bd (c _ _) λ_=>.bd (c _ _) λ_=>.bd (.jm _ _ _) λ_=>zm _ _ (λt=>.cat<|.bd (.kr _) λ_=>.bd (QP _ _ _ _) λ_=>c _ _) λ_ _ _ _ h=>Sk h) ?_;refine .ite (.bd (c _ _) λ_=>.bd (Od _ _ _) λ_=>.fe _) ?_;refine .ite (.bd (c _ _) λ_=>.bd (c _ _) λ_=>.bd (BE _ _ _) λ_=>.fe _) ?_;refine .ite (.bd (c _ _) λ_=>.bd (.made _) λ_=>.bd (.ko _) λ_=>.fe _) ?_;refine .ite (.bd (c _ _) λ_=>.bd (.made _) λ_=>.bd (.ko _) λ_=>.fe _) ?_;refine .ite (.bd (c _ _) λ_=>.bd (c _ _) λ_=>.bd (Oy _ _ _ _) λ_=>.fe _) ?_;refine .ite (.bd (c _ _) λ_=>.bd (Om _ _ _) λ_=>.fe _) ?_;exact .ite (c _ _)<|.fe _
end
def Rr.Fu{a}(r:Rr a)(n:Nat):Prop:=match r with
 |.ok _ s=>s.fu<=n
 |.back _ s=>s.fu<=n
 |_=>True
def Ew(N)(p)(G)(k)(g)(j)(s)(n)(o:s.fu<=n):(rn N p G k g j s).Fu n:=by
 refine DZ (G':=G) {R:=λm _=>∀(s:Ms) n,s.fu<=n->(m s).Fu n,stk:=λ_ _ _ _ _ _=>trivial,bd:=?_,cat:=?_,co:=?_,jv:=?_,uj:=λ_ _ _ h=>h,ret:=λ_ _ _ h=>h,lq:=?_} k k g j (vQ _) s n o
 .intro q t m _ k _ b l s n hs;have:=b s n hs;unfold X.bd;cases e:m s with
  |ok a d=>rw[e]at this;exact l a d n this
  |back v d=>rw[e]at this;exact this
  |over r i d=>trivial
  |stk=>trivial
 .intro m _ b s n hs;have:=b s n hs;unfold X.cat;cases e:m s<;>rw[e]at this<;>first|exact this|trivial
 .intro q f s n hs;unfold bR;cases f s.c with
  |ok a c=>exact hs
  |over e i=>trivial
  |stk=>trivial
 .intro s n hs;unfold aU;split
  .trivial
  .show s.fu-1<=n;omega
 .intro i v s n hs;unfold dJ;split
  .exact hs
  .split
   .trivial
   .exact hs
def C4e{N}{c}{G}{k}{i}{f}{s l}{a}(h:rn N c G k (.v i) f s=.ok a l):l.fu<s.fu:=by
 cases k with
 |zero=>grind[rn]
 |succ k=>
  rw[rn]at h;unfold X.bd aU at h;by_cases m:s.fu=0
  .grind
  .simp only[wY m]at h;have:=Ew N c G k (.e i) f {s with fu:=s.fu-1} (s.fu-1)<|vQ _;cases o:rn N c G k (.e i) f {s with fu:=s.fu-1} with
   |stk=>grind
   |over e j d=>grind
   |back v d=>grind
   |ok b d=>
    rw[o]at h this;simp only at h;have p:d.fu<=s.fu-1:=this;unfold dJ at h;cases g:G i with
    |none=>
     rw[g]at h;simp only[aF,bR,Rr.ok.injEq]at h;grind
    |some t=>
     rw[g]at h;simp only at h;by_cases n:û Õ χ (r1 b).g t=0
     .grind
     .rw[wY n]at h;simp only[aF,bR,Rr.ok.injEq]at h;grind
def Nj{c}(m:X c)(s:Ms)(ϊ:c->Ms->Prop)(B:Vl->Ms->Prop):Prop:=match m s with
 |.ok a b=>ϊ a b
 |.back v b=>B v b
 |.over _ _ _=>True
 |.stk=>False
def vI(s:Ms):Prop:=∀p∈s.ev,Pw p.2
def Rr.Ev{a}(r:Rr a):Prop:=match r with
 |.ok _ s=>vI s
 |.back _ s=>vI s
 |.over _ _ s=>vI s
 |.stk=>True
def Nk{a}(m:X a)(s:Ms)(ϊ:a->Ms->Prop)(B:Vl->Ms->Prop):Prop:=Nj m s ϊ B/\(vI s->(m s).Ev)
section
variable{a f:Type}{m:X a}{s:Ms}{ϊ Q':a->Ms->Prop}{B d:Vl->Ms->Prop}
def Nk.mono(h:Nk m s ϊ B)(g:∀c b,ϊ c b->Q' c b)(e:∀v b,B v b->d v b):Nk m s Q' d:=by
 refine⟨?_,h.2⟩;have h:=h.1;grind[Nj]
theorem Nk.bd{k}{R:f->Ms->Prop}(h:Nk m s ϊ B)(l:∀g j,ϊ g j->Nk (k g) j R B):Nk (m.bd k) s R B:=by
 obtain⟨h,i⟩:=h;unfold Nk Nj X.bd at*;cases e:m s with
 |ok g j=>rw[e]at h i;exact⟨(l g j h).1,λhs=>(l g j h).2<|i hs⟩
 |back v j=>rw[e]at h i;exact⟨h,i⟩
 |over g b c=>rw[e]at i;exact⟨trivial,i⟩
 |stk=>grind
theorem Nk.c{b}(h:Nj (bR b) s ϊ B):Nk (bR b) s ϊ B:=by
 refine⟨h,λhs=>?_⟩;unfold bR;cases b s.c with
 |ok g c=>exact hs
 |over e i=>exact hs
 |stk=>trivial
theorem Nk.fe{b}(h:ϊ b s):Nk (aF b) s ϊ B:=Nk.c h
def Nk.jv{ϊ}(h:s.fu≠0->ϊ () {s with fu:=s.fu-1}):Nk aU s ϊ B:=by
 unfold Nk Nj aU;by_cases b:s.fu=0
 .rw[yY b];exact⟨trivial,λx=>x⟩
 .rw[wY b];exact⟨h b,λx=>x⟩
def Nk.lq{G}{i}{v}{ϊ}(g:Pw v.g)(h:∀c,c.c=s.c->c.fu=s.fu->ϊ v c):Nk (dJ G i v) s ϊ B:=by
 unfold Nk Nj dJ;cases G i with
 |none=>exact⟨h s K K,λx=>x⟩
 |some t=>
  simp only;by_cases e:û Õ χ v.g t=0
  .rw[yY e];exact⟨trivial,λx=>x⟩
  .rw[wY e];refine⟨h _ K K,λhs p b=>?_⟩;obtain b|b:=qW.1 b
   .exact hs p b
   grind
end
structure Le(c c':Co):Prop where
 gr:Gr c c'
 sc:∀(j:Nat) (q:Sc),c.S[j]?=C q->∃q':Sc,c'.S[j]?=C q'/\q'.up=q.up/\∀x,(q.o x).isSome->(q'.o x).isSome
theorem Le.refl(c):Le c c:=⟨Gr.refl c,λ_ q h=>⟨q,h,K,λ_ h=>h⟩⟩
theorem Le.trans{a b c}(h:Le a b)(k:Le b c):Le a c:=⟨h.gr.trans k.gr,λj q e=>by
 obtain⟨f,d,g,i⟩:=h.sc j q e;obtain⟨l,k1,k2,k3⟩:=k.sc j f d;grind⟩
def Le.same{c a}(h:Gr c a)(b:a.S=c.S):Le c a:=⟨h,λ_ q d=>⟨q,η,K,λ_ h=>h⟩⟩
inductive Ii(S:List Sc)(x:Int):Option Nat->Prop
 |here {j:Nat} {q:Sc}:S[j]?=C q->(q.o x).isSome->Ii S x (C j)
 |up {j:Nat} {q:Sc}:S[j]?=C q->Ii S x q.up->Ii S x (C j)
def Ii.le{c d}(h:Le c d){x}{e}(i:Ii c.S x e):Ii d.S x e:=by
 induction i with
 |here b j=>
  obtain⟨l,a,_,g⟩:=h.sc _ _ b;exact .here a<|g _ j
 |up b _ k=>
  obtain⟨l,a,f,_⟩:=h.sc _ _ b;exact .up a<|f ▸ k
def Ii.qj{S}{x}{a}(f:∀(i) (q:Sc),S[i]?=C q->∀j,q.up=C j->j<i)(h:Ii S x a):∀k,(∀j,a=C j->j<k)->∃j,W9 S x k a=C j:=by
 induction h with
 |@here j q b g=>
  intro k c;obtain⟨k,rfl⟩:∃n,k=n+1:=⟨k-1,η⟩;simp_all[W9]
 |@up j q b _ d=>
  intro k c;obtain⟨k,rfl⟩:∃n,k=n+1:=⟨k-1,η⟩;rw[W9,b];simp only;split
  .simp
  .exact d k λl e=>η
abbrev Aw:=Int->Bool->(Int->Prop)->Prop
def wX(A:Aw)(c:Co)(t:Th):Prop:=∃f a,A t.nd f a/\∀j,a j->Ii c.S j t.sc
structure Inv(N:List Nd)(A:Aw)(c:Co):Prop where
 ok:iE N c
 fn:∀(i:Nat) (t:Th),c.T[i]?=C t->t.k=64->wX A c t
def wX.le{A}{c a}{t}(h:wX A c t)(i:Le c a):wX A a t:=by
 obtain⟨f,b,d,e⟩:=h;exact⟨f,b,d,λj g=>(e j g).le i⟩
def Inv.to{N}{A}{c b}(h:Inv N A c)(j:Le c b)(k:iE N b)(f:∀(i:Nat) (t),b.T[i]?=C t->t.k=64->(∃a,c.T[i]?=C a/\a.k=64/\a.nd=t.nd/\a.sc=t.sc)\/wX A b t):Inv N A b:=
 ⟨k,λi t l g=>(f i t l g).elim (λ⟨a,d,e,m,n⟩=>by
  have:=(h.fn i a d e).le j;grind[wX]) id⟩
def kY(N:List Nd)(x:Int):Prop:=0<=x/\x<Q N/\1<=(aA N x).x/\(aA N x).x<=14
def Su(A:Aw)(x:Int)(f:Bool)(b E:Int->Prop):Prop:=∃a,A x f a/\∀j,a j->b j\/E j
def Nn:Int->Prop:=λ_=>False
structure uX(N:List Nd)(nm:Int->Int)(A:Aw):Prop where
 var:∀{i f ό},A i f ό->(aA N i).x=5\/(aA N i).x=18->ό (nm i)
 a:∀{i f ό},A i f ό->(aA N i).x∈[(7:Int),8,9,12,13,14,18,19,20,21,22,23,24,25]->kY N (aA N i).a/\Su A (aA N i).a f ό Nn
 b:∀{i f ό},A i f ό->(aA N i).x∈[(9:Int),12,19,20]->kY N (aA N i).b/\Su A (aA N i).b f ό Nn
 c:∀{i f ό},A i f ό->(aA N i).x=20->kY N (aA N i).c/\Su A (aA N i).c f ό Nn
 l:∀{i f ό},A i f ό->(aA N i).x=7\/(aA N i).x=11->∀x∈(aA N i).M,kY N x/\Su A x f ό Nn
 o:∀{i f ό},A i f ό->(aA N i).x=10->∀x∈(aA N i).M,kY N (aA N x).a/\Su A (aA N x).a f ό Nn
 ab:∀{i f ό},A i f ό->(aA N i).x=22\/(aA N i).x=23->(aA N (aA N i).b).x=26/\Su A (aA N i).b f ό Nn
 ac:∀{i f ό},A i f ό->(aA N i).x=22->(aA N i).c≠-1->(aA N (aA N i).c).x=26/\Su A (aA N i).c f ό Nn
 fn:∀{i f ό},A i f ό->(aA N i).x=6->(aA N (aA N i).a).x=26/\Su A (aA N i).a τ ό (·∈(aA N i).M)
 blk:∀{i f ό},A i f ό->(aA N i).x=26->∀p x r,(aA N i).M=p++x::r->(17<=(aA N x).x/\(aA N x).x<=25)/\Su A x f ό λj=>j∈p/\(aA N j).x=17
 lt:∀{i f ό},A i f ό->(aA N i).x=17->kY N (aA N i).a/\Su A (aA N i).a f ό λj=>j=i/\(aA N (aA N i).a).x=6
 ret:∀{i f ό},A i f ό->(aA N i).x=24->f=τ
 tx:∀i,Q (aA N i).text<=30
 ls:∀i,Q (aA N i).M<=1200
section
variable{N:List Nd}{a:Int->Int}{G:Int->Option Int}{A:Aw}
def Qv(N:List Nd)(A:Aw)(s:Ms)(c:List Vl)(b:Ms):Prop:=(∃v,c=[v]/\aZ b.c v)/\Le s.c b.c/\Inv N A b.c/\b.fu<=s.fu
def Xz(N:List Nd)(A:Aw)(n:Nat)(s:Ms)(c:List Vl)(b:Ms):Prop:=(Q c=n/\∀v∈c,aZ b.c v)/\Le s.c b.c/\Inv N A b.c/\b.fu<=s.fu
def sJ(N:List Nd)(A:Aw)(s:Ms)(_:List Vl)(b:Ms):Prop:=Le s.c b.c/\Inv N A b.c/\b.fu<=s.fu
def Bk(N:List Nd)(A:Aw)(f:Bool)(s:Ms)(v:Vl)(b:Ms):Prop:=f=τ/\aZ b.c v/\Le s.c b.c/\Inv N A b.c/\b.fu<=s.fu
def Nb:Vl->Ms->Prop:=λ_ _=>False
structure Hr(N:List Nd)(A:Aw)(ό:Int->Prop)(sc:Option Nat)(s:Ms):Prop where
 inv:Inv N A s.c
 jo:iL s.c sc
 m9:∀j,ό j->Ii s.c.S j sc
def Hr.on{c}{e}{s b}(h:Hr N A c e s)(d:Le s.c b.c)(f:Inv N A b.c):Hr N A c e b:=⟨f,h.jo.gr d.gr,λj g=>(h.m9 j g).le d⟩
def Hr.su{b c}{d}{s}(h:Hr N A b d s)(f:∀j,c j->b j\/Nn j):Hr N A c d s:=⟨h.inv,h.jo,λj e=>(f j e).elim (h.m9 j) False.elim⟩
theorem Hr.of{b}{d}{s c}(h:Hr N A b d s)(e:c.c=s.c):Hr N A b d c:=⟨e ▸ h.inv,e ▸ h.jo,λj f=>e ▸ h.m9 j f⟩
def C4f(n):-2147483648<=wr n/\wr n<=2147483647:=by
 grind[wr]
theorem xC(c)(n):aZ c (vN<|wr n):=⟨by simp[vN],C4f n,by simp[vN],by simp[vN]⟩
def zE(c){t}(h:Q t<=4000):aZ c (vT t):=⟨h,by simp[vT],by simp[vT],by simp[vT]⟩
theorem uP(c)(b):aZ c (vB b):=by grind[aZ,vB]
theorem sH(c):aZ c vO:=by grind[aZ,vO]
def aZ.kh{c}{v}(h:aZ c v)(d:16<=v.g):∃j t,v.h=C j/\c.T[j]?=C t/\t.k=v.g:=by
 obtain⟨_,_,_,b⟩:=h;grind
def Nk.jm{i g}{v}{s}{ϊ}{B}(h:v.g=g->ϊ () s):Nk (eO i v g) s ϊ B:=by
 refine Nk.c ?_;unfold Nj bR;by_cases b:v.g=g<;>simp_all
def Nk.kj{v}{s}{ϊ}{B}(c:aZ s.c v)(b:16<=v.g)(h:∀j t,v.h=C j->s.c.T[j]?=C t->t.k=v.g->ϊ t s):Nk (fR v) s ϊ B:=by
 obtain⟨j,t,d,e,f⟩:=c.kh b;refine Nk.c ?_;unfold Nj bR;simp_all
def Qo(s:Ms)(v:Vl)(b:Ms):Prop:=b=s/\aZ s.c v
def Wl{i}{sg}{d b}{s}{B}:Nk (mD i sg d b) s (Qo s) B:=by
 unfold mD;split
 .exact Nk.fe ⟨K,uP _ _⟩
 split
 .exact Nk.bd (Nk.jm (ϊ:=λ_ c=>c=s) λ_=>K) λ_ _ e=>Nk.fe ⟨e,zE _ η⟩
 .refine Nk.bd (Nk.jm (ϊ:=λ_ c=>c=s) λ_=>K) λ_ _ e=>Nk.bd (Nk.jm (ϊ:=λ_ c=>c=s) λ_=>e) λ_ _ e=>Nk.fe ⟨e,?_⟩;grind[xC,uP]
theorem Iz(g):Q (pA g)<=8:=by
 unfold pA;repeat' split
 all_goals simp
def Wc{i}{sg}{v}{s}{B}:Nk (kP i sg v) s (Qo s) B:=by
 unfold kP;split
 .exact Nk.fe ⟨K,uP _ _⟩
 split
 .exact Nk.fe ⟨K,zE _<|by grind[Iz]⟩
 .exact Nk.bd (Nk.jm (ϊ:=λ_ b=>b=s) λ_=>K) λ_ _ e=>Nk.fe ⟨e,xC _ _⟩
def Eb{i}{v}{x}{s}{B}(h:Inv N A s.c)(c:aZ s.c v):Nk (mB i v x) s (Qo s) B:=by
 unfold mB;split
 .rename_i g;exact Nk.bd (Nk.kj (ϊ:=λ_ b=>b=s) c W λ_ _ _ _ _=>K) λ_ _ e=>Nk.fe ⟨e,xC _ _⟩
 .refine Nk.bd (Nk.jm (ϊ:=λ_ b=>b=s/\v.g=16) λe=>⟨K,e⟩) λ_ d e=>?_;obtain⟨rfl,g⟩:=e;refine Nk.bd (Nk.kj (ϊ:=λt b=>b=d/\jP N d.c t) c W λj t _ f _=>⟨K,h.ok.T j t f⟩) λt m e=>?_;obtain⟨rfl,l⟩:=e;refine Nk.fe ⟨K,?_⟩;cases k:t.p x with
  |none=>grind[sH]
  |some u=>exact l.p x u k
def Ds{i}{v c}{s}{B}(h:Inv N A s.c)(l:aZ s.c v):Nk (mY i v c) s (Qo s) B:=by
 unfold mY;refine Nk.bd (Nk.jm (ϊ:=λ_ b=>b=s/\v.g=32) λe=>⟨K,e⟩) λ_ m e=>?_;obtain⟨rfl,n⟩:=e;refine Nk.bd (Nk.jm (ϊ:=λ_ b=>b=m) λ_=>K) λ_ d e=>?_;subst e;refine Nk.bd (Nk.kj (ϊ:=λt b=>b=d/\jP N d.c t) l W λj t _ f _=>⟨K,h.ok.T j t f⟩) λt o e=>?_;obtain⟨rfl,k⟩:=e;refine Nk.fe ⟨K,?_⟩;split
 .rw[lQ];cases g:t.l[c.n.toNat]? with
  |none=>grind[sH]
  |some u=>exact k.l u<|List.mem_of_getElem? g
 grind[sH]
def Qu(N:List Nd)(A:Aw)(s:Ms)(b:Ms):Prop:=Le s.c b.c/\Inv N A b.c/\b.fu<=s.fu
def Hq{c b}{t}(h:jP N c t)(d:Gr c b){p}{l}(g:∀x v,p x=C v->aZ b v)(e:∀v∈l,aZ b v)(f:Q l<=1200+b.th):jP N b {t with p:=p,l:=l}:=⟨h.k,g,e,h.sc.gr d,f,h.nd⟩
def OY{o:Vl}{t}{s f}{j}{B:Vl->Ms->Prop}{p:bZ->Option Vl}{l:List Vl}(h:Qu N A f s)(m:o.h=C j)(c:s.c.T[j]?=C t)(n:∀x v,p x=C v->aZ s.c v)(g:∀v∈l,aZ s.c v)(k:Q l<=1200+s.c.th):Nk (fL o {t with p:=p,l:=l}) s (λ_ r=>Qu N A f r) B:=by
 have b:=tW (c:=s.c) (u:={t with p:=p,l:=l}) c K;have d:Le s.c {s.c with T:=s.c.T.set j {t with p:=p,l:=l}}:=Le.same b K;refine Nk.c ?_;unfold Nj bR;simp only[m,Option.getD_some];refine⟨h.1.trans d,h.2.1.to d (h.2.1.ok.ld c K<|Hq (h.2.1.ok.T j t c) b (λx v e=>(n x v e).gr b) (λv q=>(g v q).gr b) k) λi u y w=>.inl ?_,h.2.2⟩;grind
def Wg{i}{x}{o v}{s}{B:Vl->Ms->Prop}(h:Inv N A s.c)(l:aZ s.c o)(n:aZ s.c v):Nk (mC i x o v) s (λ_ b=>Qu N A s b) B:=by
 unfold mC;refine Nk.bd (Nk.jm (ϊ:=λ_ b=>b=s/\o.g=16) λe=>⟨K,e⟩) λ_ k e=>?_;obtain⟨rfl,m⟩:=e;refine Nk.bd (Nk.kj (ϊ:=λt b=>b=k/\∃j,o.h=C j/\k.c.T[j]?=C t) l W λj t f c _=>⟨K,j,f,c⟩) λt p e=>?_;obtain⟨rfl,j,f,c⟩:=e;have g:=h.ok.T j t c;refine OY (l:=t.l) ⟨Le.refl _,h,vQ _⟩ f c (λy u d=>?_) g.l g.fq;have d:=d;split at d
 .grind
 .exact g.p y u d
def JY{i}{s f}{B:Vl->Ms->Prop}{ϊ:Unit->Ms->Prop}(h:Qu N A f s)(g:s.c.th<2000->Qu N A f {s with c:={s.c with th:=s.c.th+1}}->ϊ () {s with c:={s.c with th:=s.c.th+1}}):Nk (bX i) s ϊ B:=by
 have l:=h.2.1.ok.th;refine Nk.c ?_;unfold Nj bR;by_cases e:s.c.th=2000
 .grind
 .simp only[wY e];have d:Le s.c {s.c with th:=s.c.th+1}:=Le.same ⟨λ_ t b=>⟨t,b,K⟩,vQ _⟩ K;exact g W ⟨h.1.trans d,h.2.1.to d (h.2.1.ok.of d.gr ⟨θ,η⟩ h.2.1.ok.ca (λ_ _ b=>.inl b) λ_ _ k=>.inl k) λ_ t b j=>.inl ⟨t,b,j,K,K⟩,h.2.2⟩
def Vy{i}{o p v}{s}{B:Vl->Ms->Prop}(h:Inv N A s.c)(x:aZ s.c o)(z:aZ s.c v):Nk (lE i o p v) s (λ_ b=>Qu N A s b) B:=by
 unfold lE;refine Nk.bd (Nk.jm (ϊ:=λ_ b=>b=s/\o.g=32) λe=>⟨K,e⟩) λ_ F e=>?_;obtain⟨rfl,H⟩:=e;refine Nk.bd (Nk.jm (ϊ:=λ_ b=>b=F) λ_=>K) λ_ n e=>?_;subst e;refine Nk.bd (Nk.kj (ϊ:=λt b=>b=n/\∃j,o.h=C j/\n.c.T[j]?=C t) x W λj t g f _=>⟨K,j,g,f⟩) λt l e=>?_;obtain⟨rfl,j,g,f⟩:=e;have c:=h.ok.T j t f;split
 .refine OY (p:=t.p) ⟨Le.refl _,h,vQ _⟩ g f c.p (λu d=>?_) (by rw[List.length_set];exact c.fq);obtain e|e:=List.mem_or_eq_of_mem_set d
  .exact c.l u e
  grind
 split
 .refine Nk.bd (JY (ϊ:=λ_ b=>Qu N A l b/\b.c.T[j]?=C t/\b.c.th=l.c.th+1/\Gr l.c b.c) ⟨Le.refl _,h,vQ _⟩ λ_ m=>⟨m,f,K,m.1.gr⟩) λ_ L e=>?_;obtain⟨q,r,w,k⟩:=e;refine OY (p:=t.p) q g r (λy u D=>(c.p y u D).gr k) (λu d=>?_) (by rw[qQ,w];have:=c.fq;grind);rw[qW,zW]at d;obtain d|rfl:=d
  .exact(c.l u d).gr k
  .exact z.gr k
 .exact Nk.c trivial
def OU{t}{s g}{B:Vl->Ms->Prop}{ϊ:Nat->Ms->Prop}(h:Qu N A g s)(m:jP N {s.c with T:=s.c.T++[t]} t)(k:t.k=64->wX A s.c t)(j:∀d,Qu N A g d->d.c.T[Q s.c.T]?=C t->ϊ (Q s.c.T) d):Nk (eL t) s ϊ B:=by
 have c:Le s.c {s.c with T:=s.c.T++[t]}:=Le.same (W8 t) K;refine Nk.c ?_;unfold Nj bR;refine j _ ⟨h.1.trans c,h.2.1.to c (h.2.1.ok.ko m) λi u b l=>?_,h.2.2⟩ θ;obtain f|f:=Nat.lt_or_ge i (Q s.c.T)
 .grind
 .simp only at b;rw[List.getElem?_append_right f]at b;obtain e|e:=Nat.eq_zero_or_pos<|i-Q s.c.T
  .rw[e]at b;simp only[List.getElem?_cons_zero,zQ]at b;subst b;exact .inr<|(k l).le c
  grind
def YJ{u:Option Nat}{s d}{B:Vl->Ms->Prop}{ϊ:Nat->Ms->Prop}(h:Qu N A d s)(i:iL s.c u)(e:∀b,Qu N A d b->Le s.c b.c->b.fu=s.fu->b.c.S[Q s.c.S]?=C ⟨λ_=>none,u⟩->ϊ (Q s.c.S) b):Nk (fM u) s ϊ B:=by
 have c:Le s.c {s.c with S:=s.c.S++[⟨λ_=>none,u⟩]}:=⟨CF u,λj q k=>⟨q,η,K,λ_ h=>h⟩⟩;refine Nk.c ?_;unfold Nj bR;exact e _ ⟨h.1.trans c,h.2.1.to c (h.2.1.ok.kr i) λ_ t g f=>.inl ⟨t,g,f,K,K⟩,h.2.2⟩ c K θ
def JW{c}(j)(x)(v):Le c {c with S:=c.S.modify j λq=>⟨λy=>if y=x then C v else q.o y,q.up⟩}:=⟨vF j _,λi q b=>by
 simp only;rw[List.getElem?_modify,b];simp only[Option.map_eq_map,Option.map_some];split<;>grind⟩
def OV{j}{x}{v}{s c}{B:Vl->Ms->Prop}(h:Qu N A c s)(g:j<Q s.c.S)(f:aZ s.c v):Nk (eY j x v) s (λ_ b=>Qu N A c b/\Ii b.c.S x (C j)/\Le s.c b.c) B:=by
 refine Nk.c ?_;unfold Nj bR;refine⟨⟨h.1.trans<|JW j x v,h.2.1.to (JW j x v) (h.2.1.ok.ke j x f) λ_ t e d=>.inl ⟨t,e,d,K,K⟩,h.2.2⟩,?_,JW j x v⟩;refine Ii.here (q:=⟨λy=>if y=x then C v else (s.c.S[j]).o y,(s.c.S[j]).up⟩) ?_ θ;grind
def Dx{x}{b}{s}{B}{c}(h:Hr N A c b s)(e:c x):Nk (iQ x b) s (λj g=>g=s/\∃q v,s.c.S[j]?=C q/\q.o x=C v) B:=by
 obtain⟨j,d⟩:=(h.m9 x e).qj (λi q f=>(h.inv.ok.S i q f).2) (Q s.c.S) h.jo;refine Nk.c ?_;unfold Nj bR;simp only[d];refine⟨trivial,?_⟩;clear h e;generalize Q s.c.S=k at d;generalize s.c.S=S at*;induction k generalizing b with
 |zero=>grind[W9]
 |succ k l=>
  cases b<;>grind[W9,Option.isSome_iff_exists]
def Nk.ite{e}{c}[Decidable c]{d b}{s}{ϊ:e->Ms->Prop}{B}(h:c->Nk d s ϊ B)(k:¬c->Nk b s ϊ B):Nk (if c then d else b) s ϊ B:=η
theorem Nk.cat{m}{s}{ϊ R}{B i}(h:Nk m s ϊ B)(j:∀f d,ϊ f d->R [vO] d)(k:∀v d,B v d->R [v] d):Nk m.cat s R i:=by
 obtain⟨h,g⟩:=h;unfold Nk Nj X.cat at*;cases e:m s with
 |ok f d=>rw[e]at h g;exact⟨j f d h,g⟩
 |back v d=>rw[e]at h g;exact⟨k v d h,g⟩
 |over f b c=>grind
 |stk=>grind
theorem Qu.refl{s}(h:Inv N A s.c):Qu N A s s:=⟨Le.refl _,h,vQ _⟩
theorem Qu.trans{s b c}(h:Qu N A s b)(k:Qu N A b c):Qu N A s c:=⟨h.1.trans k.1,k.2.1,kQ k.2.2 h.2.2⟩
def Bk.on{f}{s b c}{v}(h:Qu N A s b)(k:Bk N A f b v c):Bk N A f s v c:=⟨k.1,k.2.1,h.1.trans k.2.2.1,k.2.2.2.1,kQ k.2.2.2.2 h.2.2⟩
def Hr.qu{b}{d}{s c}(h:Hr N A b d s)(k:Qu N A s c):Hr N A b d c:=h.on k.1 k.2.1
def ZB{c}{x}(h:Inv N A c)(g:x<=40):Le c {c with ca:=x}/\Inv N A {c with ca:=x}:=by
 have d:Le c {c with ca:=x}:=Le.same ⟨λ_ t b=>⟨t,b,K⟩,vQ _⟩ K;exact⟨d,h.to d (h.ok.of d.gr ⟨vQ _,h.ok.th⟩ g (λ_ _ b=>.inl b) λ_ _ f=>.inl f) λ_ t b e=>.inl ⟨t,b,e,K,K⟩⟩
def Ef{i}{B:Vl->Ms->Prop}:∀(l) (b:List Vl) (j) (s),Qu N A i s->j<Q s.c.S->(∀v∈b,aZ s.c v)->Nk (iG G l b j) s (λ_ c=>Qu N A i c/\Le s.c c.c/\∀p∈l,Ii c.c.S p (C j)) B
 |[],b,j,s,h,_,_=>by
  grind[iG,Nk.fe,Le.refl]
 |p::l,b,j,s,h,q,t=>by
  rw[iG];have o:aZ s.c (b.headD vO):=by
   cases b with
   |nil=>grind[sH]
   |cons F r=>grind
  refine Nk.bd (Nk.lq (ϊ:=λv c=>v=b.headD vO/\c.c=s.c/\c.fu=s.fu) o.pw λc d g=>⟨K,d,g⟩) λv z e=>?_;obtain⟨rfl,d,g⟩:=e;have n:Qu N A i z:=⟨d ▸ h.1,d ▸ h.2.1,g ▸ h.2.2⟩;refine Nk.bd (OV n η η) λ_ D e=>?_;obtain⟨w,y,f⟩:=e;rw[d]at f;refine(Ef l b.tail j D w (yQ q f.gr.S) λv u=>(t v<|List.mem_of_mem_tail u).gr f.gr).mono (λ_ H k=>⟨k.1,f.trans k.2.1,λx m=>?_⟩) λ_ _ h=>h;obtain rfl|m:=jW.1 m
  .exact y.le k.2.1
  grind
def MG:∀(l:List<|bZ×Vl) (f:bZ->Option Vl) (x) (v),l.foldl (λf p y=>if y=p.1 then C p.2 else f y) f x=C v->f x=C v\/∃p∈l,p.2=v
 |[],f,x,v,h=>.inl h
 |p::l,f,x,v,h=>by
  rw[List.foldl_cons]at h;obtain h|⟨q,h1,h2⟩:=MG l _ x v h<;>grind
def PU(N:List Nd)(a:Int->Int)(G:Int->Option Int)(A:Aw)(k:Nat):Prop:=∀i f b c s,A i f b->kY N i->Hr N A b c s->8*s.fu+3<=k->Nk (rn N a G k (.e i) c) s (Qv N A s) Nb
def yK(N:List Nd)(a:Int->Int)(G:Int->Option Int)(A:Aw)(k:Nat):Prop:=∀i f b d s,A i f b->kY N i->Hr N A b d s->8*s.fu+1<=k->Nk (rn N a G k (.v i) d) s (λe c=>Qv N A s e c/\c.fu<s.fu) Nb
def IC(N:List Nd)(a:Int->Int)(G:Int->Option Int)(A:Aw)(k:Nat):Prop:=∀l f b c s,(∀x∈l,kY N x/\Su A x f b Nn)->Hr N A b c s->8*s.fu+2<=k->Nk (rn N a G k (.vs l) c) s (Xz N A (Q l) s) Nb
def CS(N:List Nd)(a:Int->Int)(G:Int->Option Int)(A:Aw)(k:Nat):Prop:=∀i f b c s,A i f b->(aA N i).x=26->Hr N A b c s->8*s.fu+2<=k->Nk (rn N a G k (.b i) c) s (sJ N A s) (Bk N A f s)
def ID(N:List Nd)(a:Int->Int)(G:Int->Option Int)(A:Aw)(k:Nat):Prop:=∀i f b p r j s,A i f b->(aA N i).x=26->(aA N i).M=p++r->Hr N A b (C j) s->(∀x∈p,(aA N x).x=17->Ii s.c.S x (C j))->8*s.fu+1<=k->Nk (rn N a G k (.ss r)<|C j) s (sJ N A s) (Bk N A f s)
def PQ(N:List Nd)(a:Int->Int)(G:Int->Option Int)(A:Aw)(k:Nat):Prop:=∀i f b j s,A i f b->17<=(aA N i).x/\(aA N i).x<=25->Hr N A b (C j) s->8*s.fu+3<=k->Nk (rn N a G k (.s i)<|C j) s (λd c=>sJ N A s d c/\((aA N i).x=17->Ii c.c.S i (C j))) (Bk N A f s)
def IB(N:List Nd)(a:Int->Int)(G:Int->Option Int)(A:Aw)(k:Nat):Prop:=∀i f b c s,A i f b->(aA N i).x=23->Hr N A b c s->8*s.fu+2<=k->Nk (rn N a G k (.w i) c) s (sJ N A s) (Bk N A f s)
def Nb.any{f}{s}(v)(b)(h:Nb v b):Bk N A f s v b:=h.elim
def Lq{k}(p:PU N a G A k):yK N a G A (k+1):=by
 intro i f j w s n o r B;rw[rn];refine Nk.bd (Nk.jv (ϊ:=λ_ b=>b={s with fu:=s.fu-1}/\s.fu≠0) λh=>⟨K,h⟩) λ_ D e=>?_;obtain⟨rfl,y⟩:=e;refine Nk.bd (p i f j w _ n o (r.of K) η) λx g q=>?_;obtain⟨⟨v,rfl,t⟩,l,z,m⟩:=q;simp only at l m;refine Nk.bd (Nk.lq (ϊ:=λu b=>u=v/\b.c=g.c/\b.fu=g.fu) t.pw λb c d=>⟨K,c,d⟩) λu F e=>?_;obtain⟨rfl,c,d⟩:=e;refine Nk.fe ⟨⟨⟨u,K,η⟩,η,η,W⟩,W⟩
def LD{k}(w:yK N a G A k)(hs:IC N a G A k):IC N a G A (k+1):=by
 intro l f m j s d b L;cases l with
 |nil=>
  rw[rn];exact Nk.fe ⟨⟨K,λ_ h=>η⟩,Le.refl _,b.inv,vQ _⟩
 |cons i l=>
  rw[rn];obtain⟨g,n,r,t⟩:=d i θ;refine Nk.bd (w i f n j s r g (b.su t) W) λo z q=>?_;obtain⟨⟨⟨v,rfl,y⟩,c,p,F⟩,H⟩:=q;refine Nk.bd (hs l f m j z (λx g=>d x η) (b.on c p) W) λo M q=>?_;obtain⟨⟨B,D⟩,k1,k2,k3⟩:=q;refine Nk.fe ⟨⟨η,λu e=>?_⟩,c.trans k1,k2,W⟩;obtain rfl|e:=jW.1 e
  .exact y.gr k1.gr
  grind
def Lu{k}(hs:ID N a G A k):CS N a G A (k+1):=by
 intro i f l y s n o d x;rw[rn];refine Nk.bd (YJ (ϊ:=λj c=>Qu N A s c/\Hr N A l (C j) c/\c.fu=s.fu) (Qu.refl d.inv) d.jo λc b g m r=>⟨b,⟨b.2.1,λj e=>?_,λj p=>.up r<|(d.m9 j p).le g⟩,m⟩) λj t q=>?_
 .grind
 .obtain⟨b,g,m⟩:=q;exact(hs i f l [] _ j t n o K g (λ_ h=>η) W).mono (λw u h=>b.trans h) λv u h=>h.on b
def LF(L:uX N a A){k}(F:PQ N a G A k)(hs:ID N a G A k):ID N a G A (k+1):=by
 intro i f w p r j s m n P b t o;cases r with
 |nil=>
  rw[rn];exact Nk.fe<|Qu.refl b.inv
 |cons x r=>
  rw[rn];obtain⟨S,l,H,M⟩:=L.blk m n p x r P;refine Nk.bd (Nk.jv (ϊ:=λ_ T=>T={s with fu:=s.fu-1}/\s.fu≠0) λh=>⟨K,h⟩) λ_ s1 e=>?_;obtain⟨rfl,h0⟩:=e;have u:Qu N A s {s with fu:=s.fu-1}:=⟨Le.refl _,b.inv,θ⟩;have R:Hr N A l (C j) {s with fu:=s.fu-1}:=⟨b.inv,b.jo,λy c=>(M y c).elim (b.m9 y) λ⟨B,D⟩=>t y B D⟩;refine Nk.bd ((F x f l j _ H S R η).mono (λ_ _ h=>h) λv g h=>h.on u) λz g q=>?_;have d:=u.trans q.1;have a2:g.fu<=s.fu-1:=q.1.2.2;refine(hs i f w (p++[x]) r j g m n η (b.qu d) (λy c o=>?_) W).mono (λz Z h=>d.trans h) λv Z h=>h.on d;obtain c|c:=qW.1 c
  .exact(t y c o).le d.1
  grind
def Lp(L:uX N a A){k}(H:yK N a G A k)(D:CS N a G A k)(M:IB N a G A k):IB N a G A (k+1):=by
 intro i f o g s c l e T;rw[rn];obtain⟨P,p,x,z⟩:=L.a c ù;obtain⟨F,r,y,B⟩:=L.ab c<|.inr l;refine Nk.bd ((H _ f p g s x P (e.su z) W).mono (λ_ _ h=>h) Nb.any) λj m q=>?_;obtain⟨⟨_,t,u,w⟩,S⟩:=q;have b:Qu N A s m:=⟨t,u,w⟩;refine Nk.ite (λ_=>?_) λ_=>Nk.fe b;refine Nk.bd ((D _ f r g m y F ((e.qu b).su B) W).mono (λ_ _ h=>h) λv n h=>h.on b) λj n q=>?_;have d:=b.trans q;have:=q.2.2;exact(M i f o g n c l (e.qu d) W).mono (λj R h=>d.trans h) λv R h=>h.on d
def Ls(L:uX N a A){k}(hv:yK N a G A k)(hb:CS N a G A k)(hw:IB N a G A k)(aa:∀i f D j s,A i f D->(aA N i).x=17->(aA N (aA N i).a).x=6->Hr N A D (C j) s->8*s.fu+3<=k+1->Nk ((rn N a G k (.v (aA N i).a)<|C j).bd λac=>(eY j i<|r1 ac).bd λ_=>aF []) s (λg t=>sJ N A s g t/\Ii t.c.S i (C j)) Nb):PQ N a G A (k+1):=by
 intro i f D j s l hK p hk;rw[rn];dsimp only;have hj:=p.jo j K;have u:∀x c,A x f c->kY N x->(∀y,c y->D y\/Nn y)->∀b,Qu N A s b->Nk (rn N a G k (.v x)<|C j) b (λg t=>(∃v,g=[v]/\aZ t.c v)/\Qu N A s t/\Le b.c t.c/\t.fu<s.fu) (Bk N A f s):=λx c T Z h3 b M=>by
  have:=M.2.2;exact(hv x f c (C j) b T Z ((p.qu M).su h3) W).mono (λg t q=>⟨q.1.1,M.trans ⟨q.1.2.1,q.1.2.2.1,q.1.2.2.2⟩,q.1.2.1,W⟩) Nb.any
 have F:∀{b:Ms},Qu N A s b->(aA N i).x≠17->sJ N A s [] b/\((aA N i).x=17->Ii b.c.S i (C j)):=λT Z=>⟨T,λh=>absurd h Z⟩;refine Nk.ite (λo=>?_) λz=>?_
 .by_cases h6:(aA N (aA N i).a).x=6
  .exact(aa i f D j s l o h6 p hk).mono (λg t h=>⟨h.1,λ_=>h.2⟩) Nb.any
  .obtain⟨r,c,m,n⟩:=L.lt l o;refine Nk.bd (u _ c m r (λy hy=>(n y hy).imp id λh=>absurd h.2 h6) s<|Qu.refl p.inv) λg b q=>?_;obtain⟨⟨v,rfl,w⟩,d,P,_⟩:=q;refine Nk.bd (OV d (yQ hj P.gr.S) w) λ_ H e=>Nk.fe ⟨e.1,λ_=>e.2.1⟩
 refine Nk.ite (λo=>?_) λad=>?_
 .obtain⟨r,c,m,n⟩:=L.a l η;refine Nk.bd (u _ c m r n s<|Qu.refl p.inv) λg b q=>?_;obtain⟨⟨v,rfl,w⟩,d,P,_⟩:=q;refine Nk.bd (Dx (p.qu d)<|L.var l<|.inr o) λj' H e=>?_;obtain⟨rfl,q,a4,hq,_⟩:=e;exact Nk.bd (OV d (Î.1 hq).1 w) λ_ B e=>Nk.fe<|F e.1 z
 refine Nk.ite (λo=>?_) λae=>?_
 .obtain⟨r,c,m,n⟩:=L.a l η;obtain⟨a3,S,hA2,a2⟩:=L.b l η;refine Nk.bd (u _ c m r n s<|Qu.refl p.inv) λg b q=>?_;obtain⟨⟨v,rfl,w⟩,d,P,_⟩:=q;refine Nk.bd (u _ S hA2 a3 a2 b d) λg H q=>?_;obtain⟨⟨a4,rfl,hu⟩,R,q4,_⟩:=q;exact Nk.bd (Wg R.2.1 (w.gr q4.gr) hu) λ_ B e=>Nk.fe<|F (R.trans e) z
 refine Nk.ite (λo=>?_) λaf=>?_
 .obtain⟨r,c,m,n⟩:=L.a l ù;obtain⟨a3,S,hA2,a2⟩:=L.b l η;obtain⟨ab,V3,hA3,a6⟩:=L.c l o;refine Nk.bd (u _ c m r n s<|Qu.refl p.inv) λg b q=>?_;obtain⟨⟨v,rfl,w⟩,d,P,_⟩:=q;refine Nk.bd (u _ S hA2 a3 a2 b d) λg H q=>?_;obtain⟨⟨a4,rfl,hu⟩,R,q4,_⟩:=q;refine Nk.bd (u _ V3 hA3 ab a6 H R) λg B q=>?_;obtain⟨⟨y,rfl,hy⟩,q5,q6,_⟩:=q;exact Nk.bd (Vy q5.2.1 ((w.gr q4.gr).gr q6.gr) hy) λ_ s4 e=>Nk.fe<|F (q5.trans e) z
 refine Nk.ite (λo=>?_) λag=>?_
 .obtain⟨r,c,m,n⟩:=L.a l ù;refine Nk.bd (u _ c m r n s<|Qu.refl p.inv) λg b q=>?_;exact Nk.bd (ϊ:=λ_ t=>Qu N A s t) ⟨(show Qu N A s _ from ⟨q.2.1.1,q.2.1.2.1,q.2.1.2.2⟩),λx=>x⟩ λ_ H e=>Nk.fe<|F e z
 refine Nk.ite (λo=>?_) λah=>?_
 .obtain⟨r,c,m,n⟩:=L.a l ù;obtain⟨a8,ύ,hB,hW⟩:=L.ab l<|.inl o;refine Nk.bd (u _ c m r n s<|Qu.refl p.inv) λg b q=>?_;obtain⟨_,d,_,M⟩:=q;refine Nk.ite (λ_=>?_) λ_=>Nk.ite (λ_=>Nk.fe<|F d z) λhc=>?_
  .exact(hb _ f ύ (C j) b hB a8 ((p.qu d).su hW) W).mono (λg B h=>⟨d.trans h,λh=>absurd h z⟩) λv B h=>h.on d
  .obtain⟨a9,W2,a5,a7⟩:=L.ac l o hc;exact(hb _ f W2 (C j) b a5 a9 ((p.qu d).su a7) W).mono (λg B h=>⟨d.trans h,λh=>absurd h z⟩) λv B h=>h.on d
 refine Nk.ite (λo=>?_) λai=>?_
 .exact(hw i f D (C j) s l o p W).mono (λg B h=>⟨h,λh=>absurd h z⟩) λ_ _ h=>h
 refine Nk.ite (λo=>?_) λaj=>?_
 .obtain⟨r,c,m,n⟩:=L.a l ù;refine Nk.bd (u _ c m r n s<|Qu.refl p.inv) λg b q=>?_;obtain⟨⟨v,rfl,w⟩,d,_,_⟩:=q;exact⟨⟨L.ret l o,w,d.1,d.2.1,d.2.2⟩,λx=>x⟩
 .obtain⟨r,c,m,n⟩:=L.a l (by rw[show (aA N i).x=25 by omega];decide);refine Nk.bd (u _ c m r n s<|Qu.refl p.inv) λg b q=>Nk.fe<|F q.2.1 z
def E0e{j}{x}{s}{B}{q}{v}(h:Inv N A s.c)(b:s.c.S[j]?=C q)(c:q.o x=C v):Nk (jA j x) s (Qo s) B:=by
 refine Nk.c ?_;unfold Nj bR;simp only[b,Option.bind_some,c];exact⟨K,(h.ok.S j q b).1 x v c⟩
def zA{c}{t}{j}(h:c.T[j]?=C t)(b:1<=t.k/\t.k<=64/\(t.k=1\/t.k=2\/t.k=4\/t.k=8\/t.k=16\/t.k=32\/t.k=64)):aZ c ⟨t.k,0,[],C j⟩:=⟨θ,θ,b,t,h,K⟩
def ŵ(L:uX N a A){k}(i)(f)(v:Int->Prop)(j)(s)(P:A i f v)(a2:(aA N i).x=17)(M:(aA N (aA N i).a).x=6)(g:Hr N A v (C j) s)(hk:8*s.fu+3<=k+1):
 Nk ((rn N a G k (.v (aA N i).a)<|C j).bd λr=>(eY j i<|r1 r).bd λ_=>aF []) s (λc b=>sJ N A s c b/\Ii b.c.S i (C j)) Nb:=by
 obtain⟨D,F,R,Z⟩:=L.lt P a2;have hj:=g.jo j K;obtain⟨k,rfl⟩:∃n,k=n+1:=⟨k-1,W⟩;by_cases H:s.fu=0
 .simp_all[Nk,Nj,rn,X.bd,aU,Rr.Ev]
 obtain⟨k,rfl⟩:∃n,k=n+1:=⟨k-1,W⟩;generalize (aA N i).a=c at*;have hs:aU s=.ok () {s with fu:=s.fu-1}:=by unfold aU;rw[wY H]
 by_cases d:s.c.th=2000
 .simp_all[Nk,Nj,rn,X.bd,bX,bR,Rr.Ev,vI]
 have a8:=g.inv.ok.th;have z:Le s.c {s.c with th:=s.c.th+1}:=Le.same ⟨λ_ t d=>⟨t,d,K⟩,vQ _⟩ K;have a3:=g.inv.ok.of z.gr ⟨θ,η⟩ g.inv.ok.ca (λ_ _ d=>.inl d) λ_ _ hq=>.inl hq;have B:Le s.c {s.c with th:=s.c.th+1,T:=s.c.T++[⟨64,λ_=>none,[],c,C j⟩]}:=z.trans<|Le.same (W8 _) K;have a5:jP N {s.c with th:=s.c.th+1,T:=s.c.T++[⟨64,λ_=>none,[],c,C j⟩]} ⟨64,λ_=>none,[],c,C j⟩:=⟨.inr<|.inr K,(λ_ _ e=>η),(λ_ e=>η),g.jo.gr B.gr,θ,λ_=>⟨D.1,D.2.1,M⟩⟩;have a4:iE N {s.c with th:=s.c.th+1,T:=s.c.T++[⟨64,λ_=>none,[],c,C j⟩]}:=a3.ko a5;have a7:aZ {s.c with th:=s.c.th+1,T:=s.c.T++[⟨64,λ_=>none,[],c,C j⟩]} ⟨64,0,[],C (Q s.c.T)⟩:=⟨θ,θ,θ,⟨64,λ_=>none,[],c,C j⟩,θ,K⟩;have a6:Nk (rn N a G (k+1+1) (.v c)<|C j) s (λr b=>r=[⟨64,0,[],C (Q s.c.T)⟩]/\b.c={s.c with th:=s.c.th+1,T:=s.c.T++[⟨64,λ_=>none,[],c,C j⟩]}/\b.fu<=s.fu) Nb:=by
  rw[rn];refine Nk.bd (Nk.jv (ϊ:=λ_ b=>b={s with fu:=s.fu-1}) λ_=>K) λ_ s1 e=>?_;subst e;refine Nk.bd (ϊ:=λr b=>r=[⟨64,0,[],C (Q s.c.T)⟩]/\b.c={s.c with th:=s.c.th+1,T:=s.c.T++[⟨64,λ_=>none,[],c,C j⟩]}/\b.fu<=s.fu) ?_ λr p e=>?_
  .rw[rn];unfold Nk Nj;simp_all[X.bd,bX,bR,eL,aF,Rr.Ev,vI]
  .obtain⟨rfl,l,m⟩:=e;refine Nk.bd (Nk.lq (ϊ:=λu b=>u=⟨64,0,[],C (Q s.c.T)⟩/\b.c=p.c/\b.fu=p.fu) (.inr<|.inr<|.inr<|.inr<|.inr<|.inr K) λb l m=>⟨K,l,m⟩) λu s3 e=>?_;grind[Nk.fe]
 refine Nk.bd a6 λr s1 e=>?_;obtain⟨rfl,l,m⟩:=e;refine Nk.bd (ϊ:=λ_ b=>sJ N A s [] b/\Ii b.c.S i (C j)) ?_ λ_ p e=>Nk.fe e;refine Nk.c ?_;unfold Nj bR;have o:=B.trans<|JW j i ⟨64,0,[],C (Q s.c.T)⟩;have w:Ii ({s.c with th:=s.c.th+1,T:=s.c.T++[⟨64,λ_=>none,[],c,C j⟩],S:=s.c.S.modify j λq=>⟨λy=>if y=i then C ⟨64,0,[],C (Q s.c.T)⟩ else q.o y,q.up⟩}:Co).S i (C j):=by
  refine .here (q:=⟨λy=>if y=i then C ⟨64,0,[],C (Q s.c.T)⟩ else (s.c.S[j]).o y,(s.c.S[j]).up⟩) ?_ θ;simp only;rw[List.getElem?_modify,gQ hj];simp
 simp only[l];refine⟨⟨o,g.inv.to o (a4.ke j i a7) λn t d hk=>?_,m⟩,w⟩;simp only at d;obtain x|x:=Nat.lt_or_ge n (Q s.c.T)
 .grind
 .rw[List.getElem?_append_right x]at d;obtain e|e:=Nat.eq_zero_or_pos<|n-Q s.c.T
  .rw[e]at d;simp only[List.getElem?_cons_zero,zQ]at d;subst d;exact .inr ⟨f,F,R,λy hy=>(Z y hy).elim (λh=>(g.m9 y h).le o) λh=>h.1 ▸ w⟩
  grind
def Lt(L:uX N a A){a5}(hv:yK N a G A a5)(hs:IC N a G A a5)(hb:CS N a G A a5):PU N a G A (a5+1):=by
 intro i a3 ό sc s o hX F hk;rw[rn];dsimp only;have T:∀x j,A x a3 j->kY N x->(∀y,j y->ό y\/Nn y)->∀d,Qu N A s d->Nk (rn N a G a5 (.v x) sc) d (λk b=>(∃v,k=[v]/\aZ b.c v)/\Qu N A s b/\Le d.c b.c/\b.fu<s.fu) Nb:=λx j l f h3 d h4=>by
  have:=h4.2.2;exact(hv x a3 j sc d l f ((F.qu h4).su h3) W).mono (λk b q=>⟨q.1.1,h4.trans ⟨q.1.2.1,q.1.2.2.1,q.1.2.2.2⟩,q.1.2.1,W⟩) λ_ _ h=>h
 have R:∀{d:Ms} {v:Vl},Qu N A s d->aZ d.c v->Nk (aF [v]) d (Qv N A s) Nb:=λl f=>Nk.fe ⟨⟨_,K,f⟩,l⟩;have B:=Qu.refl F.inv;refine Nk.ite (λ_=>R B<|xC _ _) λ_=>?_;refine Nk.ite (λ_=>R B<|zE _<|by have:=L.tx i;omega) λ_=>?_;refine Nk.ite (λ_=>R B<|uP _ _) λ_=>?_;refine Nk.ite (λm=>?_) λ_=>?_
 .refine Nk.bd (Dx F<|L.var o<|.inl m) λa2 d e=>?_;obtain⟨rfl,q,v,hq,hv⟩:=e;refine Nk.bd (E0e F.inv hq hv) λu M e=>?_;obtain⟨rfl,hu⟩:=e;grind
 refine Nk.ite (λm=>?_) λ_=>?_
 .refine Nk.bd (JY (ϊ:=λ_ b=>Qu N A s b) B λ_ h=>h) λ_ d g=>?_;refine Nk.bd (OU (ϊ:=λn b=>Qu N A s b/\b.c.T[n]?=C ⟨64,λ_=>none,[],i,sc⟩) g ⟨.inr<|.inr K,(λ_ _ e=>η),(λ_ e=>η),(F.qu g).jo,θ,λ_=>⟨hX.1,hX.2.1,m⟩⟩ (λ_=>⟨a3,ό,o,λy H=>(F.m9 y H).le g.1⟩) λb l f=>⟨l,f⟩) λn M e=>?_;exact R e.1 (zA (t:=⟨64,λ_=>none,[],i,sc⟩) e.2 θ)
 refine Nk.ite (λm=>?_) λ_=>?_
 .obtain⟨r,j,w,z⟩:=L.a o η;refine Nk.bd (T _ j w r z s B) λk d q=>?_;obtain⟨⟨v,rfl,Z⟩,g,q2,aj⟩:=q;refine Nk.bd ((hs _ a3 ό sc d (L.l o<|.inl m) (F.qu g) W).mono (Q':=λk b=>(∀u∈k,aZ b.c u)/\Qu N A s b/\Le d.c b.c/\b.fu<s.fu) (λk b q=>⟨q.1.2,g.trans ⟨q.2.1,q.2.2.1,q.2.2.2⟩,q.2.1,by have:=q.2.2.2;omega⟩) λ_ _ h=>h) λP M q=>?_;obtain⟨a4,q3,q4,ak⟩:=q;refine Nk.bd (Nk.jm (ϊ:=λ_ b=>b=M/\(r1 [v]).g=64) λe=>⟨K,e⟩) λ_ D e=>?_;obtain⟨rfl,hg⟩:=e;have hg:v.g=64:=hg;refine Nk.bd (ϊ:=λ_ b=>Qu N A D b/\b.c.ca<=40/\b.c.T=D.c.T/\b.c.S=D.c.S/\b.fu=D.fu) ?_ λ_ s4 e=>?_
  .refine Nk.c ?_;unfold Nj bR;by_cases hc:D.c.ca=40
   .grind
   .simp only[wY hc];have:=q3.2.1.ok.ca;obtain⟨l,f⟩:=ZB q3.2.1 (x:=D.c.ca+1) W;exact⟨⟨l,f,vQ _⟩,W,trivial,trivial,trivial⟩
  obtain⟨q5,ah,eT,eS,eF⟩:=e;refine Nk.bd (Nk.kj (ϊ:=λt b=>b=s4/\∃a2:Nat,s4.c.T[a2]?=C t/\t.k=64) ((Z.gr q4.gr).gr q5.1.gr) (show 16<=v.g by omega) λa2 t _ f h3=>⟨K,a2,f,h3.trans hg⟩) λt s5 e=>?_;obtain⟨rfl,a2,ht,a8⟩:=e;have a9:=q5.2.1.ok.T a2 t ht;obtain⟨g',Vf,ab,ae⟩:=q5.2.1.fn a2 t ht a8;obtain⟨_,_,ag⟩:=a9.nd a8;obtain⟨af,Vb,aa,ad⟩:=L.fn ab ag;refine Nk.bd (ϊ:=Qv N A s5) ((Nk.cat (ϊ:=sJ N A s5) (B:=Bk N A τ s5) ?_ (λk b h=>⟨⟨vO,K,sH _⟩,h⟩) λu b h=>⟨⟨u,K,h.2.1⟩,h.2.2⟩):Nk _ _ _ Nb) λk S e=>?_
  .refine Nk.bd (YJ (ϊ:=λn b=>Qu N A s5 b/\Le s5.c b.c/\b.c.S[n]?=C ⟨λ_=>none,t.sc⟩/\b.fu=s5.fu) (Qu.refl q5.2.1) a9.sc λb l f h3 h4=>⟨l,f,h4,h3⟩) λn S e=>?_;obtain⟨u1,u2,u3,u4⟩:=e;have hn:=(Î.1 u3).1;refine Nk.bd (Ef _ P n S u1 hn λy H=>(((a4 y H).gr q5.1.gr).gr u2.gr)) λ_ s7 e=>?_;obtain⟨w1,w2,w3⟩:=e;obtain⟨sq,z1,z2,_⟩:=w2.sc n _ u3;have al:=w1.2.2;have ac:Hr N A Vb (C n) s7:=⟨w1.2.1,λy e=>η,λy H=>(ad y H).elim (λh=>.up z1<|by rw[z2];exact((ae y h).le u2).le w2) λh=>w3 y h⟩;exact(hb _ τ Vb (C n) s7 aa af ac W).mono (λk s8 h=>w1.trans h) λv s8 h=>h.on w1
  .obtain⟨⟨u,rfl,hu⟩,e1,e2,e3⟩:=e;have ai:=e2.ok.ca;obtain⟨l,f⟩:=ZB e2 (x:=S.c.ca-1) W;refine Nk.bd (ϊ:=λ_ b=>Qu N A S b) (Nk.c (show Qu N A S {S with c:={S.c with ca:=S.c.ca-1}} from ⟨l,f,vQ _⟩)) λ_ s7 e=>?_;exact R (((q3.trans q5).trans ⟨e1,e2,e3⟩).trans e)<|hu.gr e.1.gr
 refine Nk.ite (λm=>?_) λ_=>?_
 .obtain⟨r,j,w,z⟩:=L.a o η;refine Nk.bd (T _ j w r z s B) λk d q=>?_;obtain⟨⟨v,rfl,Z⟩,g,q2,_⟩:=q;refine Nk.bd (Eb g.2.1 Z) λu M e=>?_;obtain⟨rfl,hu⟩:=e;grind
 refine Nk.ite (λm=>?_) λ_=>?_
 .obtain⟨r,j,w,z⟩:=L.a o η;obtain⟨a7,V2,hA2,a6⟩:=L.b o η;refine Nk.bd (T _ j w r z s B) λk d q=>?_;obtain⟨⟨v,rfl,Z⟩,g,q2,_⟩:=q;refine Nk.bd (T _ V2 hA2 a7 a6 d g) λk M q=>?_;obtain⟨⟨y,rfl,H⟩,q3,q4,_⟩:=q;refine Nk.bd (Ds q3.2.1<|Z.gr q4.gr) λu D e=>?_;obtain⟨rfl,hu⟩:=e;grind
 refine Nk.ite (λm=>?_) λ_=>?_
 .refine Nk.bd (hs _ a3 ό sc s (λx r=>?_) F W) λP d q=>?_
  .obtain⟨y,H,rfl⟩:=kZ.1 r;exact L.o o m y H
  .obtain⟨⟨hl,a4⟩,g⟩:=q;refine Nk.bd (JY (ϊ:=λ_ b=>Qu N A s b/\Gr d.c b.c) g λ_ h=>⟨h,⟨λ_ t ht=>⟨t,ht,K⟩,vQ _⟩⟩) λ_ M e=>?_;refine Nk.bd (OU (t:=⟨16,parts ((aA N i).M.map λx=>(aA N x).text) P,[],0,none⟩) (ϊ:=λn b=>Qu N A s b/\b.c.T[n]?=C ⟨16,parts ((aA N i).M.map λx=>(aA N x).text) P,[],0,none⟩) e.1 ⟨.inl K,(λx v h=>?_),(λ_ e=>η),(λ_ e=>η),θ,λh=>absurd (show (16:Int)=64 from h) ζ⟩ (λh=>absurd (show (16:Int)=64 from h) ζ) λb l f=>⟨l,f⟩) λn D e=>?_
   .obtain h|⟨p,hp,rfl⟩:=MG _ _ x v h
    .grind
    .exact((a4 _ (List.of_mem_zip (a:=p.1) (b:=p.2) hp).2).gr e.2).gr<|W8 _
   .exact R e.1 (zA (t:=⟨16,parts ((aA N i).M.map λx=>(aA N x).text) P,[],0,none⟩) e.2 θ)
 refine Nk.ite (λm=>?_) λ_=>?_
 .refine Nk.bd (hs _ a3 ό sc s (L.l o<|.inr m) F W) λP d q=>?_;obtain⟨⟨hl,a4⟩,g⟩:=q;have am:=L.ls i;refine Nk.bd (JY (ϊ:=λ_ b=>Qu N A s b/\Gr d.c b.c) g λ_ h=>⟨h,⟨λ_ t ht=>⟨t,ht,K⟩,vQ _⟩⟩) λ_ M e=>?_;refine Nk.bd (OU (t:=⟨32,λ_=>none,P,0,none⟩) (ϊ:=λn b=>Qu N A s b/\b.c.T[n]?=C ⟨32,λ_=>none,P,0,none⟩) e.1 ⟨.inr<|.inl K,(λ_ _ h=>η),(λv h=>((a4 v h).gr e.2).gr<|W8 _),(λ_ e=>η),η,λh=>absurd (show (32:Int)=64 from h) ζ⟩ (λh=>absurd (show (32:Int)=64 from h) ζ) λb l f=>⟨l,f⟩) λn D e=>?_;exact R e.1 (zA (t:=⟨32,λ_=>none,P,0,none⟩) e.2 θ)
 refine Nk.ite (λm=>?_) λ_=>?_
 .obtain⟨r,j,w,z⟩:=L.a o η;obtain⟨a7,V2,hA2,a6⟩:=L.b o η;refine Nk.bd (T _ j w r z s B) λk d q=>?_;obtain⟨⟨v,rfl,Z⟩,g,q2,_⟩:=q;refine Nk.bd (T _ V2 hA2 a7 a6 d g) λk M q=>?_;obtain⟨⟨y,rfl,H⟩,q3,q4,_⟩:=q;refine Nk.bd Wl λu D e=>?_;obtain⟨rfl,hu⟩:=e;grind
 refine Nk.ite (λm=>?_) λ_=>?_
 .obtain⟨r,j,w,z⟩:=L.a o η;refine Nk.bd (T _ j w r z s B) λk d q=>?_;obtain⟨⟨v,rfl,Z⟩,g,q2,_⟩:=q;refine Nk.bd Wc λu M e=>?_;obtain⟨rfl,hu⟩:=e;grind
 refine Nk.ite (λm=>?_) λ_=>R B<|sH _;obtain⟨r,j,w,z⟩:=L.a o η;exact(T _ j w r z s B).mono (λk d q=>⟨q.1,q.2.1⟩) λ_ _ h=>h
def Du(L:uX N a A):∀k,PU N a G A k/\yK N a G A k/\IC N a G A k/\CS N a G A k/\ID N a G A k/\PQ N a G A k/\IB N a G A k
 |0=>⟨λ_ _ _ _ _ _ _ _ h=>W,λ_ _ _ _ _ _ _ _ h=>W,λ_ _ _ _ _ _ _ h=>W,λ_ _ _ _ _ _ _ _ h=>W,λ_ _ _ _ _ _ _ _ _ _ _ _ h=>W,λ_ _ _ _ _ _ _ _ h=>W,λ_ _ _ _ _ _ _ _ h=>W⟩
 |k+1=>by
  obtain⟨o,b,hs,d,e,c,g⟩:=Du L k;exact⟨Lt L b hs d,Lq o,LD b hs,Lu e,LF L c e,Ls L b d g λi f l j s n c m q p=>ŵ L i f l j s n c m q p,Lp L b d g⟩
def C6e(L:uX N a A)(b){i}(g:A i κ λ_=>False)(j:(aA N i).x=26):rn N a G (8*b+20) (.b i) none (eK b)≠.stk/\(∀v c,rn N a G (8*b+20) (.b i) none (eK b)≠.back v c)/\(rn N a G (8*b+20) (.b i) none<|eK b).Ev:=by
 have d:Inv N A (eK b).c:=⟨⟨(λi t h=>by grind[eK]),(λi q h=>by grind[eK]),by simp[eK],by simp[eK]⟩,λi t h=>by grind[eK]⟩;have h:=(Du (G:=G) L<|8*b+20).2.2.2.1 i κ (λ_=>False) none (eK b) g j ⟨d,(λ_ e=>η),λ_ h=>h.elim⟩ (by grind[eK]);obtain⟨h,f⟩:=h;unfold Nj at h;refine⟨λe=>η,λv c e=>?_,f λp k=>by cases k⟩;rw[e]at h;exact absurd h.1 θ
end
def Vs(a:List Fr)(j:Int):Prop:=∃f∈a,∃y,f y=C j
theorem OH{x}{j}:∀{a},bM x a=C j->Vs a j
 |[],h=>by grind[bM]
 |f::r,h=>by
  rw[bM]at h;cases e:bM x r with
  |some i=>
   rw[e]at h;cases h;obtain⟨b,d,c⟩:=OH e;exact⟨b,η,c⟩
  |none=>
   rw[e]at h;exact⟨f,θ,x,h⟩
def gD(E:Int->Prop)(c d:List Fr):Prop:=∀b f,c=b++[f]->∃a,d=b++[a]/\∀y j,a y=C j->f y=C j\/E j
theorem gD.refl(E)(a):gD E a a:=λ_ f e=>⟨f,e,λ_ _ h=>.inl h⟩
theorem gD.trans{E F}{a b c}(h:gD E a b)(k:gD F b c):gD (λj=>E j\/F j) a c:=λd f e=>by
 obtain⟨f1,rfl,g⟩:=h d f e;obtain⟨f2,rfl,i⟩:=k d f1 K;grind
def gD.mono{E F}{a b}(h:gD E a b)(i:∀j,E j->F j):gD F a b:=λc f e=>by
 obtain⟨f1,d,g⟩:=h c f e;grind
theorem gD.set(a:List Fr)(x)(i):gD (·=i) a (I2 a x i):=λb f e=>by
 subst e;refine⟨f.set x i,by grind[I2,kG],λy j c=>?_⟩;grind[Fr.set]
def gD.vs{E}{b c d}{f}(h:gD E b c)(e:b=d++[f]){j}(l:Vs c j):Vs b j\/E j:=by
 obtain⟨f1,rfl,k⟩:=h d f e;subst e;obtain⟨i,a,y,g⟩:=l;obtain a|a:=qW.1 a
 .exact .inl ⟨i,η,y,g⟩
 .rw[zW]at a;subst a;exact(k y j g).imp (λh=>⟨f,θ,y,h⟩) id
def lk(b:Nat):List Nt->uZ
 |[]=>[]
 |p::r=>(if p.k=16\/p.k=17 then [((b+nN p):Int)-1] else [])++lk (b+nN p) r
theorem zB:∀(a) (b),(∀p∈a,p.k≠16/\p.k≠17)->lk b a=[]
 |[],_,_=>K
 |p::r,b,h=>by
  have:=h p θ;rw[lk,wY W,zB r _ λq c=>h q η];rfl
theorem VV{k}{f}{n}{a}(h:Wn<|.nd k f n a)(i:k≠6)(g:k≠26):∀p∈a,p.k≠16/\p.k≠17:=by
 have b:=Y7 _ h;rw[Gd]at b;have hs:=b.1;intro p d;have c:p.k∈a.map õ:=List.mem_map_of_mem d;generalize a.map õ=j at hs c;unfold bO aP jM at hs;obtain⟨_,hs⟩|⟨_,hs⟩:=G8 hs
 .grind
 obtain⟨e,hs⟩|⟨_,hs⟩:=G8 hs
 .omega
 obtain⟨_,hs⟩|⟨_,hs⟩:=G8 hs
 .grind
 obtain⟨_,hs⟩|⟨_,hs⟩:=G8 hs
 .grind
 obtain⟨_,hs⟩|⟨_,hs⟩:=G8 hs
 .grind
 obtain⟨_,hs⟩|⟨_,hs⟩:=G8 hs<;>grind
theorem Br.jn{r:Br}{k}{b}{d}(h:r.and k=.ok b d):∃f1 a c,r=.ok f1 a/\k f1=.ok b c/\d=a++c:=by
 cases r with
 |bad e i=>grind[Br.and]
 |ok f1 a=>
  grind[Br.jf]
def Br.jw{r:Br}{a}{b}(h:r.pop=.ok a b):∃f1,r=.ok f1 b/\a=f1.dropLast:=by
 cases r with
 |bad e i=>grind[Br.pop]
 |ok f1 c=>
  grind[Br.pop]
def Br.kt{r:Br}{x}{j}{a}{b}(h:r.jk x j=.ok a b):∃f1,r=.ok f1 b/\a=I2 f1 x j:=by
 cases r with
 |bad e i=>grind[Br.jk]
 |ok f1 c=>
  grind[Br.jk]
mutual
theorem QO:∀(t:Nt) (a:List Fr) (b:Nat) (c:List Fr) (d:List<|Nat×Int),Wn t->dU a b t=.ok c d->gD (λj=>(t.k=16\/t.k=17)/\j=((b+nN t:Nat):Int)-1) a c
 |.ty _,a,b,c,d,_,h=>by
  grind[dU,gD.refl]
 |.nd k p n e,a,b,c,d,g,h=>by
  have q:dP e:=by rw[Wn]at g;exact g.2.2
  have L:=VV g;have B:((b+nN (.nd k p n e):Nat):Int)-1=((b+aB e:Nat):Int):=by rw[nN];omega
  rw[dU]at h;rw[B];show gD (λj=>(k=16\/k=17)/\j=_) a c;split at h
  .grind[gD.refl]
  split at h
  .split at h
   .grind
   .rename_i F j _;obtain⟨f1,u,v,f,s,rfl⟩:=Br.jn h;cases f;refine(uW e κ a b c v q s).mono λj l=>?_;grind[zB]
  split at h
  .rename_i D;split at h
   .grind
   .obtain⟨f1,f,rfl⟩:=Br.kt h;have w:=uW e κ _ b f1 d q f;grind[zB,gD,aB,vS,I2,gD.set,gD.refl,trans]
  split at h
  .grind[gD.set]
  split at h
  .obtain⟨f1,f,rfl⟩:=Br.jw h;obtain⟨y,rfl,_⟩:=uW e τ _ b f1 d q f a Fr.no K;grind[List.dropLast_concat,gD.refl]
  split at h
  .obtain⟨f1,f,rfl⟩:=Br.jw h;obtain⟨y,rfl,_⟩:=uW e κ _ b f1 d q f a Fr.no K;grind[List.dropLast_concat,gD.refl]
  .refine(uW e κ a b c d q h).mono λj l=>?_;grind[zB]
theorem uW:∀(e:List Nt) (i:Bool) (a:List Fr) (b:Nat) (c:List Fr) (d:List<|Nat×Int),dP e->bE i a b e=.ok c d->gD (λj=>j∈lk b e\/i=τ) a c
 |[],i,a,b,c,d,_,h=>by
  grind[bE,gD.refl]
 |.ty o::r,i,a,b,c,d,g,h=>by
  rw[bE]at h;refine(uW r i a b c d g.2 h).mono λj l=>?_;grind[lk,nN,id]
 |.nd k p n m::r,i,a,b,c,d,g,h=>by
  rw[bE]at h;obtain⟨f1,u,v,f,s,rfl⟩:=Br.jn h;have z:=uW r i f1 _ c v g.2 s;have w:gD (λj=>((k=16\/k=17)/\j=((b+nN (.nd k p n m):Nat):Int)-1)\/i=τ) a f1:=by
   split at f
   .rename_i H;have A:dP m:=by have:=g.1;rw[Wn]at this;exact this.2.2
    refine(uW m κ a b f1 u A f).mono λj _=>.inr ?_;grind
   .exact(QO (.nd k p n m) a b f1 u g.1 f).mono λj l=>.inl l
  refine(w.trans z).mono λj l=>?_;rw[lk];obtain (⟨x,G⟩|h)|(h|h):=l
  .have x:(Nt.nd k p n m).k=16\/(Nt.nd k p n m).k=17:=x;grind
  .grind
  .grind
  grind
end
mutual
def mO:Nt->Prop
 |.ty _=>True
 |.nd k _ _ a=>k=6\/(k≠24/\qJ a)
def qJ:List Nt->Prop
 |[]=>True
 |p::r=>mO p/\qJ r
end
theorem JZ:∀{b},qJ b->∀p∈b,mO p
 |[],_,p,a=>η
 |q::r,h,p,a=>by
  rw[qJ]at h;obtain rfl|a:=jW.1 a
  .grind
  .exact JZ h.2 p a
theorem JI{a}{x y}(e:a.map õ=[x,y]):∃t u,a=[t,u]/\t.k=x/\u.k=y:=by
 obtain⟨t,r,rfl,rfl,b⟩:=List.map_eq_cons_iff.1 e;obtain⟨u,q,rfl,rfl,c⟩:=List.map_eq_cons_iff.1 b;grind[List.map_eq_nil_iff]
theorem Hv{a}{x y z}(e:a.map õ=[x,y,z]):∃t u v,a=[t,u,v]/\t.k=x/\u.k=y/\v.k=z:=by
 obtain⟨t,r,rfl,rfl,b⟩:=List.map_eq_cons_iff.1 e;grind[JI]
def D7f{k}{f}{n}{a}(h:Wn<|.nd k f n a)(d:k∈[7,8,9,12,13,14,15,18,19,20,21,22,23,24,25]):∃t r,a=t::r/\aP t.k:=by
 have c:=Y7 _ h;rw[Gd]at c;have hs:=c.1;obtain⟨x,b,e,g⟩:∃x b,a.map õ=x::b/\aP x:=by
  simp at d;obtain rfl|rfl|rfl|rfl|rfl|rfl|rfl|rfl|rfl|rfl|rfl|rfl|rfl|rfl|rfl:=d<;>simp only[bO,Ö,or_self,or_false,or_true,if_true,if_false]at hs;all_goals first
   |(obtain⟨x,b,e,h,_⟩:=hs;exact⟨x,_,e,h⟩)
   |(obtain⟨x,e,h⟩:=hs;exact⟨x,_,e,h⟩)
   |grind
 cases a<;>grind
def D6f{k}{f}{n}{a}(h:Wn<|.nd k f n a)(c:k∈[9,12,19,20]):∃t u r,a=t::u::r/\aP t.k/\aP u.k:=by
 have b:=Y7 _ h;rw[Gd]at b;have hs:=b.1;obtain⟨x,y,d,e,i,j⟩:∃x y d,a.map õ=x::y::d/\aP x/\aP y:=by
  simp at c;obtain rfl|rfl|rfl|rfl:=c<;>simp only[bO,Ö,or_self,or_false,or_true,if_true,if_false]at hs<;>grind
 obtain⟨t,r,rfl,rfl,g⟩:=List.map_eq_cons_iff.1 e;grind[List.map_eq_cons_iff]
def Xv{c}{n}{b}(h:Wn<|.nd 20 c n b):∃t u v,b=[t,u,v]/\aP t.k/\aP u.k/\aP v.k:=by
 have a:=Y7 _ h;rw[Gd]at a;have hs:=a.1;simp only[bO,Ö,or_self,if_true,if_false]at hs;grind[Hv]
theorem Hb{c}{n}{b}(h:Wn<|.nd 22 c n b):∃t u v,b=[t,u,v]/\aP t.k/\u.k=26/\(v.k=26\/v.k=-1):=by
 have a:=Y7 _ h;rw[Gd]at a;have hs:=a.1;simp only[bO,Ö,or_self,if_true,if_false]at hs;grind[Hv]
theorem Xx{c}{n}{b}(h:Wn<|.nd 23 c n b):∃t u,b=[t,u]/\aP t.k/\u.k=26:=by
 have a:=Y7 _ h;rw[Gd]at a;have hs:=a.1;simp only[bO,Ö,or_self,if_true,if_false]at hs;grind[JI]
def Xu{c}{n}{b}(h:Wn<|.nd 17 c n b):∃t u,b=[t,u]/\jM t.k/\aP u.k:=by
 have a:=Y7 _ h;rw[Gd]at a;have hs:=a.1;simp only[bO,Ö,or_self,if_true,if_false]at hs;grind[JI]
def D8f{d}{n}{b}(h:Wn<|.nd 6 d n b):∃q t u,b=q++[t,u]/\(∀p∈q,p.k=16)/\jM t.k/\u.k=26:=by
 have a:=Y7 _ h;rw[Gd]at a;have hs:=a.1;simp only[bO,Ö,or_self,if_true,if_false]at hs;obtain⟨l,r,e,i,j⟩:=hs;obtain⟨q,s,rfl,f,c⟩:=List.map_eq_append_iff.1 e;obtain⟨t,u,rfl,rfl,g⟩:=JI c;grind[List.mem_map_of_mem]
section
variable{N:List Nd}{d:Int->Int}
def hJ(N:List Nd)(d:Int->Int):Aw:=λi f l=>∃k c n a b o g e m h,Em N b o (.nd k c n a)/\Wn (.nd k c n a)/\i=((b+aB a:Nat))/\(if k=26 then bE κ (g++[e]) b a else dU (g++[e]) b<|.nd k c n a)=.ok m h/\(∀p∈h,d p.1=p.2)/\(∀j,Vs (g++[e]) j->l j)/\(f=κ->mO (.nd k c n a))
def LJ{t}{b c}{f1 f2 i}{h}{e}{f}{g E}(m:Em N b c t)(v:Wn t)(D:1<=t.k)(l:dU f1 b t=.ok f2 e)(F:f1=i++[h])(r:∀p∈e,d p.1=p.2)(u:∀j,Vs f1 j->g j\/E j)(s:f=κ->mO t):Su (hJ N d) (bW b c t) f g E:=by
 cases t with
 |ty o=>cases o<;>simp[õ]at D
 |nd k z n x=>
  rw[Em.ix];by_cases B:k=26
  .subst B;rw[dU,wY ζ,wY ζ,wY ζ,wY ζ,wY ζ,yY K]at l;obtain⟨f3,G,-⟩:=Br.jw l;refine⟨Vs f1,⟨26,z,n,x,b,c,f1,Fr.no,f3,e,m,v,K,η,r,λj q=>?_,s⟩,u⟩;obtain⟨A,a,y,w⟩:=q;obtain a|a:=qW.1 a
   .exact⟨A,a,y,w⟩
   .rw[zW]at a;subst a;cases w
  .exact⟨Vs f1,⟨k,z,n,x,b,c,i,h,f2,e,m,v,K,η,r,λj q=>η,s⟩,u⟩
theorem cJ{i}(h:i<Q N):aA N i=N[i]:=by
 unfold aA;grind
theorem DP{t}{b g}(h:Em N b g t)(a:aP t.k):kY N (bW b g t):=by
 obtain⟨j,e,_,_,c,f,_⟩:=h.kd a.1;rw[e];refine⟨W,W,?_,?_⟩
 .rw[cJ c,f];exact a.1
 .rw[cJ c,f];exact a.2
theorem wW{t}{b a}(c:Em N b a t)(f:1<=t.k):(aA N<|bW b a t).x=t.k:=by
 obtain⟨j,e,_,_,g,h,_⟩:=c.kd f;grind[cJ]
def DB:∀(c:List Nt) (t:Nt) (g:List Nt) (e) (f l:List Fr) (b i) (m:List<|Nat×Int),(∀p∈c,p.k≠26\/e=κ)->(t.k≠26\/e=κ)->dP (c++t::g)->dM N b i (c++t::g)->1<=t.k->bE e f b (c++t::g)=.ok l m->
 ∃f1 f2 q,dU f1 (b+aB c) t=.ok f2 q/\(∀p∈q,p∈m)/\gD (·∈lk b c) f f1/\Em N (b+aB c) (i+cK c) t
 |[],t,g,e,f,l,b,i,m,_,a,v,s,u,h=>by
  cases t with
  |ty o=>cases o<;>simp[õ]at u
  |nd k x n w=>
   rw[uY,bE]at h;obtain⟨f1,D,L,r,F,rfl⟩:=Br.jn h;have A:(e&&k==26)=κ:=by
    obtain a|a:=a
    .have a:k≠26:=a;grind
    .grind
   rw[A]at r;exact⟨f,f1,D,r,λp B=>η,gD.refl _ _,s.head.1⟩
 |.ty o::c,t,g,e,f,l,b,i,m,y,a,v,s,u,h=>by
  rw[jZ,bE]at h;obtain⟨f1,f2,q,M,H,z,P⟩:=DB c t g e f l b (i+nT (.ty o)) m (λp B=>y p η) a v.2 (by have:=s.head.2;simp_all[nN,Ð]) u h;refine⟨f1,f2,q,by simp_all[aB,nN,Þ],H,z.mono λj R=>by grind[lk,nN],by simp_all[aB,nN,Þ,cK,þ]⟩
 |.nd k x n w::c,t,g,e,f,l,b,i,m,y,a,v,s,u,h=>by
  rw[jZ,bE]at h;obtain⟨G,D,L,r,F,rfl⟩:=Br.jn h;have A:(e&&k==26)=κ:=by
   obtain a|a:=y (.nd k x n w) θ
   .have a:k≠26:=a;grind
   .grind
  rw[A]at r;have S:=QO (.nd k x n w) f b G D v.1 r;obtain⟨f1,f2,q,M,H,z,P⟩:=DB c t g e G l (b+nN (.nd k x n w)) (i+nT (.nd k x n w)) L (λp B=>y p η) a v.2 s.head.2 u F;refine⟨f1,f2,q,by grind[aB,þ],λp B=>η,(S.trans z).mono λj R=>?_,by grind[aB,cK,þ]⟩;rw[lk];grind
def MV:∀(a:List Nt) (e) (n) (c:List Nt) (f i:List Fr) (b g) (l:List<|Nat×Int),(∀p∈a,p.k≠26)->dP (a++[.nd 26 e n c])->dM N b g (a++[.nd 26 e n c])->bE τ f b (a++[.nd 26 e n c])=.ok i l->
 ∃f1 f2 m,bE κ f1 (b+aB a) c=.ok f2 m/\(∀p∈m,p∈l)/\gD (·∈lk b a) f f1/\Em N (b+aB a) (g+cK a) (.nd 26 e n c)
 |[],e,n,c,f,i,b,g,l,_,r,q,h=>by
  rw[uY,bE]at h;obtain⟨f1,z,F,s,A,rfl⟩:=Br.jn h;exact⟨f,f1,z,s,λp y=>η,gD.refl _ _,q.head.1⟩
 |.ty o::a,e,n,c,f,i,b,g,l,t,r,q,h=>by
  rw[jZ,bE]at h;obtain⟨f1,f2,m,G,D,x,H⟩:=MV a e n c f i b (g+nT (.ty o)) l (λp y=>t p η) r.2 (by have:=q.head.2;simp_all[nN,Ð]) h;refine⟨f1,f2,m,by simp_all[aB,nN,Þ],D,x.mono λj L=>by grind[lk,nN],by simp_all[aB,nN,Þ,cK,þ]⟩
 |.nd k w u v::a,e,n,c,f,i,b,g,l,t,r,q,h=>by
  rw[jZ,bE]at h;obtain⟨B,z,F,s,A,rfl⟩:=Br.jn h;have P:k≠26:=t (.nd k w u v) θ;rw[show (τ&&k==26)=κ by grind]at s;have M:=QO (.nd k w u v) f b B z r.1 s;obtain⟨f1,f2,m,G,D,x,H⟩:=MV a e n c B i (b+nN (.nd k w u v)) (g+nT (.nd k w u v)) F (λp y=>t p η) r.2 q.head.2 A;refine⟨f1,f2,m,by grind[aB,þ],λp y=>η,(M.trans x).mono λj L=>?_,by grind[aB,cK,þ]⟩;rw[lk];grind
theorem Ś{k}{b}{n x}{l:uZ}(a:k∈[7,8,9,12,13,14,15,18,19,20,21,22,23,24,25]):(bV k b n<|x::l).a=x:=by
 simp at a;obtain rfl|rfl|rfl|rfl|rfl|rfl|rfl|rfl|rfl|rfl|rfl|rfl|rfl|rfl|rfl:=a<;>rfl
theorem Dq{k}{b}{n x y}{l:uZ}(a:k∈[9,12,19,20,22,23]):(bV k b n<|x::y::l).b=y:=by
 simp at a;obtain rfl|rfl|rfl|rfl|rfl|rfl:=a<;>rfl
theorem ME:∀(a) (b e) (p) (x) (r:uZ),bD b e a=p++x::r->∃c t f,a=c++t::f/\bD b e c=p/\x=bW (b+aB c) (e+cK c) t
 |[],b,e,p,x,r,h=>by simp_all[bD]
 |t::a,b,e,[],x,r,h=>by
  rw[bD,uY,List.cons.injEq]at h;exact⟨[],t,a,K,K,by grind[aB,cK]⟩
 |t::a,b,e,y::p,x,r,h=>by
  rw[bD,jZ,List.cons.injEq]at h;obtain⟨c,u,f,rfl,g,i⟩:=ME a _ _ p x r h.2;exact⟨t::c,u,f,K,by grind[bD],by grind[aB,cK,þ]⟩
def NV{c}{b f}{x}(h:x∈bD b f c):∃a t g,c=a++t::g/\x=bW (b+aB a) (f+cK a) t:=by
 obtain⟨p,r,e⟩:=List.append_of_mem h;grind[ME]
def PZ:∀(q) (b c) (j),j∈lk b q->∃a t e,q=a++t::e/\(t.k=16\/t.k=17)/\j=bW (b+aB a) (c+cK a) t
 |[],b,c,j,h=>by grind[lk]
 |p::q,b,c,j,h=>by
  rw[lk,qW]at h;obtain h|h:=h
  .split at h
   .rename_i f;rw[zW]at h;refine⟨[],p,q,K,f,?_⟩;cases p with
    |ty o=>cases o<;>simp[õ]at f
    |nd k m n l=>rw[h];rfl
   grind
  .obtain⟨a,t,e,rfl,g,i⟩:=PZ q (b+nN p) (c+nT p) j h;exact⟨p::a,t,e,K,g,by grind[aB,cK,þ]⟩
theorem dM.part{a e}{t}{b c}(h:dM N b c<|a++t::e):Em N (b+aB a) (c+cK a) t:=by
 have:=dM.at h (Q a) θ;grind
def ZF{a e}{t}{b c}:bW (b+aB a) (c+cK a) t∈bD b c (a++t::e):=by
 grind[vG,bD]
def hJ.view{i}{f}{r}(h:hJ N d i f r):∃k c n a b g m l q o,Em N b g (.nd k c n a)/\Wn (.nd k c n a)/\dP a/\dM N b g a/\i=((b+aB a:Nat))/\(aA N i).fl=bV k c n (bD b g a)/\(aA N i).x=k/\(if k=26 then bE κ (m++[l]) b a else dU (m++[l]) b<|.nd k c n a)=.ok q o/\(∀p∈o,d p.1=p.2)/\(∀j,Vs (m++[l]) j->r j)/\(f=κ->mO (.nd k c n a)):=by
 obtain⟨k,c,n,a,b,g,m,l,q,o,s,u,t,v,w,x,y⟩:=h;obtain⟨p1,z,p2⟩:=s.parts;have e:(aA N i).fl=bV k c n (bD b g a):=by rw[t,cJ z];exact p2
 exact⟨k,c,n,a,b,g,m,l,q,o,s,u,by grind[Wn],p1,t,e,(congrArg Nd.x e).trans<|J7 _ _ _ _,v,w,x,y⟩
def C7d{k}{j}{n}{e}{a c}{b}{f}(i:k≠5)(l:k≠16)(m:k≠17)(q:k≠6)(o:k≠26)(h:dU a b (.nd k j n e)=.ok c f):∃g,bE κ a b e=.ok c g/\∀p∈g,p∈f:=by
 rw[dU,wY i]at h;grind[Br.jn]
def wV{k}{o}{n}{q1 a}{t}{b i}{g z}{c}{y}{f}{q}(T:Wn<|.nd k o n<|q1++t::a)(x:dP<|q1++t::a)(M:dM N b i<|q1++t::a)(L:k≠5)(B:k≠16)(D:k≠17)(r:k≠6)(l:k≠26)
 (u:(if k=26 then bE κ (g++[c]) b (q1++t::a) else dU (g++[c]) b<|.nd k o n<|q1++t::a)=.ok z y) (R:∀p∈y,d p.1=p.2) (S:∀j,Vs (g++[c]) j->q j) (a2:f=κ->mO (.nd k o n<|q1++t::a)) (v:1<=t.k):Em N (b+aB q1) (i+cK q1) t/\Su (hJ N d) (bW (b+aB q1) (i+cK q1) t) f q Nn:=by
 rw[wY l]at u;obtain⟨a3,A,F⟩:=C7d L B D r l u;obtain⟨f1,f2,a4,G,H,m,s⟩:=DB q1 t a κ _ _ b i _ (λ_ _=>.inr K) (.inr K) x M v A;rw[zB q1 b λp w=>VV T r l p η]at m;obtain⟨Z,e,_⟩:=m g c K;refine⟨s,LJ s ((T7 _).1 x t θ) v G e (λp w=>R p<|F p<|H p w) (λj P=>.inl<|S j ?_) λhf=>?_⟩
 .obtain h|h:=m.vs K P<;>grind
 grind[mO,absurd,JZ]
def Dl{i}{f}{a}(u:hJ N d i f a)(e:(aA N i).x∈[7,8,9,12,13,14,15,18,19,20,21,22,23,24,25]):kY N (aA N i).a/\Su (hJ N d) (aA N i).a f a Nn:=by
 obtain⟨k,Z,n,S,b,F,M,H,L,T,P,c,m,o,R,p,rfl,q,s,j,l⟩:=u.view;obtain⟨t,r,rfl,w⟩:=D7f c e;have v:∀x∈[(7:Int),8,9,12,13,14,15,18,19,20,21,22,23,24,25],x≠5/\x≠16/\x≠17/\x≠6/\x≠26:=ζ;obtain⟨B,y,z,D,A⟩:=v _ e;obtain⟨g,h⟩:=wV (q1:=[]) c m o B y z D A q s j l w.1;simp only[aB,cK,Ð]at g h;have G:(aA N i).a=bW b F t:=(congrArg Nd.a p).trans (by grind[bD,Ś]);grind[DP]
def Ŀ{i}{f}{a}(s:hJ N d i f a)(e:(aA N i).x∈[9,12,19,20]):kY N (aA N i).b/\Su (hJ N d) (aA N i).b f a Nn:=by
 obtain⟨k,tx,n,Z,b,F,M,H,L,a3,P,c,m,o,R,p,rfl,q,r,j,l⟩:=s.view;obtain⟨t,u,a2,rfl,T,w⟩:=D6f c e;have v:∀x∈[9,12,19,20],x≠5/\x≠16/\x≠17/\x≠6/\x≠26/\x∈[(9:Int),12,19,20,22,23]:=ζ;obtain⟨B,y,z,D,A,S⟩:=v _ e;obtain⟨g,h⟩:=wV (q1:=[t]) c m o B y z D A q r j l w.1;simp only[aB,cK,Ð]at g h;have G:(aA N i).b=bW (b+nN t) (F+nT t) u:=(congrArg Nd.b p).trans (by grind[bD,Dq]);grind[DP]
def Ł{i}{f}{a}(s:hJ N d i f a)(w:(aA N i).x=20):kY N (aA N i).c/\Su (hJ N d) (aA N i).c f a Nn:=by
 obtain⟨k,R,n,M,b,y,D,A,B,P,F,c,m,o,G,p,e,q,r,j,l⟩:=s.view;rw[w]at e;subst e;obtain⟨t,u,v,rfl,H,L,x⟩:=Xv c;obtain⟨g,h⟩:=wV (q1:=[t,u]) c m o ζ ζ ζ ζ ζ q r j l x.1;simp only[aB,cK,Ð,<-þ]at g h;have z:(aA N i).c=bW (b+nN t+nN u) (y+nT t+nT u) v:=(congrArg Nd.c p).trans Ω;grind[DP]
def Tz{i}{f}{c}(w:hJ N d i f c)(a:(aA N i).x=22\/(aA N i).x=23):(aA N (aA N i).b).x=26/\Su (hJ N d) (aA N i).b f c Nn:=by
 obtain⟨k,P,n,x,b,y,D,A,B,M,F,l,m,o,G,p,q,s,v,h,j⟩:=w.view;obtain⟨t,u,r,rfl,L⟩:∃t u r,x=t::u::r/\u.k=26:=by
  obtain a|a:=a
  .grind[Hb]
  grind[Xx]
 have H:k=22\/k=23:=by rw[<-q];exact a
 obtain⟨e,g⟩:=wV (q1:=[t]) l m o W W W W W s v h j W;simp only[aB,cK,Ð]at e g;have z:(aA N i).b=bW (b+nN t) (y+nT t) u:=(congrArg Nd.b p).trans (by simp_all[bD,Dq]);grind[wW,trans]
def Ub{i}{f}{c}(w:hJ N d i f c)(y:(aA N i).x=22)(x:(aA N i).c≠-1):(aA N (aA N i).c).x=26/\Su (hJ N d) (aA N i).c f c Nn:=by
 obtain⟨k,T,n,R,b,z,G,D,F,S,H,e,g,p,L,q,h,r,s,l,m⟩:=w.view;rw[y]at h;subst h;obtain⟨t,u,v,rfl,M,P,a⟩:=Hb e;have j:(aA N i).c=bW (b+nN t+nN u) (z+nT t+nT u) v:=(congrArg Nd.c q).trans Ω;obtain a|a:=a
 .obtain⟨A,B⟩:=wV (q1:=[t,u]) e g p ζ ζ ζ ζ ζ r s l m W;simp_all[aB,cK,Ð,þ,wW,trans]
 .exfalso;apply x;rw[j];obtain⟨o,rfl⟩:=uA ((T7 _).1 g v θ)<|.inl a;cases o with
  |none=>rfl
  |some t=>grind[õ]
def ń{i}{f}{g}(z:hJ N d i f g)(B:(aA N i).x=7\/(aA N i).x=11):∀x∈(aA N i).M,kY N x/\Su (hJ N d) x f g Nn:=by
 obtain⟨k,G,n,c,b,m,R,M,P,a2,S,h,r,s,T,u,v,w,y,o,q⟩:=z.view;have l:k=7\/k=11:=by rw[<-v];exact B
 have A:∀p∈c,aP p.k:=by
  have j:=Y7 _ h;rw[Gd]at j;have hs:=j.1;intro p Z;obtain rfl|rfl:=l<;>simp only[bO,Ö,or_self,if_true,if_false]at hs
  .grind
  .grind
 have D:∀x∈(aA N i).M,x∈bD b m c:=λx a=>by
  have e:((aA N i).fl).M=(bV k G n<|bD b m c).M:=by rw[u]
  change (aA N i).M=_ at e;rw[e]at a;obtain rfl|rfl:=l
  .exact List.mem_of_mem_tail a
  .exact a
 intro x a;obtain⟨q1,t,q2,rfl,rfl⟩:=NV<|D x a;have F:=A t θ;obtain⟨H,L⟩:=wV h r s W W W W W w y o q F.1;grind[DP]
def ň{i}{f}{g}(A:hJ N d i f g)(F:(aA N i).x=10):∀x∈(aA N i).M,kY N (aA N x).a/\Su (hJ N d) (aA N x).a f g Nn:=by
 obtain⟨a2,tx,a3,c,b,m,R,M,P,a4,S,h,u,v,T,w,k,y,z,r,s⟩:=A.view;rw[F]at k;subst k;have B:∀p∈c,p.k=15:=by
  have l:=Y7 _ h;rw[Gd]at l;have hs:=l.1;simp only[bO,Ö,or_self,if_true,if_false]at hs;exact λp G=>hs _<|List.mem_map_of_mem G
 intro x a;have a:x∈bD b m c:=by
  have e:(aA N i).M=bD b m c:=congrArg Nd.M w;rw[e]at a;exact a
 obtain⟨q1,t,q2,rfl,rfl⟩:=NV a;have Z:=B t θ;obtain⟨L,H,o,q⟩:=wV h u v ζ ζ ζ ζ ζ y z r s W;obtain⟨k1,n,k2,k3⟩:=Dl o (by grind[wW]);exact⟨k1,n,k2,λj D=>(k3 j D).elim (q j) .inr⟩
def Ŕ{i}{f}{c}(p:hJ N d i f c)(r:(aA N i).x=5\/(aA N i).x=18):c (d i):=by
 obtain⟨k,R,n,h,b,M,x,v,w,P,y,m,B,D,F,G,o,a,e,z,A⟩:=p.view;have s:k=5\/k=18:=by rw[<-o];exact r
 rw[wY W,dU]at a;obtain rfl|rfl:=s
 .rw[yY K]at a;have t:h=[]:=by
   have g:=Y7 _ m;rw[Gd]at g;have hs:=g.1;simp only[bO,Ö,or_true,if_true]at hs;exact List.map_eq_nil_iff.1 hs
  subst t;split at a
  .grind
  .rename_i j q;cases a;have:=e (b,j) θ;grind[aB,OH]
 .rw[wY ζ,yY K]at a;split at a
  .grind
  .rename_i j q;obtain⟨f1,H,L,l,u,rfl⟩:=Br.jn a;cases l;have:=e (b+aB h,j) θ;grind[OH]
def Œ{i}{f}{a}(c:hJ N d i f a)(w:(aA N i).x=24):f=τ:=by
 obtain⟨k,A,n,x,b,y,h,e,g,z,j,o,p,q,r,s,t,u,v,l,m⟩:=c.view;grind[mO]
def Ŏ{i}{f}{m}(L:hJ N d i f m)(R:(aA N i).x=26):∀p x r,(aA N i).M=p++x::r->(17<=(aA N x).x/\(aA N x).x<=25)/\Su (hJ N d) x f m λj=>j∈p/\(aA N j).x=17:=by
 obtain⟨a6,Z,n,g,b,a,D,B,a2,a7,h1,F,o,q,h5,G,s,v,H,a3,a4⟩:=L.view;rw[R]at s;subst s;rw[yY K]at v;intro p x r z;have e:((aA N i).fl).M=(bV 26 Z n<|bD b a g).M:=by rw[G]
 change (aA N i).M=bD b a g at e;rw[e]at z;obtain⟨k,t,l,rfl,rfl,rfl⟩:=ME g b a p x r z;have w:∀p∈k++t::l,17<=p.k/\p.k<=25:=by
  have y:=Y7 _ F;rw[Gd]at y;have hs:=y.1;simp only[bO,Ö,or_self,if_true,if_false]at hs;exact λp c=>hs _<|List.mem_map_of_mem c
 have ht:=w t θ;obtain⟨f1,f2,a8,k1,k2,k3,S⟩:=DB k t l κ _ _ b a _ (λ_ _=>.inr K) (.inr K) o q W v;obtain⟨f',A,_⟩:=k3 D B K;refine⟨by grind[wW],LJ S ((T7 _).1 o t θ) W k1 A (λp c=>H p<|k2 p c) (λj P=>?_) λhf=>?_⟩
 .obtain h|h:=k3.vs K P
  .grind
  .refine .inr ?_;obtain⟨r1,u,T,rfl,hu,rfl⟩:=PZ k b a j h;have a5:=w u θ;have M:dM N b a (r1++u::(T++t::l)):=by simpa using q
   exact⟨ZF,by rw[wW M.part W];omega⟩
 grind[mO,absurd,JZ]
def Ue{i}{f}{m}(G:hJ N d i f m)(L:(aA N i).x=17):kY N (aA N i).a/\Su (hJ N d) (aA N i).a f m λj=>j=i/\(aA N (aA N i).a).x=6:=by
 obtain⟨a4,P,a5,ps,b,v,a,c,T,a6,Z,z,o,A,B,D,q,g,F,a2,a3⟩:=G.view;rw[L]at q;subst q;rw[wY ζ,dU,wY ζ,wY ζ,yY K]at g;obtain⟨t,u,rfl,M,l⟩:=Xu z;split at g
 .grind
 obtain⟨R,w,-⟩:=Br.kt g;obtain⟨f1,f2,a7,k1,k2,k3,s⟩:=DB [t] u [] κ _ _ b v _ (λ_ _=>.inr K) (.inr K) o A l.1 w;rw[zB [t] b λp e=>by rw[zW]at e;subst e;obtain h|h:=M<;>omega]at k3;have y:(aA N i).a=bW (b+aB [t]) (v+cK [t]) u:=(congrArg Nd.a D).trans Ω;have r:gD (λj=>j=i/\u.k=6) (a++[c]) (if vS [t,u] then I2 (a++[c]) P ((b+aB [t,u]:Nat):Int) else a++[c]):=by
  split
  .rename_i H;refine(gD.set _ _ _).mono λj k=>⟨k.trans B.symm,?_⟩;cases u<;>simp_all[aP,õ,vS,beq_iff_eq]
  .grind[gD.refl]
 obtain⟨f3,n,_⟩:=r a c K;rw[n]at k3;obtain⟨S,x,_⟩:=k3 a f3 K;rw[y];refine⟨DP s l,LJ s ((T7 _).1 o u θ) l.1 k1 x (λp e=>F p<|k2 p e) (λj k=>?_) λH=>?_⟩
 .obtain h|h:=k3.vs K k
  .rw[<-n]at h;obtain h|h:=r.vs K h<;>grind[wW,trans]
  grind
 grind[mO,absurd,JZ]
def Ud{i}{f}{s:Int->Prop}(hA:hJ N d i f s)(hk:(aA N i).x=6):(aA N (aA N i).a).x=26/\Su (hJ N d) (aA N i).a τ s (·∈(aA N i).M):=by
 obtain⟨a9,P,n,ps,b,c,y,x,a7,aa,h1,h2,r,A,h5,B,D,F,h9,a2,a8⟩:=hA.view;rw[hk]at D;subst D;rw[wY ζ,dU,wY ζ,wY ζ,wY ζ,wY ζ,yY K]at F;obtain⟨q,t,a5,rfl,hq,L,m⟩:=D8f h2;obtain⟨f0,u,-⟩:=Br.jw F;cases a5 with
 |ty o=>cases o<;>simp[õ]at m
 |nd k2 g n2 a=>
  have m:=m;subst m;have H:q++[t,.nd 26 g n2 a]=(q++[t])++[.nd 26 g n2 a]:=θ;rw[H]at u r A;obtain⟨f1,f2,a4,k1,k2,k3,k4⟩:=MV (q++[t]) g n2 a _ _ b c _ (λp k=>by
   obtain k|k:=qW.1 k
   .grind
   .rw[zW]at k;subst k;obtain h|h:=L<;>omega) r A u;obtain⟨T,e1,_⟩:=k3 (y++[x]) Fr.no K;have a3:(aA N i).M=bD b c q:=by
   have e:((aA N i).fl).M=(bV 6 P n<|bD b c<|q++[t,.nd 26 g n2 a]).M:=by rw[B]
   change (aA N i).M=(bD b c<|q++[t,.nd 26 g n2 a]).dropLast.dropLast at e;rw[e,vG,bD,bD,bD];simp[List.dropLast_append_of_ne_nil]
  have S:(aA N i).a=bW (b+aB (q++[t])) (c+cK (q++[t])) (.nd 26 g n2 a):=by
   have e:((aA N i).fl).a=(bV 6 P n<|bD b c<|q++[t,.nd 26 g n2 a]).a:=by rw[B]
   change (aA N i).a=(bD b c<|q++[t,.nd 26 g n2 a]).getLastD 0 at e;rw[e,H,vG<|q++[t]];simp[bD]
  refine⟨by grind[wW,õ],?_⟩;rw[S,Em.ix];refine⟨Vs f1,⟨26,g,n2,a,b+aB (q++[t]),c+cK (q++[t]),y++[x],T,f2,a4,k4,(T7 _).1 r _ θ,K,η,λp k=>h9 p<|k2 p k,λj G=>η,λh=>η⟩,λj G=>?_⟩;obtain h|h:=k3.vs K G
  .obtain⟨Z,l,a6,M⟩:=h;obtain l|l:=qW.1 l
   .exact .inl<|a2 j ⟨Z,l,a6,M⟩
   .rw[zW]at l;subst l;cases M
  .refine .inr ?_;rw[a3];obtain⟨r1,v,r2,w,hv,rfl⟩:=PZ (q++[t]) b c j h;obtain rfl|⟨r3,z,rfl⟩:=List.eq_nil_or_concat r2
   .have:=List.append_inj_right' (s₁:=q) (t₁:=[t]) (s₂:=r1) (t₂:=[v]) w K;simp at this;subst this;obtain h|h:=L<;>omega
   .have R:q++[t]=(r1++v::r3)++[z]:=by rw[w];simp
    obtain⟨rfl,_⟩:=List.append_inj' R K;exact ZF
def Ŋ(f:∀i,Q (aA N i).text<=30)(e:∀i,Q (aA N i).M<=1200):uX N d (hJ N d) where
 var:=Ŕ;a h hk:=Dl h (by grind[aA]);b:=Ŀ;c:=Ł;l:=ń;o:=ň;ab:=Tz;ac:=Ub;fn:=Ud;blk:=Ŏ;lt:=Ue;ret:=Œ;tx:=f;ls:=e
end
def Kr(a b:Nat)(l:List<|Nat×Int):Prop:=(∀p∈l,a<=p.1/\p.1<b)/\(l.map Prod.fst).Nodup
theorem Kr.nil(a b):Kr a b []:=⟨(λ_ h=>η),θ⟩
def Kr.more{a b c d}{l}(h:Kr a b l)(f:c<=a)(g:b<=d):Kr c d l:=⟨λp e=>by have:=h.1 p e;omega,h.2⟩
def Kr.app{a b c}{l k}(h:Kr a b l)(f:Kr b c k)(r:a<=b)(s:b<=c):Kr a c (l++k):=by
 refine⟨λp d=>?_,?_⟩
 .obtain d|d:=qW.1 d
  .have:=h.1 p d;omega
  .have:=f.1 p d;omega
 .rw[zY,List.nodup_append];refine⟨h.2,f.2,λx i y j e=>?_⟩;obtain⟨p,d,rfl⟩:=kZ.1 i;obtain⟨q,g,m⟩:=kZ.1 j;have n:=h.1 p d;have o:=f.1 q g;omega
def Kr.s9{a b c}{l k}(h:Kr b c l)(f:Kr a b k)(r:a<=b)(s:b<=c):Kr a c (l++k):=by
 refine⟨λp d=>?_,?_⟩
 .obtain d|d:=qW.1 d
  .have:=h.1 p d;omega
  .have:=f.1 p d;omega
 .rw[zY,List.nodup_append];refine⟨h.2,f.2,λx i y j e=>?_⟩;obtain⟨p,d,rfl⟩:=kZ.1 i;obtain⟨q,g,m⟩:=kZ.1 j;have n:=h.1 p d;have o:=f.1 q g;omega
theorem Kr.one(a b)(j)(h:a<b):Kr a b [(a,j)]:=⟨λp c=>η,θ⟩
mutual
theorem WK:∀(t:Nt) (c:List Fr) (b:Nat) (d:List Fr) (a:List<|Nat×Int),dU c b t=.ok d a->Kr b (b+nN t) a
 |.ty _,c,b,d,a,h=>by
  grind[dU,Kr.nil]
 |.nd k q n f,c,b,d,a,h=>by
  rw[dU]at h;rw[nN];split at h
  .grind[Kr.one]
  split at h
  .split at h
   .grind
   .obtain⟨f1,i,p,e,j,rfl⟩:=Br.jn h;cases e;have l:=uV f κ c b d p j;exact Kr.s9 (Kr.one (b+aB f) (b+(aB f+1)) _ W) l W W
  split at h
  .split at h
   .grind
   .obtain⟨f1,e,rfl⟩:=Br.kt h;exact(uV f κ _ b f1 a e).more (vQ _) W
  split at h
  .grind[Kr.nil]
  split at h
  .obtain⟨f1,e,rfl⟩:=Br.jw h;exact(uV f τ _ b f1 a e).more (vQ _) W
  split at h
  .obtain⟨f1,e,rfl⟩:=Br.jw h;exact(uV f κ _ b f1 a e).more (vQ _) W
  .exact(uV f κ c b d a h).more (vQ _) W
theorem uV:∀(f:List Nt) (g:Bool) (c:List Fr) (b:Nat) (d:List Fr) (a:List<|Nat×Int),bE g c b f=.ok d a->Kr b (b+aB f) a
 |[],g,c,b,d,a,h=>by
  grind[bE,Kr.nil]
 |.ty o::r,g,c,b,d,a,h=>by
  rw[bE]at h;rw[aB,nN,Þ];exact uV r g c b d a h
 |.nd k q n m::r,g,c,b,d,a,h=>by
  rw[bE]at h;obtain⟨f1,i,p,e,j,rfl⟩:=Br.jn h;have s:=uV r g f1 _ d p j;have l:Kr b (b+nN (.nd k q n m)) i:=by
   split at e
   .exact(uV m κ c b f1 i e).more (vQ _) (by grind[nN])
   .exact WK (.nd k q n m) c b f1 i e
  rw[aB,<-þ];exact l.app s W W
end
theorem Gl{i}:∀(l) (a),(∀p∈l,p.1≠i)->(dG a l).getD i 0=a.getD i 0
 |[],a,_=>K
 |p::l,a,h=>by
  show (dG (a.set p.1 p.2) l).getD i 0=_;rw[Gl l _ λq b=>h q η,lQ,lQ,List.getElem?_set_ne<|h p θ]
def ZW:∀(l) (b),(l.map Prod.fst).Nodup->(∀p∈l,p.1<Q b)->∀p∈l,(dG b l).getD p.1 0=p.2
 |[],_,_,_,p,a=>η
 |q::l,b,c,d,p,a=>by
  show (dG (b.set q.1 q.2) l).getD p.1 0=_;rw[bY,List.nodup_cons]at c;obtain rfl|a:=jW.1 a
  .grind[Gl,List.mem_map_of_mem,lQ,List.getElem?_set_self]
  .exact ZW l _ c.2 (λr e=>η) p a
def C3e{N:List Nd}{T:List Ty}{a:List Nt}{h:Int->Int}(b:bJ N T a){k:List Fr}{l:List (Nat×Int)}(c:dU [] 0 (.nd 26 [] 0 a)=.ok k l)(v:∀i:Nat,(dG (ó (Q N)<|-1) l).getD i 0≠-1->h (i:Int)=(dG (ó (Q N)<|-1) l).getD i 0)(w:∀p∈l,p.2≠-1)(x:qJ a):hJ N h ((Q N:Int)-1) κ λ_=>False:=by
 have d:=WK _ _ _ _ _ c;rw[dU,wY ζ,wY ζ,wY ζ,wY ζ,wY ζ,yY K]at c;obtain⟨f1,s,-⟩:=Br.jw c;have u:Q N=aB a+1:=by
  have:=congrArg Q b.ey;rw[lZ,R6,nN]at this;exact this
 refine⟨26,[],0,a,0,0,[],Fr.no,f1,l,⟨[],[],by simp[b.ey],K⟩,mM b.wn,W,η,λp g=>?_,λj m=>?_,λ_=>?_⟩
 .have o:=d.1 p g;rw[nN]at o;have t:=ZW l (ó (Q N)<|-1) d.2 (λq n=>by have:=d.1 q n;grind[nN]) p g;grind
 .obtain⟨f,e,y,r⟩:=m;simp at e;subst e;cases r
 grind[mO]
structure Es where
 kn:Gm
 lf:List<|Int×Int
def eX(a:Gm)(x:Int):Int:=(a x).getD 127
def bN(b:uZ)(a:Gm)(x v:Int):Gm:=if x∈b then a else vR a x v
def kX(a:Gm)(x:Int):Gm:=λu=>if u=x then none else a u
def eH(c:Cx)(i:Int):Int:=c.ts.getD i.toNat 0
def fY(c:Cx)(i:Nat):Int:=if (aA c.N i).x=16 then i else if (aA c.N i).x=5 then eH c i else-1
def pC(s:bZ):Int:=
 if s=[61,61]\/s=[60]\/s=[33] then 2 else if s=[45]\/s=[42] then 1 else if s=[116,121,112,101,111,102] then 4 else 0
def hY(n:Nd):Int:=
 if n.x=1 then 1 else if n.x=2 then 4 else if n.x=3 then 2 else if n.x=4 then 8 else if n.x=6 then 64
 else if n.x=10 then 16 else if n.x=11 then 32 else if n.x=12\/n.x=13 then pC n.text else 0
def kM(c:Cx)(g a:Gm)(i:Int):Int:=
 if (aA c.N i).x=5 then eX a (eH c i) else if hY (aA c.N i)≠0 then hY (aA c.N i) else (g i).getD 127
def dH(c:Cx)(g:Gm)(a:uZ)(i:Nat)(s:Es):Es:=
 match g i with
 |none=>s
 |C t=>⟨if fY c i=-1 then s.kn else bN a s.kn (fY c i)<|û .and χ (eX s.kn<|fY c i) t,
  if (aA c.N i).x≠5\/û .andNot χ (eX s.kn<|fY c i) t≠0 then s.lf++[((i:Int),t)] else s.lf⟩
def kR(c:Cx):Nat->Int->Gm->Gm
 |0,_,a=>a
 |f+1,i,a=>
  if (aA c.N i).x=6 then a
  else (aD<|aA c.N i).foldl (λk x=>kR c f x k)<|if (aA c.N i).x=18 then kX a (eH c i) else a
def gP(c:Cx)(f:Nat)(l:uZ)(a:Gm):Gm:=l.foldl (λk x=>kR c f x k) a
def cP(c:Cx)(g:Gm)(a:uZ)(i:Nat)(s:Es):Es:=
 if (aA c.N i).x=17 then ⟨bN a s.kn i<|kM c g s.kn (aA c.N i).a,s.lf⟩
 else if (aA c.N i).x=18 then ⟨bN a s.kn (eH c i)<|kM c g s.kn (aA c.N i).a,s.lf⟩
 else dH c g a i s
def bH(c:Cx)(g:Gm)(a:uZ):Nat->Int->Es->Es
 |0,_,s=>s
 |f+1,i,s=>cP c g a i.toNat (
  if (aA c.N i).x=6 then ⟨s.kn,((aD<|aA c.N i).foldl (λs x=>bH c g a f x s) ⟨λ_=>none,s.lf⟩).lf⟩
  else if (aA c.N i).x=22 then
   ⟨gP c f (aD<|aA c.N i).tail (bH c g a f (aA c.N i).a s).kn,
    (aD<|aA c.N i).tail.foldl (λl x=>(bH c g a f x ⟨(bH c g a f (aA c.N i).a s).kn,l⟩).lf) (bH c g a f (aA c.N i).a s).lf⟩
  else if (aA c.N i).x=23 then
   ⟨gP c f [(aA c.N i).a,(aA c.N i).b] s.kn,([(aA c.N i).a,(aA c.N i).b].foldl (λs x=>bH c g a f x s) ⟨gP c f [(aA c.N i).a,(aA c.N i).b] s.kn,s.lf⟩).lf⟩
  else (aD<|aA c.N i).foldl (λs x=>bH c g a f x s) s)
def gB(c:Cx)(g:Gm)(a:uZ)(f:Nat)(l:uZ)(s:Es):Es:=l.foldl (λs x=>bH c g a f x s) s
def qL(c:Cx)(g:Gm)(a:uZ)(f:Nat)(b:Gm)(l:uZ)(d:List<|Int×Int):List (Int×Int):=l.foldl (λl x=>(bH c g a f x ⟨b,l⟩).lf) d
def iW(c:Cx):Nat->Int->Nat
 |0,_=>0
 |f+1,i=>2+((aD<|aA c.N i).map<|iW c f).sum
def T8(c:Cx)(f:Nat)(l:uZ):Nat:=(l.map<|iW c f).sum
def gM(c:Cx)(g:Gm)(b:uZ)(f:Nat)(s:Es)(a:Nd):Es:=
 if a.x=6 then ⟨s.kn,(gB c g b f (aD a) ⟨λ_=>none,s.lf⟩).lf⟩
 else if a.x=22 then ⟨gP c f (aD a).tail (bH c g b f a.a s).kn,qL c g b f (bH c g b f a.a s).kn (aD a).tail (bH c g b f a.a s).lf⟩
 else if a.x=23 then ⟨gP c f [a.a,a.b] s.kn,(gB c g b f [a.a,a.b] ⟨gP c f [a.a,a.b] s.kn,s.lf⟩).lf⟩
 else gB c g b f (aD a) s
theorem qN(c)(g)(a)(f i:Nat)(s)(b)(d:aA c.N i=b):bH c g a (f+1) i s=cP c g a i (gM c g a f s b):=by
 subst d;rfl
def bP(g:Gm):Prop:=∀x v,g x=C v->0<=v/\v<128
def bP.lu{g}(h:bP g)(x):0<=eX g x/\eX g x<128:=by
 unfold eX;cases e:g x with
 |none=>simp
 |some v=>exact h x v e
theorem bP.set{g}(h:bP g)(x){v}(a:0<=v/\v<128):bP (vR g x v):=by
 intro y u e;unfold vR at e;split at e
 .grind
 .exact h y u e
def bP.lp{g}(h:bP g)(a)(x){v}(b:0<=v/\v<128):bP (bN a g x v):=by
 unfold bN;split
 .omega
 .exact h.set x b
def bP.del{g}(h:bP g)(x):bP (kX g x):=by
 intro y u e;unfold kX at e;split at e
 .grind
 .exact h y u e
theorem bP.no:bP λ_=>none:=λ_ _ e=>η
def bP.fg{c}:∀(f) (i) {a},bP a->bP (kR c f i a)
 |0,_,a,h=>h
 |f+1,i,a,h=>by
  rw[kR];split
  .exact h
  .have b:bP (if (aA c.N i).x=18 then kX a (eH c i) else a):=by
    split
    .exact h.del _
    .exact h
   generalize (if (aA c.N i).x=18 then kX a (eH c i) else a)=k at*;generalize aD (aA c.N i)=l;induction l generalizing k with
   |nil=>exact b
   |cons x r d=>exact d _<|bP.fg f x b
def bP.ob{c}(f):∀(l) {a},bP a->bP (gP c f l a)
 |[],_,h=>h
 |x::r,_,h=>bP.ob f r<|bP.fg f x h
def Jf(a b)(c:0<=a/\a<128)(d:0<=b/\b<128):0<=û Õ χ a b/\û Õ χ a b<128:=by
 obtain⟨a,rfl⟩:=È c.1;obtain⟨b,rfl⟩:=È d.1;have h:a&&&b<=a:=Nat.and_le_left;have e:(BitVec.ofNat IntKind.i64.bits a&&&BitVec.ofNat IntKind.i64.bits b).toNat=a&&&b:=by
  rw[BitVec.toNat_and,BitVec.toNat_ofNat,BitVec.toNat_ofNat,Nat.mod_eq_of_lt<|by grind[IntKind.bits],Nat.mod_eq_of_lt<|by grind[IntKind.bits]]
 grind[û,IntKind.wrap,IntKind.bits,IntKind.signed]
def D4e(n):0<=hY n/\hY n<128:=by
 unfold hY pC;omega
def QI(c){g a}(b:bP g)(d:bP a)(i):0<=kM c g a i/\kM c g a i<128:=by
 unfold kM;split
 .exact d.lu _
 split
 .exact D4e _
 .exact b.lu i
def bP.ua{c}{g}{a}{i}{s}(b:bP g)(h:bP s.kn):bP (dH c g a i s).kn:=by
 unfold dH;cases e:g i with
 |none=>omega
 |some t=>
  simp only;split
  .omega
  .exact h.lp _ _<|Jf _ _ (h.lu _)<|b _ _ e
def bP.sy{c}{g}{b}{i}{s}(a:bP g)(h:bP s.kn):bP (cP c g b i s).kn:=by
 unfold cP;split
 .exact h.lp _ _<|QI c a h _
 split
 .exact h.lp _ _<|QI c a h _
 .exact a.ua h
def bP.el{c}{g}{b}(a:bP g):∀(f) (i) {s},bP s.kn->bP (bH c g b f i s).kn
 |0,_,s,h=>h
 |f+1,i,s,h=>by
  have key:∀(l:uZ) (s:Es),bP s.kn->bP (l.foldl (λs x=>bH c g b f x s) s).kn:=λl=>by
   induction l with
   |nil=>exact λs h=>h
   |cons x r d=>exact λs h=>d _<|bP.el a f x h
  rw[bH];refine bP.sy a ?_;split
  .exact h
  split
  .exact bP.ob f _<|bP.el a f _ h
  split
  .exact bP.ob f _ h
  .exact key _ _ h
def bP.qk{c}{g}{ct}(a:bP g)(f):∀(l) {s},bP s.kn->bP (gB c g ct f l s).kn
 |[],_,h=>h
 |x::r,_,h=>bP.qk a f r<|bP.el a f x h
theorem Z9{b}(a){p}{r}(h:1<=p.k):px b (p::r)=bW b a p::px (b+nN p) r:=by
 cases p with
 |ty o=>cases o<;>simp[õ]at h
 |nd k d n c=>rw[px,Em.ix]
theorem GY(n):aD n.fl=aD n:=rfl
theorem IE{b f}{k}{m}{n}{i}(y:Wn<|.nd k m n i):aD (bV k m n<|bD b f i)=px b i:=by
 have hs:=M7 y;clear y;cases hs with
 |n1 n h=>rfl
 |n2 m h=>rfl
 |n3 n h=>rfl
 |n4=>rfl
 |n5 m h=>rfl
 |n6 i a c j g q l v s=>
  obtain⟨o,rfl⟩:=uA q l;have w:bD b f (i++[.ty o,c])=bD b f i++[bW (b+aB i) (f+cK i)<|.ty o,bW (b+aB i+nN (.ty o)) (f+cK i+nT (.ty o)) c]:=by rw[vG];rfl
  have z:(bD b f<|i++[.ty o,c]).dropLast.dropLast=bD b f i:=by rw[w];simp
  have A:(bD b f<|i++[.ty o,c]).getLastD 0=bW (b+aB i+nN (.ty o)) (f+cK i+nT (.ty o)) c:=by rw[w];simp[List.getLastD_eq_getLast?]
  have e:aD (bV 6 [] 0<|bD b f<|i++[.ty o,c])=(bD b f<|i++[.ty o,c]).dropLast.dropLast++[(bD b f<|i++[.ty o,c]).getLastD 0]:=K;rw[e,z,A,SD,X9 _ _ _ λp u=>η,px,Z9 (f+cK i+nT (.ty o)) W];rfl
 |n7 a i j g q=>
  rw[Z9 f g.1,<-X9 _ (f+nT a) _ λp u=>(q p u).2.1];rfl
 |n8 m a r j g=>rw[Z9 f g.1];rfl
 |n9 a c j g q l=>rw[Z9 f g.1,Z9 (f+nT a) l.1];rfl
 |n10 i j g=>
  rw[<-X9 _ f _ λp u=>η];rfl
 |n11 i j=>
  rw[<-X9 _ f _ λp u=>(j p u).2.1];rfl
 |n12 m a c r j g q l=>rw[Z9 f g.1,Z9 (f+nT a) l.1];rfl
 |n13 m a r j g=>rw[Z9 f g.1];rfl
 |n14 a t j g q=>rw[Z9 f g.1];rfl
 |n15 m a r j g=>rw[Z9 f g.1];rfl
 |n16 m a r j g=>
  obtain⟨o,rfl⟩:=uA j g;rfl
 |n17 m a c r j g q l=>
  obtain⟨o,rfl⟩:=uA j g;rw[px,Z9 (f+nT (.ty o)) l.1];rfl
 |n18 m a r j g=>rw[Z9 f g.1];rfl
 |n19 m a c r j g q l=>rw[Z9 f g.1,Z9 (f+nT a) l.1];rfl
 |n20 a c d j g q l v s=>rw[Z9 f g.1,Z9 (f+nT a) l.1,Z9 (f+nT a+nT c) s.1];rfl
 |n21 a j g=>rw[Z9 f g.1];rfl
 |n22 a c d j g q l v s=>
  rw[Z9 f g.1,Z9 (f+nT a) W];obtain s|s:=s
  .have x:1<=d.k:=W;rw[Z9 (f+nT a+nT c) x];have B:bW (b+nN a+nN c) (f+nT a+nT c) d≠-1:=by
    cases d with
    |ty o=>cases o<;>simp[õ]at x
    |nd k m n i=>grind[Em.ix]
   exact wY B
  .obtain⟨o,rfl⟩:=uA v<|.inl s;cases o with
   |none=>rfl
   |some t=>grind[õ]
 |n23 a c j g q l=>rw[Z9 f g.1,Z9 (f+nT a) W];rfl
 |n24 a j g=>rw[Z9 f g.1];rfl
 |n25 a j g=>rw[Z9 f g.1];rfl
 |n26 i j=>
  rw[<-X9 _ f _ λp u=>η];rfl
section
variable{c:Cx}{g:Gm}{ct:uZ}
def XF{b d}{k}{e}{n}{a}(l:Wn<|.nd k e n a)(i:Em c.N b d<|.nd k e n a):aD (aA c.N<|bW b d<|.nd k e n a)=px b a/\(aA c.N<|bW b d<|.nd k e n a).x=k/\dM c.N b d a:=by
 obtain⟨h,j,f⟩:=i.parts;rw[Em.ix,B7 j,<-GY,f,IE l];exact⟨K,(congrArg Nd.x f).trans<|J7 _ _ _ _,h⟩
def Il:∀(f) (t) (b d),Wn t->1<=t.k->Em c.N b d t->iW c f (bW b d t)<=2*nN t
 |0,_,_,_,_,_,_=>wQ _
 |f+1,.ty o,_,_,_,h,_=>by cases o<;>simp[õ]at h
 |f+1,.nd k s n e,b,d,a,_,i=>by
  obtain⟨j,_,u⟩:=XF a i;rw[iW,j,nN];rw[Wn]at a;have w:=a.2.2;clear j i a;have key:∀(e:List Nt) (b d:Nat),dP e->dM c.N b d e->((px b e).map<|iW c f).sum<=2*aB e:=λe=>by
   induction e with
   |nil=>grind[px]
   |cons p r q=>
    intro b d a i;rw[dP]at a;obtain⟨l,m⟩:=i.head;have v:=q _ _ a.2 m;rw[aB];by_cases h:1<=p.k
    .rw[Z9 d h,bY,List.sum_cons];have:=Il f p b d a.1 h l;omega
    .cases p with
     |ty o=>
      simp_all[px,nN,Ð]
     |nd k s n x=>
      exfalso;have:=M7 a.1;cases this<;>simp[õ]at h
  grind
def Rn(g:Gm)(d b:Nat)(a:List<|Int×Int):Prop:=(∀p∈a,d<=p.1/\p.1<b/\g p.1=C p.2)/\a.Pairwise λp q=>p.1<q.1
theorem Rn.nil(b a):Rn g b a []:=⟨λ_ h=>η,.nil⟩
def Rn.app{a b c}{e f}(h:Rn g a b e)(k:Rn g b c f)(j:a<=b)(l:b<=c):Rn g a c (e++f):=by
 refine⟨λp d=>?_,List.pairwise_append.2 ⟨h.2,k.2,λp d q i=>?_⟩⟩
 .obtain d|d:=qW.1 d
  .obtain⟨x,y,z⟩:=h.1 p d;grind
  .obtain⟨x,y,z⟩:=k.1 p d;grind
 .have:=h.1 p d;have:=k.1 q i;omega
def AO(i)(s):∃a,(cP c g ct i s).lf=s.lf++a/\Rn g i (i+1) a:=by
 unfold cP;split
 .exact⟨[],θ,.nil _ _⟩
 split
 .exact⟨[],θ,.nil _ _⟩
 unfold dH;cases b:g i with
 |none=>exact⟨[],θ,.nil _ _⟩
 |some t=>
  simp only;split
  .refine⟨[((i:Int),t)],K,λp d=>?_,θ⟩;grind
  .exact⟨[],θ,.nil _ _⟩
def FJ:∀(f) (t) (b h) (s),Wn t->1<=t.k->Em c.N b h t->∃j,(bH c g ct f (bW b h t) s).lf=s.lf++j/\Rn g b (b+nN t) j
 |0,_,_,_,_,_,_,_=>⟨[],by simp[bH],.nil _ _⟩
 |f+1,.ty o,_,_,_,_,v,_=>by cases o<;>simp[õ]at v
 |f+1,.nd k F n i,b,h,s,m,_,H=>by
  obtain⟨G,Z,N⟩:=XF m H;have R:=m;rw[Wn]at R;have L:=R.2.2;clear R;have S:∀(i:List Nt) (b h:Nat) (s:Es),dP i->dM c.N b h i->∃j,((px b i).foldl (λs x=>bH c g ct f x s) s).lf=s.lf++j/\Rn g b (b+aB i) j:=λi=>by
   induction i with
   |nil=>exact λ_ _ _ _ _=>⟨[],by simp[px],.nil _ _⟩
   |cons p a4 M=>
    intro b h s m H;rw[dP]at m;obtain⟨z,r⟩:=H.head;rw[aB];by_cases v:1<=p.k
    .obtain⟨j,P,w⟩:=FJ f p b h s m.1 v z;obtain⟨u,A,y⟩:=M _ _ (bH c g ct f (bW b h p) s) m.2 r;refine⟨j++u,?_,w.app η W W⟩;grind[Z9,qZ]
    .cases p with
     |ty o=>
      obtain⟨u,A,y⟩:=M _ _ s m.2 r;simp_all[nN,Ð,þ,px]
     |nd k F n qs=>
      exfalso;have:=M7 m.1;cases this<;>simp[õ]at v
  have a3:∀(i:List Nt) (b h:Nat) (B:Gm) (l:List<|Int×Int),dP i->dM c.N b h i->∃j,(px b i).foldl (λl x=>(bH c g ct f x ⟨B,l⟩).lf) l=l++j/\Rn g b (b+aB i) j:=λi=>by
   induction i with
   |nil=>exact λ_ _ _ _ _ _=>⟨[],by simp[px],.nil _ _⟩
   |cons p a4 M=>
    intro b h B l m H;rw[dP]at m;obtain⟨z,r⟩:=H.head;rw[aB];by_cases v:1<=p.k
    .obtain⟨j,P,w⟩:=FJ f p b h ⟨B,l⟩ m.1 v z;obtain⟨u,A,y⟩:=M _ _ B (bH c g ct f (bW b h p) ⟨B,l⟩).lf m.2 r;refine⟨j++u,?_,w.app η W W⟩;grind[Z9,qZ]
    .cases p with
     |ty o=>
      obtain⟨u,A,y⟩:=M _ _ B l m.2 r;simp_all[nN,Ð,þ,px]
     |nd k F n qs=>
      exfalso;have:=M7 m.1;cases this<;>simp[õ]at v
  rw[Em.ix,qN c g ct f (b+aB i) s _ K,<-Em.ix (n:=n) (k:=k) (tx:=F) (tb:=h)];have h3:∃j,(gM c g ct f s<|aA c.N<|bW b h<|.nd k F n i).lf=s.lf++j/\Rn g b (b+aB i) j:=by
   generalize aA c.N (bW b h<|.nd k F n i)=D at*;unfold gM gB qL;split
   .rw[G];exact S i b h ⟨λ_=>none,s.lf⟩ L N
   split
   .rename_i T;have hs:=M7 m;rw[T]at Z;subst Z;cases hs with
    |n22 a q d w1 w2 w3 w4 w5 w6=>
     have z:px b [a,q,d]=bW b h a::px (b+nN a) [q,d]:=Z9 h w2.1;have r:aD D=D.a::(aD D).tail:=by
      unfold aD;simp only[T];by_cases hc:D.c=-1<;>simp[hc]
     rw[G,z]at r;simp only[List.tail_cons,List.cons.injEq,and_true]at r;rw[G,z,<-r,List.tail_cons];rw[dP]at L;obtain⟨m1,m2⟩:=N.head;obtain⟨j,P,w⟩:=FJ f a b h s w1 w2.1 m1;obtain⟨u,A,y⟩:=a3 [q,d] _ _ (bH c g ct f (bW b h a) s).kn (bH c g ct f (bW b h a) s).lf L.2 m2;refine⟨j++u,?_,w.app (by rw[þ]at y;exact y) W<|by grind[aB]⟩;grind
   split
   .rename_i a2;have e:[D.a,D.b]=px b i:=by
     rw[<-G];unfold aD;simp[a2]
    rw[e];exact S i b h ⟨_,s.lf⟩ L N
   .rw[G];exact S i b h s L N
  obtain⟨j,P,w⟩:=h3;obtain⟨u,A,y⟩:=AO (c:=c) (g:=g) (ct:=ct) (b+aB i)<|gM c g ct f s<|aA c.N<|bW b h<|.nd k F n i;rw[P]at A;exact⟨j++u,η,w.app (by grind[nN,þ]) W<|by grind[nN]⟩
end
theorem Rn.sub{g}:∀(n) {a},Rn g 0 n a->a.Sublist (U5 g n)
 |0,[],_=>.slnil
 |0,p::r,h=>by
  have:=h.1 p θ;omega
 |n+1,a,h=>by
  rw[U5];obtain rfl|⟨ys,p,e⟩:=List.eq_nil_or_concat a
  .simp
  .rw[List.concat_eq_append]at e;subst e;obtain⟨f,b⟩:=h;rw[List.pairwise_append]at b;have i:=f p θ;by_cases c:p.1=n
   .have d:Rn g 0 n ys:=⟨λq j=>η,b.1⟩;refine(Rn.sub n d).append ?_;have e:p=((n:Int),p.2):=by rw[<-c]
    rw[<-c,i.2.2];exact .refl _
   .have d:Rn g 0 n (ys++[p]):=⟨λq j=>η,List.pairwise_append.2 b⟩;simp_all[Rn.sub,trans,List.sublist_append_left]
def YD{N:List Nd}{T:List Ty}{b:List Nt}(a:bJ N T b)(l:List<|Nat×Int)(g)(c)(f):
 (bH (aQ N T l) g c f ((Q N:Int)-1) ⟨λ_=>none,[]⟩).lf.Sublist (U5 g (Q N))/\iW (aQ N T l) f (Q N-1)<=2400:=by
 have h:Em (aQ N T l).N 0 0 (.nd 26 [] 0 b):=⟨[],[],by rw[uY,iY];exact a.ey,K⟩;have i:Q N=nN (.nd 26 [] 0 b):=by
  have:=congrArg Q a.ey;rw[lZ,R6]at this;exact this
 have m:bW 0 0 (.nd 26 [] 0 b)=(Q N:Int)-1:=by rw[bW,i];simp
 have j:=mM a.wn;obtain⟨n,d,e⟩:=FJ (c:=aQ N T l) (g:=g) (ct:=c) f _ 0 0 ⟨λ_=>none,[]⟩ j (by simp[õ]) h;have k:=Il (c:=aQ N T l) f _ 0 0 j (by simp[õ]) h;rw[m]at d k;rw[d,uY];rw[Þ,<-i]at e;have:=a.fp;exact⟨e.sub,W⟩
def fH(N:List Nd):Nat->Nat->uZ->uZ
 |_,0,a=>a
 |e,c+1,a=>fH N (e-1) c<|eP N a<|e-1
theorem JR(N):∀(c d e) (a),fH N e (c+d) a=fH N (e-c) d (fH N e c a)
 |0,d,e,a=>by simp[fH]
 |c+1,d,e,a=>by
  rw[show c+1+d=(c+d)+1 by omega,fH,fH,JR N c d<|e-1,show e-1-c=e-(c+1) by omega]
theorem ND(N):∀j,mU N j=fH N (Q N) j (ó (Q N) 0)
 |0=>K
 |j+1=>by
  rw[mU,ND N j,JR N j 1,fH,fH,show Q N-j-1=Q N-1-j by omega]
theorem WG(v:Int):∀(l a:uZ) (q:Nat),(∀x∈l,0<=x/\x<Q a)->(bK a v l).getD q 0=if (q:Int)∈l then v else a.getD q 0
 |[],a,q,_=>Ω
 |x::l,a,q,h=>by
  have b:=h x θ;rw[bK,List.foldl_cons,<-bK,WG v l _ q λy c=>η];grind
theorem oW:∀(a) (b),∀x∈px b a,b<=x/\x<((b+aB a:Nat))
 |[],b,x,h=>by grind[px]
 |.ty o::r,b,x,h=>by
  rw[px]at h;have:=oW r b x h;grind[aB,nN]
 |.nd k c n a::r,b,x,h=>by
  rw[px,jW]at h;rw[aB,nN];obtain rfl|h:=h
  .omega
  .have:=oW r _ x h;grind[nN]
section
variable{N:List Nd}
theorem JS{a}(i):Q (eP N a i)=Q a:=by
 grind[eP,jC,zI]
theorem CD{b l}{k}{d}{n}{a}(i:Wn<|.nd k d n a)(f:Em N b l<|.nd k d n a){c}(m:Q c=Q N)(q):(eP N c<|b+aB a).getD q 0=if (q:Int)∈px b a then lT N c (b+aB a) else (jC N c<|b+aB a).getD q 0:=by
 obtain⟨_,g,e⟩:=f.parts;have h:aD (aA N ((b+aB a:Nat):Int))=px b a:=by
  rw[cJ g,<-GY,e];exact IE i
 have o:Q (jC N c<|b+aB a)=Q c:=by unfold jC;split<;>simp
 unfold eP;rw[h];exact WG _ _ _ q λx j=>by have:=oW a b x j;omega
mutual
theorem Ia:∀(t:Nt) (b g:Nat) (c:uZ),Wn t->1<=t.k->Em N b g t->Q c=Q N->b+nN t<Q N->
 Q (fH N (b+nN t) (nN t) c)=Q N/\(∀q,q<b\/b+nN t<=q+1->(fH N (b+nN t) (nN t) c).getD q 0=c.getD q 0)/\(c.getD (b+nN t-1) 0=-1->(∀q:Nat,b<=q->q<b+nN t->(aA N (q:Int)).x=24->(fH N (b+nN t) (nN t) c).getD q 0≠-1)->mO t)
 |.ty o,b,g,c,i,u,j,l,p=>by cases o<;>simp[õ]at u
 |.nd k f n a,b,g,c,i,u,j,l,p=>by
  obtain⟨H,L,e⟩:=j.parts;have T:dP a:=by rw[Wn]at i;exact i.2.2
  have a4:(aA N ((b+aB a:Nat):Int)).x=k:=by rw[cJ L];exact(congrArg Nd.x e).trans<|J7 _ _ _ _
  rw[nN]at p⊢;have G:jC N c (b+aB a)=c:=by unfold jC;rw[wY W]
  have B:fH N (b+(aB a+1)) (aB a+1) c=fH N (b+aB a) (aB a) (eP N c<|b+aB a):=by rw[fH,show b+(aB a+1)-1=b+aB a by omega]
  rw[B];obtain⟨Z,l2,l3⟩:=wO a b g (eP N c<|b+aB a) T H (by grind[JS]) W;have s:=CD i j l;have a5:∀q:Nat,q<b\/b+aB a<=q->(eP N c<|b+aB a).getD q 0=c.getD q 0:=λq y=>by
   rw[s q,wY λM=>by have:=oW a b _ M;omega,G]
  refine⟨Z,λq y=>?_,λP D=>?_⟩
  .grind
  .rw[mO];by_cases h6:k=6
   .omega
   .have R:b+(aB a+1)-1=b+aB a:=W;rw[R]at P;refine .inr ⟨λh=>?_,l3 (λx z=>?_) λq m w F=>D q m W F⟩
    .grind
    .have a6:=oW a b x z;rw[s x.toNat,yY<|by rw[show (x.toNat:Int)=x by omega];omega];simp_all[lT,wY]
theorem wO:∀(a:List Nt) (b g:Nat) (c:uZ),dP a->dM N b g a->Q c=Q N->b+aB a<Q N->
 Q (fH N (b+aB a) (aB a) c)=Q N/\(∀q,q<b\/b+aB a<=q->(fH N (b+aB a) (aB a) c).getD q 0=c.getD q 0)/\((∀x∈px b a,c.getD x.toNat 0=-1)->(∀q:Nat,b<=q->q<b+aB a->(aA N (q:Int)).x=24->(fH N (b+aB a) (aB a) c).getD q 0≠-1)->qJ a)
 |[],b,g,c,_,_,l,_=>⟨by grind[aB,fH],λq _=>Ω,λ_ _=>by grind[qJ]⟩
 |.ty o::r,b,g,c,i,j,l,p=>by
  have h:=wO r b (g+nT (.ty o)) c i.2 (by have:=j.head.2;simp_all[nN,Ð]) l (by grind[aB,nN]);simp_all[aB,nN,Þ,px,qJ,mO]
 |.nd k f n d::r,b,g,c,i,j,l,p=>by
  have u:1<=(Nt.nd k f n d).k:=by
   have hs:=i.1;have s:=Y7 _ hs;rw[Gd]at s;show 1<=k;have:=s.1;unfold bO at this;by_cases m:1<=k
   .omega
   .exfalso;rw[wY W,wY W,wY W,wY W,wY W,wY W,wY W,wY W,wY W,wY W,wY W,wY W,wY W,wY W]at this;omega
  rw[aB]at p⊢;have S:fH N (b+(nN (.nd k f n d)+aB r)) (nN (.nd k f n d)+aB r) c=fH N (b+nN (.nd k f n d)) (nN<|.nd k f n d) (fH N (b+nN (.nd k f n d)+aB r) (aB r) c):=by
   rw[Nat.add_comm (nN<|.nd k f n d)<|aB r,JR,show b+(aB r+nN (.nd k f n d))-aB r=b+nN (.nd k f n d) by omega,show b+(aB r+nN (.nd k f n d))=b+nN (.nd k f n d)+aB r by omega]
  rw[S];obtain⟨r1,r2,r3⟩:=wO r (b+nN (.nd k f n d)) (g+nT (.nd k f n d)) c i.2 j.head.2 l W;obtain⟨t1,t2,t3⟩:=Ia (.nd k f n d) b g (fH N (b+nN (.nd k f n d)+aB r) (aB r) c) i.1 u j.head.1 r1 W;refine⟨t1,λq y=>?_,λm w=>?_⟩
  .grind
  .rw[qJ];refine⟨t3 ?_ λq a1 A v=>w q a1 W v,r3 (λx z=>m x<|by grind[px]) λq a1 A v=>?_⟩
   .rw[r2 _<|by grind[nN]];have:=m ((b+aB d:Nat):Int) (by grind[px]);rw[tQ]at this;simp_all[nN,aB]
   grind
end
def D5e{T}{a}(b:bJ N T a)(h:∀i,i<Q N->(aA N i).x=24->(kC N).getD i 0≠-1):qJ a:=by
 have j:Q N=aB a+1:=by
  have:=congrArg Q b.ey;rw[lZ,R6,nN]at this;exact this
 have c:Em N 0 0 (.nd 26 [] 0 a):=⟨[],[],by simp[b.ey],K⟩;have l:=mM b.wn;obtain⟨d,f,e⟩:=c.parts;have u:(aA N ((0+aB a:Nat):Int)).x=26:=by rw[cJ f];exact(congrArg Nd.x e).trans<|J7 _ _ _ _
 have g:Q (ó (Q N) (0:Int))=Q N:=θ;have o:kC N=fH N (0+aB a) (aB a) (eP N (ó (Q N) 0)<|0+aB a):=by
  rw[kC,ND,j,fH,show aB a+1-1=0+aB a by omega]
 obtain⟨w,y,n⟩:=wO a 0 0 (eP N (ó (Q N) 0)<|0+aB a) ((T7 _).2 λp k=>(b.wn p k).1) d (by grind[JS]) W;refine n (λx m=>?_) λq r s t=>η;have v:=oW a 0 x m;rw[CD l c g x.toNat,yY η];unfold lT jC;grind
end
section
variable{N:List Nd}{T:List Ty}
theorem bJ.sub{a}(h:bJ N T a)(i)(b:i<Q N):Sub N T i:=by
 have c:Q N=aB a+1:=by
  have:=congrArg Q h.ey;rw[lZ,R6,nN]at this;exact this
 refine QV (.nd 26 [] 0 a) 0 0 (mM h.wn) ⟨[],[],by simp[h.ey],K⟩ ⟨[],[],by rw[gL,h.types];simp,K,GP⟩ i (wQ _) (by grind[nN])
def bJ.pg{v}(h:bJ N T v)(i)(q:i<Q N)(r:N[i].x=26):∀x∈N[i].M,0<=x/\x<Q N/\17<=(aA N x).x/\(aA N x).x<=25:=by
 obtain⟨b,w,k,L,n,a,m,u,rfl,F⟩:=h.sub i q;obtain⟨o,z,e⟩:=m.parts;have d:N[b+aB a].x=k:=(congrArg Nd.x e).trans<|J7 _ _ _ _;rw[r]at d;subst d;have l:∀p∈a,17<=p.k/\p.k<=25:=by
  have c:=Y7 _ u;rw[Gd]at c;have hs:=c.1;simp only[bO,Ö,or_self,if_true,if_false]at hs;exact λp s=>hs _<|List.mem_map_of_mem s
 intro x g;have f:N[b+aB a].fl.M=bD b w a:=by rw[e];rfl
 change N[b+aB a].M=_ at f;rw[f]at g;obtain⟨G,t,H,rfl,rfl⟩:=NV g;have D:=l t θ;obtain⟨j,y,_,_,A,B,_⟩:=o.part.kd (show 1<=t.k by omega);grind[cJ]
def Ĉ{d}{h}{l}{c}(g:bJ N T d)(n:dU [] 0 (.nd 26 [] 0 d)=.ok h l)(w:∀i,(dG (ó (Q N)<|-1) l).getD i 0≠-1->c i=(dG (ó (Q N)<|-1) l).getD i 0)(y:∀p∈l,p.2≠-1)(z:∀i,i<Q N->(aA N i).x=24->(kC N).getD i 0≠-1)(A:∀i,Q (aA N i).text<=30)(u:∀i,Q (aA N i).M<=1200)(G)(b):
 rn N c G (8*b+20) (.b<|Q N-1) none (eK b)≠.stk/\(∀v B,rn N c G (8*b+20) (.b<|Q N-1) none (eK b)≠.back v B)/\∃r,jL N c G b=C r/\vI r.2.2:=by
 have m:=C3e g n w y<|D5e g z;have t:(aA N<|Q N-1).x=26:=by
  have D:Q N=aB d+1:=by
   have:=congrArg Q g.ey;rw[lZ,R6,nN]at this;exact this
  have o:Em N 0 0 (.nd 26 [] 0 d):=⟨[],[],by simp[g.ey],K⟩;obtain⟨_,q,e⟩:=o.parts;rw[show Q N-1=((0+aB d:Nat):Int) by omega,cJ q];exact(congrArg Nd.x e).trans<|J7 _ _ _ _
 obtain⟨j,k,f⟩:=C6e (Ŋ A u) b m t;refine⟨j,k,?_⟩;unfold jL;cases e:rn N c G (8*b+20) (.b<|Q N-1) none (eK b) with
 |ok a s=>rw[e]at f;exact⟨_,K,f⟩
 |over x i s=>rw[e]at f;exact⟨_,K,f⟩
 |back v s=>grind
 |stk=>grind
end
def YY{l}{N}{T}{i}{x}(hs:(O8 l).2.1=0)(c:∀k,lB 0 ⟨0,[],[]⟩ (gW (O8 l).1<|k+60)=C (.ok ⟨i,N,T⟩ x))(a:Q N<=1200)(b:Q T<=300):dZ l (.inr (N,T)):=
 ⟨hs,⟨i,N,T⟩,x,⟨60,λf d=>by
  obtain⟨k,rfl⟩:∃k,f=k+60:=⟨f-60,W⟩;grind⟩,a,b,K,K⟩
def Rr.Ln{a}(r:Rr a)(l:List bZ):Prop:=match r with
 |.ok _ s=>l<+:s.ln
 |.over _ _ s=>l<+:s.ln
 |.back _ s=>l<+:s.ln
 |.stk=>True
def Mn{a}(m:X a):Prop:=∀s l,l<+:s.ln->(m s).Ln l
theorem Mn.bd{d j}{m}{k:d->X j}(h:Mn m)(f:∀a,Mn<|k a):Mn (m.bd k):=λs l g=>by
 have:=h s l g;unfold X.bd;cases b:m s with
 |ok a c=>rw[b]at this;exact f a c l this
 |over e i c=>rw[b]at this;exact this
 |back v c=>rw[b]at this;exact this
 |stk=>trivial
theorem Mn.cat{m}(h:Mn m):Mn m.cat:=λs l a=>by
 have:=h s l a;unfold X.cat;cases b:m s<;>rw[b]at this<;>exact this
def Mn.co{d}(f:Co->Rc d):Mn (bR f):=λs l b=>by
 unfold bR;cases f s.c with
 |ok a c=>exact b
 |over e i=>exact b
 |stk=>trivial
def nC(x:Int->Int->Prop)(S:Ms->Ms->Prop){k}(m b:X k):Prop:=Mn b/\∀s c,S s c->match m s with
 |.stk=>True
 |.ok a t=>match b c with
  |.ok f d=>a=f/\S t d
  |.stk=>True
  |_=>False
 |.back v t=>match b c with
  |.back j d=>v=j/\S t d
  |.stk=>True
  |_=>False
 |.over e i t=>(x e i/\(b c).Ln t.ln)\/match b c with
  |.over g h d=>g=e/\h=i/\S t d
  |.stk=>True
  |_=>False
section
variable{x:Int->Int->Prop}{S:Ms->Ms->Prop}
theorem nC.bd{q u}{m g}{k p:q->X u}(h:nC x S m g)(j:∀a,nC x S (k a)<|p a):nC x S (m.bd k) (g.bd p):=by
 refine⟨h.1.bd λa=>(j a).1,λs l hs=>?_⟩;have d:=h.2 s l hs;unfold X.bd;cases o:m s with
 |stk=>simp
 |ok a t=>
  rw[o]at d;cases f:g l with
  |ok n c=>
   rw[f]at d;obtain⟨rfl,b⟩:=d;exact(j a).2 t c b
  |stk=>
   grind
  |over e i c=>grind
  |back v c=>grind
 |back v t=>
  grind
 |over e i t=>
  rw[o]at d;obtain⟨r,b⟩|d:=d
  .refine .inl ⟨r,?_⟩;cases f:g l with
   |ok n c=>rw[f]at b;exact(j n).1 c _ b
   |over e i c=>rw[f]at b;exact b
   |back v c=>rw[f]at b;exact b
   |stk=>trivial
  grind
theorem nC.cat{m c}(h:nC x S m c):nC x S m.cat c.cat:=by
 refine⟨h.1.cat,λs f hs=>?_⟩;have b:=h.2 s f hs;unfold X.cat;cases g:m s with
 |stk=>simp
 |ok a t=>
  grind
 |back v t=>
  grind
 |over e i t=>
  rw[g]at b;obtain⟨k,d⟩|b:=b
  .refine .inl ⟨k,?_⟩;cases j:c f<;>rw[j]at d<;>exact d
  grind
def Bw(l):Mn (vX l):=λ_ _ a=>a.trans<|List.prefix_append _ _
def GI:Mn aU:=λs l a=>by
 unfold aU;split<;>exact a
def GT(G)(i)(v):Mn (dJ G i v):=λs l a=>by
 unfold dJ;split
 .exact a
 .split<;>exact a
def Ş(N)(e)(G)(k)(a)(b):Mn (rn N e G k a b):=
 DZ (G':=G) {R:=λm _=>Mn m,stk:=λ_ _ _ _ _ _=>trivial,bd:=λh c=>h.bd c,cat:=λh=>h.cat,co:=λf=>Mn.co f,jv:=GI,uj:=Bw,ret:=λ_ _ _ d=>d,lq:=GT G} k k a b<|vQ _
def SF{N}{n}{G e}(r:∀s a,S s a->s.c=a.c/\(∀c,S {s with c:=c} {a with c:=c})/\s.ln=a.ln/\∀l,S {s with ln:=l} {a with ln:=l})
 (hs:nC x S aU aU) (o:∀i v,nC x S (dJ G i v)<|dJ e i v) (k j) (b) (d) (g:k<=j):nC x S (rn N n G k b d) (rn N n e j b d):=by
 refine DZ {R:=λm q=>nC x S m q,stk:=λk b d=>⟨Ş N n e k b d,λ_ _ _=>trivial⟩,bd:=λh g=>h.bd g,cat:=λh=>h.cat,jv:=hs,lq:=o,co:=λf=>⟨Mn.co f,λs a h=>?_⟩,uj:=λl=>⟨Bw l,λs a h=>?_⟩,ret:=λv=>⟨λ_ _ p=>p,λs a h=>⟨K,h⟩⟩} k j b d g
 .grind[bR]
 grind[vX]
end
def hs(v:Vl)(t:Int):Prop:=û Õ χ v.g t≠0
theorem RC:∀g∈[(1:Nat),2,4,8,16,32,64],∀a:Fin 128,((û Õ χ g ((a:Nat))=0)=((g&&&a)=0))/\(g&&&a=0\/g&&&a=g):=by decide+kernel
def Wp:∀a:Fin 128,∀t:Fin 128,û BinOp.andNot χ ((a:Nat)) ((t:Nat))=0->a&&&(t:Nat)=a:=by decide+kernel
theorem xg:∀a:Fin 128,∀t:Fin 128,û Õ χ ((a:Nat)) ((t:Nat))=(((a:Nat)&&&(t:Nat):Nat)):=by decide+kernel
def Pw.nat{g}(h:Pw g):∃n:Nat,g=n/\n∈[1,2,4,8,16,32,64]:=by
 obtain rfl|rfl|rfl|rfl|rfl|rfl|rfl:=h
 .exact⟨1,K,θ⟩
 .exact⟨2,K,θ⟩
 .exact⟨4,K,θ⟩
 .exact⟨8,K,θ⟩
 .exact⟨16,K,θ⟩
 .exact⟨32,K,θ⟩
 .exact⟨64,K,θ⟩
def GF{a}(h:0<=a/\a<128):∃f:Fin 128,a=(f:Int):=⟨⟨a.toNat,W⟩,â⟩
def RA{v}(h:Pw v.g):hs v 127:=by
 unfold hs;obtain h|h|h|h|h|h|h:=h<;>rw[h]<;>decide
def Tm{v}(h:Pw v.g):hs v v.g:=by
 unfold hs;obtain h|h|h|h|h|h|h:=h<;>rw[h]<;>decide
def YZ{v}(j:Pw v.g){a t}(h:0<=a/\a<128)(k:0<=t/\t<128)(c:hs v a)(d:hs v t):hs v (û .and χ a t):=by
 obtain⟨g,e,b⟩:=j.nat;obtain⟨a,rfl⟩:=GF h;obtain⟨t,rfl⟩:=GF k;have i:((a:Nat)&&&(t:Nat))<128:=Nat.lt_of_le_of_lt Nat.and_le_left a.2;unfold hs at*;rw[e]at*;rw[xg,show (((a:Nat)&&&(t:Nat):Nat):Int)=(((⟨_,i⟩:Fin 128):Nat):Int) from K];rw[ne_eq,(RC g b _).1]at*;have f:=(RC g b a).2.resolve_left c;show¬g&&&((a:Nat)&&&(t:Nat))=0;rw[<-Nat.and_assoc,f];exact d
def Tq{v}(j:Pw v.g){a t}(h:0<=a/\a<128)(k:0<=t/\t<128)(b:hs v a)(c:û .andNot χ a t=0):hs v t:=by
 obtain⟨g,e,i⟩:=j.nat;obtain⟨a,rfl⟩:=GF h;obtain⟨t,rfl⟩:=GF k;have d:=Wp a t c;unfold hs at*;rw[e]at*;rw[ne_eq,(RC g i _).1]at*;intro f;refine b ?_;rw[<-d,Nat.and_comm (a:Nat),<-Nat.and_assoc,f,Nat.zero_and]
inductive lH(S:List Sc)(x:Int):Option Nat->Vl->Prop
 |here {j:Nat} {q:Sc} {v:Vl}:S[j]?=C q->q.o x=C v->lH S x (C j) v
 |up {j:Nat} {q:Sc} {v:Vl}:S[j]?=C q->q.o x=none->lH S x q.up v->lH S x (C j) v
inductive Rw(S:List Sc):Option Nat->Nat->Prop
 |here {j:Nat} {q:Sc}:S[j]?=C q->Rw S (C j) j
 |up {k j:Nat} {q:Sc}:S[k]?=C q->Rw S q.up j->Rw S (C k) j
def GJ{S}{x}:∀{k} {c} {j},W9 S x k c=C j->Rw S c j/\∃q v,S[j]?=C q/\q.o x=C v/\lH S x c v
 |0,c,j,h=>by simp[W9]at h
 |k+1,none,j,h=>by simp[W9]at h
 |k+1,C i,j,h=>by
  rw[W9]at h;cases a:S[i]? with
  |none=>rw[a]at h;simp at h
  |some q=>
   rw[a]at h;simp only at h;cases b:q.o x with
   |some v=>
    rw[b]at h;simp only[Option.isSome_some,if_true,zQ]at h;subst h;exact⟨.here a,q,v,a,b,.here a b⟩
   |none=>
    rw[b]at h;simp only[Option.isSome_none,yZ,if_false]at h;obtain⟨d,l,v,e,f,g⟩:=GJ h;exact⟨.up a d,l,v,e,f,.up a b g⟩
def XS{S o}{x}{v}{j}(r:∀(k) (q),S[k]?=C q->∃m,o[k]?=C m/\m.up=q.up/\m.o x=if k=j then C v else q.o x):∀{k} {n},W9 S x k n=C j->∀u,lH o x n u->u=v
 |0,n,h=>by simp[W9]at h
 |k+1,none,h=>by simp[W9]at h
 |k+1,C i,h=>by
  rw[W9]at h;cases l:S[i]? with
  |none=>rw[l]at h;simp at h
  |some q=>
   rw[l]at h;simp only at h;obtain⟨m,f,t,c⟩:=r i q l;intro u s;cases g:q.o x with
   |some v=>
    rw[g]at h;simp only[Option.isSome_some,if_true,zQ]at h;subst h;rw[yY K]at c;cases s with
    |here a b=>rw[f]at a;cases a;rw[c]at b;cases b;rfl
    |up a b _=>rw[f]at a;cases a;rw[c]at b;cases b
   |none=>
    rw[g]at h;simp only[Option.isSome_none,yZ,if_false]at h;have w:i≠j:=λe=>by
     subst e;obtain⟨_,y,z,a1,p,_⟩:=GJ h;rw[l]at a1;cases a1;rw[g]at p;cases p
    rw[wY w,g]at c;cases s with
    |here a b=>rw[f]at a;cases a;rw[c]at b;cases b
    |up a b d=>
     rw[f]at a;cases a;rw[t]at d;exact XS r h u d
def Dw(S:List Sc):Prop:=∀(i) (q:Sc),S[i]?=C q->∀j,q.up=C j->j<i
def lH.back{S l}{x}(o:Dw S)(n:∀(k:Nat) (q),S[k]?=C q->∃d,l[k]?=C d/\d.up=q.up/\d.o x=q.o x){i}{v}(h:lH l x i v)(hs:∀j,i=C j->j<Q S):lH S x i v:=by
 induction h with
 |@here j q v a b=>
  have c:=hs j K;obtain⟨d,f,_,g⟩:=n j S[j]<|gQ c;rw[f]at a;cases a;exact .here (gQ c)<|g ▸ b
 |@up j q v a b _ p=>
  have c:=hs j K;obtain⟨d,f,m,g⟩:=n j S[j]<|gQ c;rw[f]at a;cases a;refine .up (gQ c) (g ▸ b) ?_;rw[<-m];exact p λk e=>by have:=o j _ (gQ c) k<|m ▸ e;omega
def Rw.back{S f}(n:Dw S)(m:∀(k:Nat) (q),S[k]?=C q->∃c,f[k]?=C c/\c.up=q.up){d}{i}(h:Rw f d i)(hs:∀j,d=C j->j<Q S):Rw S d i:=by
 induction h with
 |@here j q a=>exact .here<|gQ<|hs j K
 |@up j k q a _ o=>
  have b:=hs j K;obtain⟨c,l,g⟩:=m j S[j]<|gQ b;rw[l]at a;cases a;refine .up (gQ b) ?_;rw[<-g];exact o λk e=>by have:=n j _ (gQ b) k<|g ▸ e;omega
def Fm(e:uZ)(c:Nat->Int->Prop)(a d:Co):Prop:=∀(k) (q),a.S[k]?=C q->∃b,d.S[k]?=C b/\b.up=q.up/\∀y,y ∉ e->b.o y=q.o y\/c k y
theorem Fm.refl(c)(b)(a):Fm c b a a:=λ_ q h=>⟨q,h,K,λ_ _=>.inl K⟩
theorem Fm.trans{f}{c}{a b d}(h:Fm f c a b)(k:Fm f c b d):Fm f c a d:=λi q o=>by
 obtain⟨p,l,m,n⟩:=h i q o;obtain⟨r,k1,k2,k3⟩:=k i p l;exact⟨r,k1,k2.trans m,λy g=>(k3 y g).elim (λe=>(n y g).elim (λj=>.inl<|e.trans j) .inr) .inr⟩
def Fm.mono{d}{c W'}{a b}(h:Fm d c a b)(l:∀k y,k<Q a.S->c k y->W' k y):Fm d W' a b:=λi q e=>by
 obtain⟨n,f,g,j⟩:=h i q e;exact⟨n,f,g,λy m=>(j y m).imp id<|l i y (Î.1 e).1⟩
def Fm.same{d}{c}{a b}(h:b.S=a.S):Fm d c a b:=λi q e=>⟨q,by rw[h];exact e,K,λ_ _=>.inl K⟩
theorem Fm.len{d}{c}{a b}(h:Fm d c a b):Q a.S<=Q b.S:=by
 by_cases f:Q a.S=0
 .omega
 .obtain⟨q,e,_⟩:=h (Q a.S-1) _ (gQ W);have:=(Î.1 e).1;omega
def fK(a:uZ)(S:List Sc)(c:Option Nat)(b:Gm):Prop:=∀y t,b y=C t->y ∉ a/\∀v,lH S y c v->hs v t
theorem fK.no{a}{S:List Sc}{b:Option Nat}:fK a S b λ_=>none:=λ_ _ h=>by cases h
def fK.on{c}{f}{a b}{d}{i j}(h:fK c a.S d i)(r:Dw a.S)(hs:iL a d)(s:Fm c f a b)(u:∀y t,j y=C t->i y=C t/\∀k,¬f k y):fK c b.S d j:=λy t e=>by
 obtain⟨n,o⟩:=u y t e;obtain⟨g,p⟩:=h y t n;refine⟨g,λv x=>p v<|x.back r (λk q w=>?_) hs⟩;obtain⟨z,a1,l,m⟩:=s k q w;exact⟨z,a1,l,(m y g).resolve_right<|o k⟩
def Ng(Z:Int->Prop){c}(m:X c)(s:Ms)(ϊ:c->Ms->Prop)(B:Vl->Ms->Prop):Prop:=match m s with
 |.ok a b=>ϊ a b
 |.back v b=>B v b
 |.over e i _=>e=2->¬Z i
 |.stk=>True
section
variable{Z:Int->Prop}{a d:Type}{m:X a}{s:Ms}{ϊ Q':a->Ms->Prop}{B b:Vl->Ms->Prop}
def Ng.mono(h:Ng Z m s ϊ B)(i:∀f c,ϊ f c->Q' f c)(g:∀v c,B v c->b v c):Ng Z m s Q' b:=by
 unfold Ng at*;cases e:m s<;>rw[e]at h
 .exact i _ _ h
 .exact h
 .exact g _ _ h
 .trivial
theorem Ng.bd{k}{R:d->Ms->Prop}(h:Ng Z m s ϊ B)(g:∀c f,ϊ c f->Ng Z (k c) f R B):Ng Z (m.bd k) s R B:=by
 unfold Ng X.bd at*;cases e:m s<;>rw[e]at h
 .exact g _ _ h
 .exact h
 .exact h
 .trivial
theorem Ng.fe{c}(h:ϊ c s):Ng Z (aF c) s ϊ B:=h
def Ng.ite{c}[Decidable c]{f g}(h:c->Ng Z f s ϊ B)(k:¬c->Ng Z g s ϊ B):Ng Z (if c then f else g) s ϊ B:=by
 by_cases e:c
 .rw[yY e];exact h e
 .rw[wY e];exact k e
theorem Ng.cat{m}{ϊ R}(h:Ng Z m s ϊ B)(g:∀f c,ϊ f c->R [vO] c)(i:∀v c,B v c->R [v] c):Ng Z m.cat s R b:=by
 unfold Ng X.cat at*;cases e:m s<;>rw[e]at h
 .exact g _ _ h
 .exact h
 .exact i _ _ h
 .trivial
def Ng.co{f}(h:∀g c,f s.c=.ok g c->ϊ g {s with c:=c}):Ng Z (bR f) s ϊ B:=by
 unfold Ng bR;cases e:f s.c with
 |ok g c=>exact h g c e
 |over e i=>intro j;omega
 |stk=>trivial
def Ng.jv{ϊ}(h:ϊ () {s with fu:=s.fu-1}):Ng Z aU s ϊ B:=by
 unfold Ng aU;by_cases c:s.fu=0
 .rw[yY c];intro e;omega
 .rw[wY c];exact h
def Ng.lq{G}{i}{v}{ϊ}(h:(∀t,G i=C t->hs v t)->∀g,g.c=s.c->ϊ v g)(k:∀t,G i=C t->¬hs v t->¬Z i):Ng Z (dJ G i v) s ϊ B:=by
 unfold Ng dJ;cases f:G i with
 |none=>exact h (λt e=>by rw[f]at e;cases e) s K
 |some t=>
  simp only;by_cases c:û Õ χ v.g t=0
  .rw[yY c];intro _;exact k t f λj=>j c
  .rw[wY c];exact h (λl e=>by rw[f]at e;cases e;exact c) _ K
def Ng.jm{i g}{v}{ϊ}(h:v.g=g->ϊ () s):Ng Z (eO i v g) s ϊ B:=Ng.co λf c e=>by
 split at e
 .cases e;exact h ‹_›
 .cases e
def Ng.kj{v}{ϊ}(h:∀j t,v.h=C j->s.c.T[j]?=C t->ϊ t s):Ng Z (fR v) s ϊ B:=Ng.co λi c e=>by
 cases g:v.h with
 |none=>rw[g]at e;cases e
 |some j=>
  rw[g]at e;simp only[Option.bind_some]at e;cases f:s.c.T[j]? with
  |none=>rw[f]at e;cases e
  |some t=>rw[f]at e;cases e;exact h j _ g f
def Ng.nk(h:Nk m s ϊ B)(c:∀e i g,m s=.over e i g->e≠2):Ng Z m s ϊ B:=by
 have h:=h.1;unfold Nj Ng at*;cases e:m s<;>rw[e]at h
 .exact h
 .intro f;exact absurd f<|c _ _ _ e
 .exact h
 .trivial
end
def jB(c:Cx)(i:Int):Int:=c.fn.getD i.toNat 0
structure Sx(c:Cx):Prop where
 fl:∀(i:Nat) (h:i<Q c.N),oI c.N c.T i c.N[i]
 pt:∀i:Nat,i<Q c.N->(aD<|aA c.N (i:Int)).Pairwise (·<·)/\∀p∈aD (aA c.N (i:Int)),0<=p/\p<i/\jB c p=if (aA c.N (i:Int)).x=6 then (i:Int) else jB c i
structure jS(c:Cx)(F i:Int):Prop where
 lo:0<=i
 hi:i<Q c.N
 fn:jB c i=F
 ab:F=-1\/i<F
section
variable{c:Cx}{g:Gm}{d:uZ}{e:Gm}{f:Int->Int}
theorem jS.pt{F i p}(h:jS c F i)(S:Sx c)(n:p∈aD (aA c.N i))(m:(aA c.N i).x≠6):jS c F p/\p<i:=by
 obtain⟨k,o,l,q⟩:=h;obtain⟨i,rfl⟩:=È k;obtain⟨a,b,j⟩:=(S.pt i W).2 p n;rw[wY m]at j;exact⟨⟨a,W,j.trans l,W⟩,b⟩
def jS.tq{F i p}(h:jS c F i)(S:Sx c)(m:p∈aD (aA c.N i))(l:(aA c.N i).x=6):jS c i p/\p<i:=by
 obtain⟨k,n,o,q⟩:=h;obtain⟨i,rfl⟩:=È k;obtain⟨a,b,j⟩:=(S.pt i W).2 p m;rw[yY l]at j;exact⟨⟨a,W,j,.inr b⟩,b⟩
theorem jS.fl{F i}(h:jS c F i)(S:Sx c):oI c.N c.T i.toNat (aA c.N i):=by
 obtain⟨b,j,k,l⟩:=h;obtain⟨i,rfl⟩:=È b;have a:i<Q c.N:=W;rw[B7 a];exact S.fl i a
def Hu(c:Cx)(g:Gm)(d:uZ)(e:Gm)(i:Int):Prop:=jS c (jB c i) i/\(aA c.N i).x=6/\∃a b,i.toNat<=a/\∀p∈(gB c g d a (aD<|aA c.N i) ⟨λ_=>none,b⟩).lf,e p.1=C p.2
structure Iw(c:Cx)(g:Gm)(d:uZ)(e:Gm)(a:Co)(ow:Nat->Int):Prop where
 ok:iE c.N a
 w1:∀(k:Nat) (q:Sc) (y:Int),a.S[k]?=C q->(q.o y).isSome->jB c y=ow k
 w2:∀(k:Nat) (q:Sc) (j:Nat),a.S[k]?=C q->q.up=C j->ow j=ow k\/(0<=ow k/\ow j=jB c (ow k))
 w4:∀k,k<Q a.S->ow k=-1\/(0<=ow k/\(jB c (ow k)=-1\/ow k<jB c (ow k)))
 fn:∀(i:Nat) (t:Th),a.T[i]?=C t->t.k=64->Hu c g d e t.nd/\∀k,t.sc=C k->ow k=jB c t.nd
def Iw.dw{a}{j}(h:Iw c g d e a j):Dw a.S:=λi q b=>(h.ok.S i q b).2
structure Po(c:Cx)(g:Gm)(d:uZ)(e:Gm)(ύ:Nat->Int->Prop)(a a':Co)(ow ow':Nat->Int):Prop where
 fm:Fm d ύ a a'
 ow:∀k,k<Q a.S->ow' k=ow k
 iw:Iw c g d e a' ow'
 gr:Gr a a'
theorem Po.refl{i}{a}{b}(h:Iw c g d e a b):Po c g d e i a a b b:=⟨.refl _ _ _,λ_ _=>K,h,Gr.refl _⟩
theorem Po.trans{j}{a b l}{n o p}(h:Po c g d e j a b n o)(k:Po c g d e j b l o p):Po c g d e j a l n p:=
 ⟨h.fm.trans k.fm,λi m=>(k.ow i<|yQ m h.gr.S).trans<|h.ow i m,k.iw,h.gr.trans k.gr⟩
def Po.mono{i W'}{a b}{j l}(h:Po c g d e i a b j l)(m:∀k y,k<Q a.S->i k y->W' k y):Po c g d e W' a b j l:=⟨h.fm.mono m,h.ow,h.iw,h.gr⟩
def Nw:Nat->Int->Prop:=λ_ _=>False
theorem Po.none{k}{a b}{i j}(h:Po c g d e Nw a b i j):Po c g d e k a b i j:=h.mono λ_ _ _ x=>x.elim
def Po.same{r}{a l}{n}(h:Iw c g d e a n)(m:l.S=a.S)(z:Gr a l)(A:iE c.N l)(x:∀(i:Nat) (t),l.T[i]?=C t->t.k=64->∃b,a.T[i]?=C b/\b.k=64/\b.nd=t.nd/\b.sc=t.sc):Po c g d e r a l n n where
 fm:=Fm.same m;ow _ _:=K;gr:=z;iw:=⟨A,λk q y p=>h.w1 k q y<|by rw[<-m];exact p,λk q j p=>h.w2 k q j<|by rw[<-m];exact p,λk o=>h.w4 k<|by rw[<-m];exact o,λi t B o=>by
  obtain⟨b,s,u,v,w⟩:=x i t B o;have:=h.fn i b s u;rw[v,w]at this;exact this⟩
structure Cu(F:Int)(b:Nat)(sc:Option Nat)(a:Co)(ow:Nat->Int):Prop where
 jo:iL a sc
 top:∀k,sc=C k->ow k=F
 own:∀j,Rw a.S sc j->ow j=F->b<=j
theorem Rw.lt{S}{b}{j}(h:Rw S b j):j<Q S:=by
 induction h with
 |here h=>exact(Î.1 h).1
 |up _ _ a=>exact a
def Cu.on{F}{b}{r}{s}{a n}{m p}(h:Cu F b r a m)(u:Iw c g d e a m)(k:Po c g d e s a n m p):Cu F b r n p:=by
 refine⟨h.jo.gr k.gr,λi l=>(k.ow i<|h.jo i l).trans<|h.top i l,λj v l=>?_⟩;have o:=v.back u.dw (λx q w=>by obtain⟨y,a1,t,_⟩:=k.fm x q w;exact⟨y,a1,t⟩) h.jo;exact h.own j o<|(k.ow j o.lt).symm.trans l
def fK.po{j}{a l}{n r}{b}{m}(h:fK d a.S b m)(q:Iw c g d e a n)(hs:iL a b)(k:Po c g d e j a l n r)(p:∀i y,¬j i y):fK d l.S b m:=h.on q.dw hs k.fm λy _ o=>⟨o,λi=>p i y⟩
def YX{A:Nat->Int->Prop}{a}{o:Nat->Int}{u:Option Nat}{F}(h:Iw c g d e a o)(x:iL a u)(hF:F=-1\/(0<=F/\(jB c F=-1\/F<jB c F)))(B:∀j,u=C j->o j=F\/(0<=F/\o j=jB c F)):
 Po c g d e A a {a with S:=a.S++[⟨λ_=>none,u⟩]} o (λk=>if k=Q a.S then F else o k):=by
 have v:∀(k:Nat) (q:Sc),(a.S++[⟨λ_=>none,u⟩])[k]?=C q->(k<Q a.S/\a.S[k]?=C q)\/(k=Q a.S/\q=⟨λ_=>none,u⟩):=λk q b=>by
  obtain n|n:=Nat.lt_or_ge k (Q a.S)
  .rw[List.getElem?_append_left n]at b;exact .inl ⟨n,b⟩
  .rw[List.getElem?_append_right n]at b;obtain l|l:=Nat.eq_zero_or_pos<|k-Q a.S
   .rw[l]at b;simp only[List.getElem?_cons_zero,zQ]at b;exact .inr ⟨W,b.symm⟩
   .rw[List.getElem?_eq_none â]at b;cases b
 refine⟨λk q b=>⟨q,?_,K,λ_ _=>.inl K⟩,λk r=>wY W,⟨h.ok.kr x,λk q y b z=>?_,λk q j b p=>?_,λk r=>?_,λi t w r=>?_⟩,CF u⟩
 .simp only;rw[List.getElem?_append_left (Î.1 b).1];exact b
 .obtain⟨s,m⟩|⟨_,rfl⟩:=v k q b
  .rw[wY W];exact h.w1 k q y m z
  .cases z
 .obtain⟨s,m⟩|⟨rfl,rfl⟩:=v k q b
  .have:=(h.ok.S k q m).2 j p;rw[wY W,wY W];exact h.w2 k q j m p
  .have n:=x j p;rw[wY W,yY K];exact B j p
 .simp only[qQ,Û]at r;by_cases l:k=Q a.S
  .rw[yY l];exact hF
  .rw[wY l];exact h.w4 k W
 .obtain⟨s,m⟩:=h.fn i t w r;refine⟨s,λk l=>?_⟩;have:=(h.ok.T i t w).sc k l;rw[wY W];exact m k l
theorem SC{S:List Sc}{j}{x}{v}(k)(q)(b:S[k]?=C q):(S.modify j λq=>⟨λy=>if y=x then C v else q.o y,q.up⟩)[k]?=C (if k=j then ⟨λy=>if y=x then C v else q.o y,q.up⟩ else q):=by
 rw[List.getElem?_modify,b];by_cases a:j=k
 .subst a;simp
 .rw[wY<|Ne.symm a];simp[a]
def PK{s}{a}{p}{j}{x}{v}(h:Iw c g d e a p)(D:aZ a v)(A:jB c x=p j)(z:x ∉ d->s j x):Po c g d e s a {a with S:=a.S.modify j λq=>⟨λy=>if y=x then C v else q.o y,q.up⟩} p p:=by
 have w:∀(k:Nat) (m:Sc),(a.S.modify j λq=>⟨λy=>if y=x then C v else q.o y,q.up⟩)[k]?=C m->∃q,a.S[k]?=C q/\m=if k=j then ⟨λy=>if y=x then C v else q.o y,q.up⟩ else q:=λk m l=>by
  cases b:a.S[k]? with
  |none=>rw[List.getElem?_modify,b]at l;cases l
  |some q=>rw[SC k q b]at l;cases l;exact⟨q,K,K⟩
 refine⟨λk q l=>⟨_,SC k q l,by split<;>rfl,λy n=>?_⟩,λ_ _=>K,⟨h.ok.ke j x D,λk m y l n=>?_,λk m i l t=>?_,λk r=>h.w4 k<|by simpa using r,λi u B r=>h.fn i u B r⟩,vF j _⟩
 .split
  .rename_i b;subst b;by_cases b:y=x
   .subst b;exact .inr<|z n
   .exact .inl<|wY b
  .exact .inl K
 .obtain⟨q,o,rfl⟩:=w k m l;split at n
  .rename_i b;subst b;by_cases b:y=x
   .subst b;exact A
   .simp only[wY b]at n;exact h.w1 k q y o n
  .exact h.w1 k q y o n
 .obtain⟨q,o,rfl⟩:=w k m l;refine h.w2 k q i o ?_;split at t<;>exact t
theorem Rw.u{a}{b}(h:Iw c g d e a b){F}{n}{j}(r:Rw a.S n j)(hs:∀k,n=C k->b k=-1\/F<b k):b j=-1\/F<b j:=by
 induction r with
 |here _=>exact hs _ K
 |@up k j q m _ s=>
  refine s λi o=>?_;have p:=hs k K;obtain l|⟨l,e2⟩:=h.w2 k q i m o
  .rw[l];exact p
  .have:=h.w4 k (Î.1 m).1;omega
end
section
variable{c:Cx}{g:Gm}{a:uZ}{d:Gm}{Z:Int->Prop}{B:Vl->Ms->Prop}
theorem Ng.then{b i}{m:X b}{s}{ϊ:b->Ms->Prop}{R:i->Ms->Prop}{k:b->X i}(h:Ng Z m s ϊ λ_ _=>False)(j:∀e f,ϊ e f->Ng Z (k e) f R B):Ng Z (m.bd k) s R B:=(h.mono (λ_ _ x=>x) λ_ _ x=>x.elim).bd j
def OS{o:Vl}{t}{s:Ms}{m:Nat->Int}{j}{p:bZ->Option Vl}{l:List Vl}(h:Iw c g a d s.c m)(w:o.h=C j)(f:s.c.T[j]?=C t)(y:∀x v,p x=C v->aZ s.c v)(q:∀v∈l,aZ s.c v)(r:Q l<=1200+s.c.th):Ng Z (fL o {t with p:=p,l:=l}) s (λ_ A=>Po c g a d Nw s.c A.c m m) B:=by
 have k:=tW (c:=s.c) (u:={t with p:=p,l:=l}) f K;unfold Ng fL bR;simp only[w,Option.getD_some];refine Po.same h K k (h.ok.ld f K<|Hq (h.ok.T j t f) k (λx v e=>(y x v e).gr k) (λv z=>(q v z).gr k) r) λi u b n=>?_;by_cases e:j=i
 .subst e;simp only at b;rw[List.getElem?_set_self (Î.1 f).1]at b;cases b;exact⟨t,f,n,K,K⟩
 .simp only at b;rw[List.getElem?_set_ne e]at b;exact⟨u,b,n,K,K⟩
def Vw{i}{x}{o v}{s}{n:Nat->Int}(h:Iw c g a d s.c n)(q:aZ s.c v):Ng Z (mC i x o v) s (λ_ f=>Po c g a d Nw s.c f.c n n) B:=by
 unfold mC;refine Ng.bd (Ng.jm (ϊ:=λ_ f=>f=s) λ_=>K) λ_ p e=>?_;subst e;refine Ng.bd (Ng.kj (ϊ:=λt f=>f=p/\∃j,o.h=C j/\p.c.T[j]?=C t) λj t l k=>⟨K,j,l,k⟩) λt r e=>?_;obtain⟨rfl,j,l,k⟩:=e;have m:=h.ok.T j t k;refine OS (l:=t.l) h l k (λy u b=>?_) m.l m.fq;have b:(if y=x then C v else t.p y)=C u:=b;split at b
 .cases b;exact q
 .exact m.p y u b
def JX{i}{s:Ms}{f:Nat->Int}{ϊ:Unit->Ms->Prop}(h:Iw c g a d s.c f)(k:Po c g a d Nw s.c {s.c with th:=s.c.th+1} f f->ϊ () {s with c:={s.c with th:=s.c.th+1}}):Ng Z (bX i) s ϊ B:=Ng.co λn o e=>by
 have p:=h.ok.th;split at e
 .cases e
 .cases e;have j:Gr s.c {s.c with th:=s.c.th+1}:=⟨λ_ t b=>⟨t,b,K⟩,vQ _⟩;exact k<|Po.same h K j (h.ok.of j ⟨θ,by simp only;omega⟩ h.ok.ca (λ_ _ b=>.inl b) λ_ _ m=>.inl m) λ_ t b l=>⟨t,b,l,K,K⟩
def Eh{b}{f}{x}(h:Iw c g a d b f)(l:x<=40):Po c g a d Nw b {b with ca:=x} f f:=by
 have i:Gr b {b with ca:=x}:=⟨λ_ t e=>⟨t,e,K⟩,vQ _⟩;exact Po.same h K i (h.ok.of i ⟨vQ _,h.ok.th⟩ l (λ_ _ e=>.inl e) λ_ _ k=>.inl k) λ_ t e j=>⟨t,e,j,K,K⟩
def Vr{i}{o A v}{s}{p:Nat->Int}(h:Iw c g a d s.c p)(r:aZ s.c v):Ng Z (lE i o A v) s (λ_ b=>Po c g a d Nw s.c b.c p p) B:=by
 unfold lE;refine Ng.bd (Ng.jm (ϊ:=λ_ b=>b=s) λ_=>K) λ_ L e=>?_;subst e;refine Ng.bd (Ng.jm (ϊ:=λ_ b=>b=L) λ_=>K) λ_ w e=>?_;subst e;refine Ng.bd (Ng.kj (ϊ:=λt b=>b=w/\∃j,o.h=C j/\w.c.T[j]?=C t) λj t q n=>⟨K,j,q,n⟩) λt z e=>?_;obtain⟨rfl,j,q,n⟩:=e;have f:=h.ok.T j t n;refine Ng.ite (λ_=>?_) λ_=>Ng.ite (λ_=>?_) λ_=>Ng.co λ_ _ e=>by cases e
 .refine OS (p:=t.p) h q n f.p (λu l=>?_) (by rw[List.length_set];exact f.fq);obtain e|e:=List.mem_or_eq_of_mem_set l
  .exact f.l u e
  .rw[e];exact r
 .refine Ng.bd (JX (ϊ:=λ_ b=>Po c g a d Nw z.c b.c p p/\b.c.T[j]?=C t/\b.c.th=z.c.th+1) h λG=>⟨G,n,K⟩) λ_ M e=>?_;obtain⟨m,D,F⟩:=e;refine(OS (p:=t.p) m.iw q D (λy u H=>(f.p y u H).gr m.gr) (λu l=>?_)<|by rw[qQ,F];have:=f.fq;simp;omega).mono (λ_ _ k=>m.trans k) λ_ _ x=>x;rw[qW,zW]at l;obtain l|rfl:=l
  .exact(f.l u l).gr m.gr
  .exact r.gr m.gr
def OQ{t}{s}{f:Nat->Int}{ϊ:Nat->Ms->Prop}(h:Iw c g a d s.c f)(p:jP c.N {s.c with T:=s.c.T++[t]} t)(o:t.k=64->Hu c g a d t.nd/\∀k,t.sc=C k->f k=jB c t.nd)(n:∀l,Po c g a d Nw s.c l.c f f->l.c.T[Q s.c.T]?=C t->ϊ (Q s.c.T) l):Ng Z (eL t) s ϊ B:=by
 unfold Ng eL bR;refine n _ ⟨Fm.same K,λ_ _=>K,⟨h.ok.ko p,h.w1,h.w2,h.w4,λi u b m=>?_⟩,W8 t⟩ θ;obtain j|j:=Nat.lt_or_ge i (Q s.c.T)
 .simp only at b;rw[List.getElem?_append_left j]at b;exact h.fn i u b m
 .simp only at b;rw[List.getElem?_append_right j]at b;obtain e|e:=Nat.eq_zero_or_pos<|i-Q s.c.T
  .rw[e]at b;simp only[List.getElem?_cons_zero,zQ]at b;subst b;exact o m
  .rw[List.getElem?_eq_none â]at b;cases b
def ZC{N:List Nd}{b}(h:iE N b):Inv N (λ_ _ _=>True) b:=⟨h,λ_ _ _ _=>⟨κ,λ_=>False,trivial,λ_ h=>h.elim⟩⟩
def lG{f}(m:X f):Prop:=∀s e i b,m s=.over e i b->e≠2
def lG.co{j}(f:Co->Rc j):lG (bR f):=λs e i k h=>by
 unfold bR at h;cases b:f s.c<;>rw[b]at h<;>cases h;omega
theorem lG.bd{j o}{m}{k:j->X o}(h:lG m)(n:∀l,lG<|k l):lG (m.bd k):=λs e i p b=>by
 unfold X.bd at b;cases f:m s<;>rw[f]at b
 .exact n _ _ _ _ _ b
 .cases b;exact h _ _ _ _ f
 .cases b
 .cases b
def Vx{i}{sg}{k b}{s}:Ng Z (mD i sg k b) s (λv f=>Qo s v f/\(pC sg≠0->sg∈[[61,61],[60],[43],[45],[42]]->v.g=pC sg)) B:=by
 unfold mD;refine Ng.ite (λh=>?_) λm=>Ng.ite (λh=>?_) λn=>?_
 .exact Ng.fe ⟨⟨K,uP _ _⟩,λ_ _=>by subst h;rfl⟩
 .refine Ng.bd (Ng.jm (ϊ:=λ_ f=>f=s) λ_=>K) λ_ _ e=>Ng.fe ⟨⟨e,zE _<|by have:=List.length_take_le 200<|k.t++b.t;omega⟩,λj _=>absurd (by rw[h.1];decide) j⟩
 .refine Ng.bd (Ng.jm (ϊ:=λ_ f=>f=s) λ_=>K) λ_ _ e=>Ng.bd (Ng.jm (ϊ:=λ_ f=>f=s) λ_=>e) λ_ _ e=>Ng.fe ⟨⟨e,?_⟩,λj l=>?_⟩
  .repeat' split
   all_goals first|exact xC _ _|exact uP _ _
  .simp only[jW,rZ,or_false]at l;obtain rfl|rfl|rfl|rfl|rfl:=l
   .exact absurd K m
   .rfl
   .exact absurd ζ j
   .rfl
   .rfl
def Vu{i}{sg}{v}{s}:Ng Z (kP i sg v) s (λu b=>Qo s u b/\(sg∈[[33],[45],[116,121,112,101,111,102]]->u.g=pC sg)) B:=by
 unfold kP;refine Ng.ite (λh=>?_) λj=>Ng.ite (λh=>?_) λk=>?_
 .exact Ng.fe ⟨⟨K,uP _ _⟩,λ_=>by subst h;rfl⟩
 .exact Ng.fe ⟨⟨K,zE _<|by have:=Iz v.g;omega⟩,λ_=>by subst h;rfl⟩
 .refine Ng.bd (Ng.jm (ϊ:=λ_ b=>b=s) λ_=>K) λ_ _ e=>Ng.fe ⟨⟨e,xC _ _⟩,λf=>?_⟩;simp only[jW,rZ,or_false]at f;obtain rfl|rfl|rfl:=f
  .exact absurd K j
  .rfl
  .exact absurd K k
def Vo{i}{v}{x}{s}{k}(h:Iw c g a d s.c k)(f:aZ s.c v):Ng Z (mB i v x) s (Qo s) B:=Ng.nk (Eb (ZC h.ok) f) λe j l b=>by
 refine(?_:lG<|mB i v x) s e j l b;unfold mB;split
 .exact(lG.co _).bd λ_=>lG.co _
 .exact(lG.co _).bd λ_=>(lG.co _).bd λ_=>lG.co _
def ũ{i}{v b}{s}{l}(h:Iw c g a d s.c l)(k:aZ s.c v):Ng Z (mY i v b) s (Qo s) B:=Ng.nk (Ds (ZC h.ok) k) λe j m f=>((lG.co _).bd λ_=>(lG.co _).bd λ_=>(lG.co _).bd λ_=>lG.co _:lG<|mY i v b) s e j m f
def WV(i)(s):s.lf<+:(cP c g a i s).lf:=by
 unfold cP dH;repeat' split
 all_goals first|exact ö _|exact List.prefix_append _ _
def nV:∀(f) (i) (s),s.lf<+:(bH c g a f i s).lf
 |0,_,s=>ö _
 |f+1,i,s=>by
  have key:∀(l:uZ) (s:Es),s.lf<+:(l.foldl (λs x=>bH c g a f x s) s).lf:=λl=>by
   induction l with
   |nil=>exact λs=>ö _
   |cons x r e=>exact λs=>(nV f x s).trans<|e _
  have j:∀(h:Gm) (l:uZ) (b:List<|Int×Int),b<+:l.foldl (λl x=>(bH c g a f x ⟨h,l⟩).lf) b:=λh l=>by
   induction l with
   |nil=>exact λs=>ö _
   |cons x r e=>exact λb=>(nV f x ⟨h,b⟩).trans<|e _
  rw[bH];refine List.IsPrefix.trans ?_<|WV _ _;split
  .exact key _ ⟨λ_=>none,s.lf⟩
  split
  .exact(nV f _ s).trans<|j _ _ _
  split
  .exact key [(aA c.N i).a,(aA c.N i).b] ⟨gP c f [(aA c.N i).a,(aA c.N i).b] s.kn,s.lf⟩
  .exact key _ s
def JO(f):∀(l) (s),s.lf<+:(gB c g a f l s).lf
 |[],_=>ö _
 |x::r,s=>(nV f x s).trans<|JO f r _
def Lf(d:Gm)(l:List<|Int×Int):Prop:=∀p∈l,d p.1=C p.2
def Lf.pre{l b}(h:Lf d b)(f:l<+:b):Lf d l:=λp e=>h p<|f.subset e
def Fg(c:Cx)(f:Nat)(i:Int)(y:Int):Prop:=∀b,kR c f i b y=none
def lL(c:Cx)(f:Nat)(l:uZ)(y:Int):Prop:=∀b,gP c f l b y=none
def Ct:∀(f) (i) (b) (y),b y=none->kR c f i b y=none
 |0,_,_,_,h=>h
 |f+1,i,b,y,h=>by
  rw[kR];split
  .exact h
  .have e:(if (aA c.N i).x=18 then kX b (eH c i) else b) y=none:=by
    split
    .unfold kX;split
     .rfl
     .exact h
    .exact h
   generalize (if (aA c.N i).x=18 then kX b (eH c i) else b)=k at*;generalize aD (aA c.N i)=l;induction l generalizing k with
   |nil=>exact e
   |cons x r j=>exact j _<|Ct f x k y e
def xU(f):∀(l) (b) (y),b y=none->gP c f l b y=none
 |[],_,_,h=>h
 |x::r,b,y,h=>xU f r _ y<|Ct f x b y h
def Cy:∀(f) (i) (b) (y),kR c f i b y=b y\/Fg c f i y
 |0,_,_,_=>.inl K
 |f+1,i,b,y=>by
  have key:∀(l:uZ) (b:Gm),l.foldl (λk x=>kR c f x k) b y=b y\/∀k,l.foldl (λk x=>kR c f x k) k y=none:=λl=>by
   induction l with
   |nil=>exact λ_=>.inl K
   |cons x r o=>
    intro b;obtain e|e:=o<|kR c f x b
    .obtain h|h:=Cy f x b y
     .exact .inl<|e.trans h
     .exact .inr λk=>xU f r _ y<|h k
    .exact .inr λk=>e _
  unfold Fg;simp only[kR];by_cases j:(aA c.N i).x=6
  .simp only[yY j];exact .inl trivial
  simp only[wY j];by_cases m:(aA c.N i).x=18
  .simp only[yY m];obtain e|e:=key (aD<|aA c.N i)<|kX b<|eH c i
   .by_cases n:y=eH c i
    .refine .inr λk=>xU f _ _ y ?_;simp[kX,n]
    .refine .inl<|e.trans ?_;simp[kX,n]
   .exact .inr λk=>e _
  .simp only[wY m];exact key _ b
def GD(f):∀(l) (b) (y),gP c f l b y=b y\/lL c f l y
 |[],_,_=>.inl K
 |x::r,b,y=>by
  obtain e|e:=GD f r (kR c f x b) y
  .obtain h|h:=Cy f x b y
   .exact .inl<|Eq.trans e h
   .exact .inr λk=>xU f r _ y<|h k
  .exact .inr λk=>e _
def lL.mem{f}{y x}:∀{l},x∈l->Fg c f x y->lL c f l y
 |b::r,h,e=>λk=>by
  obtain rfl|h:=jW.1 h
  .exact xU f r _ y<|e k
  .exact lL.mem h e _
theorem Fg.l{f}{i y}(h:lL c f (aD<|aA c.N i) y)(b:(aA c.N i).x≠6):Fg c (f+1) i y:=λk=>by
 rw[kR,wY b];exact h _
theorem Fg.set{f}{i}(b:(aA c.N i).x=18):Fg c (f+1) i (eH c i):=λk=>by
 rw[kR,wY W,yY b];exact xU f _ _ _ (by simp[kX])
def fK.lp{S}{b}{i}{x t}(h:fK a S b i)(j:x ∉ a->∀v,lH S x b v->hs v t):fK a S b (bN a i x t):=λy u e=>by
 unfold bN at e;split at e
 .exact h y u e
 .rename_i f;unfold vR at e;split at e
  .rename_i k;subst k;cases e;exact⟨f,j f⟩
  .exact h y u e
def lH.ud{S}{x}{j}{v u}(h:lH S x j v)(k:lH S x j u):v=u:=by
 induction h with
 |here i b=>
  cases k with
  |here e f=>rw[i]at e;cases e;rw[b]at f;cases f;rfl
  |up e f _=>rw[i]at e;cases e;rw[b]at f;cases f
 |up i b _ m=>
  cases k with
  |here e f=>rw[i]at e;cases e;rw[b]at f;cases f
  |up e f l=>rw[i]at e;cases e;exact m l
def fK.lu{S}{f}{b}(h:fK a S f b){x}{v}(j:lH S x f v)(i:Pw v.g):hs v (eX b x):=by
 unfold eX;cases e:b x with
 |none=>exact RA i
 |some t=>exact(h x t e).2 v j
end
structure Hy(c:Cx)(g:Gm)(ct:uZ)(nm:Int->Int):Prop where
 sx:Sx c
 tg:bP g
 nm:∀i:Int,0<=i->i<Q c.N->(aA c.N i).x=5\/(aA c.N i).x=18->nm i=eH c i
 ct:∀i:Int,0<=i->i<Q c.N->(aA c.N i).x=18->eH c i ∉ ct->jB c (eH c i)=jB c i
 tx:∀i,Q (aA c.N i).text<=30
 ls:∀i,Q (aA c.N i).M<=1200
 pg:∀i:Int,0<=i->i<Q c.N->(aA c.N i).x=26->∀x∈(aA c.N i).M,17<=(aA c.N x).x/\(aA c.N x).x<=25
structure He(c:Cx)(g:Gm)(ct:uZ)(G':Gm)(F:Int)(b:Nat)(sc:Option Nat)(a:Co)(ow:Nat->Int)(kn:Gm):Prop where
 iw:Iw c g ct G' a ow
 cu:Cu F b sc a ow
 kk:fK ct a.S sc kn
 tg:bP kn
 fF:F=-1\/(0<=F/\(jB c F=-1\/F<jB c F))
 bl:b<=Q a.S
def Bn:Vl->Ms->Prop:=λ_ _=>False
section
variable{c:Cx}{g:Gm}{a:uZ}{d:Gm}{h:Int->Int}{F:Int}{b:Nat}{e:Option Nat}{f i:Nat->Int}{j k:Gm}
def He.on{o m}{p}(l:He c g a d F b e o f j)(n:Po c g a d p o m f i)(q:fK a m.S e k)(r:bP k):He c g a d F b e m i k:=
 ⟨n.iw,l.cu.on l.iw n,q,r,l.fF,kQ l.bl n.gr.S⟩
def Ik(c:Cx)(g:Gm)(a:uZ)(d:Gm)(l:Int)(e:Option Nat)(s:Ms)(f:Nat->Int)(j:Gm)(n:List Vl)(m:Ms):Prop:=
 ∃v i,n=[v]/\aZ m.c v/\Po c g a d Nw s.c m.c f i/\fK a m.c.S e j/\((aA c.N l).x=5->lH m.c.S (eH c l) e v)/\(hY (aA c.N l)≠0->v.g=hY (aA c.N l))
def VQ(c:Cx)(g:Gm)(a:uZ)(d:Gm)(n:Int)(e:Option Nat)(s:Ms)(f:Nat->Int)(j:Gm)(m:List Vl)(l:Ms):Prop:=
 ∃v i,m=[v]/\aZ l.c v/\Po c g a d Nw s.c l.c f i/\fK a l.c.S e j/\hs v (kM c g j n)
def Zg(d:Gm):Int->Prop:=λl=>d l=none
def PT(c:Cx)(g:Gm)(a:uZ)(d:Gm)(h:Int->Int)(o:Nat):Prop:=∀(l F) (b) (e) (s) (f) (m) (n),jS c F l->1<=(aA c.N l).x/\(aA c.N l).x<=14->l.toNat<=n->Lf d (gM c g a n m<|aA c.N l).lf->He c g a d F b e s.c f m.kn->
 Ng (Zg d) (rn c.N h g o (.e l) e) s (Ik c g a d l e s f (gM c g a n m<|aA c.N l).kn) Bn
def yJ(c:Cx)(g:Gm)(a:uZ)(d:Gm)(h:Int->Int)(o:Nat):Prop:=∀(l F) (b) (e) (s) (f) (m) (n),jS c F l->1<=(aA c.N l).x/\(aA c.N l).x<=14->l.toNat<n->Lf d (bH c g a n l m).lf->He c g a d F b e s.c f m.kn->
 Ng (Zg d) (rn c.N h g o (.v l) e) s (VQ c g a d l e s f (bH c g a n l m).kn) Bn
def Lz(x:Hy c g a h){Z}(he:PT c g a d h Z):yJ c g a d h (Z+1):=by
 intro a9 F b e a7 f r n H hK hf s m;obtain⟨n,rfl⟩:∃a6,n=a6+1:=⟨n-1,W⟩;obtain⟨l,rfl⟩:=È H.lo;have e0:bH c g a (n+1) (l:Int) r=dH c g a l (gM c g a n r<|aA c.N (l:Int)):=by
  rw[qN c g a n l r _ K];unfold cP;rw[wY W,wY W]
 rw[e0]at s⊢;have a3:Lf d (gM c g a n r<|aA c.N (l:Int)).lf:=s.pre (by
  unfold dH;split
  .exact ö _
  .simp only;split
   .exact List.prefix_append _ _
   .exact ö _);have S:bP (gM c g a n r<|aA c.N (l:Int)).kn:=by
  unfold gM;split
  .exact m.tg
  split
  .exact bP.ob n _<|bP.el x.tg n _ m.tg
  split
  .exact bP.ob n _ m.tg
  .exact bP.qk x.tg n _ m.tg
 rw[rn];refine Ng.bd (ϊ:=λ_ B=>B.c=a7.c) (Ng.jv K) λ_ s1 G=>?_;refine Ng.then (he l F b e s1 f r n H hK W a3<|by rw[G];exact m) λa8 s2 q=>?_;obtain⟨a2,i,rfl,T,P,w,y,ho⟩:=q;rw[G]at P;generalize gM c g a n r (aA c.N (l:Int))=E at*;have v:=T.pw;have M:(aA c.N (l:Int)).x=5->fY c l=eH c l:=λm=>by unfold fY;rw[wY W,yY m]
 have a4:(aA c.N (l:Int)).x≠5->fY c l=-1:=λm=>by unfold fY;rw[wY W,wY m]
 refine Ng.bd (ϊ:=λu B=>u=a2/\B.c=s2.c/\∀t,g (l:Int)=C t->hs a2 t) (Ng.lq (λA B o=>⟨K,o,A⟩) λt R hn=>?_) λu s3 q=>?_
 .
  intro D;have D:d (l:Int)=none:=D;unfold dH at s;rw[R]at s;simp only at s;by_cases o:(aA c.N (l:Int)).x≠5\/û .andNot χ (eX E.kn<|fY c l) t≠0
  .rw[yY o]at s;have:=s ((l:Int),t) θ;rw[D]at this;cases this
  .have p:(aA c.N (l:Int)).x=5:=Decidable.byContradiction λm=>o<|.inl m;have L:û .andNot χ (eX E.kn<|fY c l) t=0:=Decidable.byContradiction λm=>o<|.inr m;rw[M p]at L;exact hn<|Tq v (S.lu _) (x.tg _ _ R) (w.lu (y p) v) L
 .obtain⟨rfl,o,A⟩:=q;have N:fK a s3.c.S e (dH c g a l E).kn:=by
   rw[o];unfold dH;cases z:g (l:Int) with
   |none=>exact w
   |some t=>
    simp only;split
    .exact w
    .rename_i a5;have p:(aA c.N (l:Int)).x=5:=Decidable.byContradiction λm=>a5<|a4 m;rw[M p];refine w.lp λ_ aa hw=>?_;obtain rfl:=hw.ud<|y p;exact YZ v (S.lu _) (x.tg _ _ z) (w.lu (y p) v)<|A t z
  refine Ng.fe ⟨u,i,K,by rw[o];exact T,by rw[o];exact P,N,?_⟩;unfold kM;split
  .rename_i p;exact N.lu (by rw[o];exact y p) v
  split
  .rename_i hT;rw[<-ho hT];exact Tm v
  .cases z:g (l:Int) with
   |none=>exact RA v
   |some t=>exact A t z
def Vq(c:Cx)(g:Gm)(a:uZ):uZ->Es->Es->Prop
 |[],l,m=>m.kn=l.kn/\l.lf<+:m.lf
 |p::r,l,m=>∃o n,p.toNat<o/\n.kn=(bH c g a o p l).kn/\(bH c g a o p l).lf<+:n.lf/\Vq c g a r n m
def Vq.pre:∀{l} {m n},Vq c g a l m n->m.lf<+:n.lf
 |[],_,_,o=>o.2
 |_::_,m,_,⟨_,_,_,_,p,q⟩=>((nV _ _ m).trans p).trans q.pre
def Vq.tg(p:bP g):∀{l} {n o},Vq c g a l n o->bP n.kn->bP o.kn
 |[],_,_,q,m=>by rw[q.1];exact m
 |_::_,_,_,⟨_,_,_,r,_,s⟩,m=>s.tg p (by rw[r];exact bP.el p _ _ m)
theorem Vq.of(m):∀(l) (n),(∀p∈l,p.toNat<m)->Vq c g a l n (gB c g a m l n)
 |[],_,_=>⟨K,ö _⟩
 |p::r,n,o=>⟨m,bH c g a m p n,o p θ,K,ö _,Vq.of m r _ λq s=>o q<|by simp[s]⟩
def Vq.obj(S:Sx c)(m):∀(l:uZ) (s),(∀p∈l,0<=p/\p<Q c.N/\p.toNat<m/\(aA c.N p).x=15)->Vq c g a (l.map λx=>(aA c.N x).a) s (gB c g a m l s)
 |[],_,_=>⟨K,ö _⟩
 |p::r,s,u=>by
  obtain⟨w,A,B,D⟩:=u p θ;obtain⟨m,rfl⟩:∃n,m=n+1:=⟨m-1,W⟩;obtain⟨o,rfl⟩:=È w;have v:aD (aA c.N (o:Int))=[(aA c.N (o:Int)).a]:=by
   unfold aD;rw[wY W,wY W,wY W,yY W]
  have t:bH c g a (m+1) (o:Int) s=dH c g a o (bH c g a m (aA c.N (o:Int)).a s):=by
   rw[qN c g a m o s _ K];unfold cP gM;rw[wY W,wY W,wY W,wY W,wY W,v];rfl
  obtain⟨_,y⟩:=S.pt o W;obtain⟨G,H,_⟩:=y (aA c.N (o:Int)).a (by rw[v];simp);refine⟨m,bH c g a (m+1) (o:Int) s,(show ((aA c.N (o:Int)).a).toNat<m by omega),?_,?_,Vq.obj S (m+1) r _ λq z=>u q<|by simp[z]⟩
  .rw[t];unfold dH;split
   .rfl
   .simp only;rw[yY (by unfold fY;rw[wY W,wY W])]
  .rw[t];unfold dH;split
   .exact ö _
   .simp only;split
    .exact List.prefix_append _ _
    .exact ö _
def JB(c:Cx)(g:Gm)(a:uZ)(d:Gm)(h:Int->Int)(r:Nat):Prop:=∀(l) (F) (b) (e) (s) (f) (q m),(∀p∈l,jS c F p/\1<=(aA c.N p).x/\(aA c.N p).x<=14)->Vq c g a l q m->Lf d m.lf->He c g a d F b e s.c f q.kn->
 Ng (Zg d) (rn c.N h g r (.vs l) e) s (λo n=>∃i,Q o=Q l/\(∀v∈o,aZ n.c v)/\Po c g a d Nw s.c n.c f i/\fK a n.c.S e m.kn) Bn
def LP(A:Hy c g a h){o}(Z:yJ c g a d h o)(hs:JB c g a d h o):JB c g a d h (o+1):=by
 intro l F b e a6 f D G t w p m;cases l with
 |nil=>
  rw[rn];exact Ng.fe ⟨f,K,(λ_ S=>by cases S),Po.refl m.iw,by rw[w.1];exact m.kk⟩
 |cons x l=>
  rw[rn];obtain⟨N,H,P,y,q2,z⟩:=w;have r:=t x θ;refine Ng.then (Z x F b e a6 f D N r.1 r.2 P (p.pre<|q2.trans z.pre) m) λB s1 q=>?_;obtain⟨a8,a3,rfl,a2,u,s,_⟩:=q;rw[<-y]at s;refine Ng.then (hs l F b e s1 a3 H G (λa5 T=>t a5<|by simp[T]) z p<|m.on u s<|by rw[y];exact bP.el A.tg _ _ m.tg) λB s2 q=>?_;obtain⟨a4,L,M,v,R⟩:=q;refine Ng.fe ⟨a4,by simp[L],λa7 n=>?_,u.trans v,R⟩;obtain rfl|n:=jW.1 n
  .exact a2.gr v.gr
  .exact M a7 n
end
def Wb(c:Cx)(b f:Nat)(i:Int)(k:Nat)(y:Int):Prop:=b<=k/\Fg c f i y
def Ws(c:Cx)(b j f:Nat)(l:uZ)(k:Nat)(y:Int):Prop:=(b<=k/\lL c f l y)\/k=j
def Wt(c:Cx)(b j f:Nat)(i:Int)(k:Nat)(y:Int):Prop:=(b<=k/\Fg c f i y)\/k=j
section
variable{c:Cx}{g:Gm}{ct:uZ}{G':Gm}{h:Int->Int}{F:Int}{b:Nat}{k:Option Nat}{a d:Nat->Int}{l m:Gm}
def CQ(c:Cx)(g:Gm)(ct:uZ)(G':Gm)(h:Int->Int)(n:Nat):Prop:=∀(i F) (b) (k:Option Nat) (s) (a:Nat->Int) (e) (f),jS c F i->(aA c.N i).x=26->i.toNat<f->Lf G' (bH c g ct f i e).lf->He c g ct G' F b k s.c a e.kn->
 Ng (Zg G') (rn c.N h g n (.b i) k) s (λ_ j=>∃d,Po c g ct G' (Wb c b f i) s.c j.c a d) (λv j=>∃d,aZ j.c v/\Po c g ct G' (Wb c b f i) s.c j.c a d)
def JA(c:Cx)(g:Gm)(ct:uZ)(G':Gm)(h:Int->Int)(o:Nat):Prop:=∀(i) (F) (b j) (s) (a:Nat->Int) (e) (f),(∀x∈i,jS c F x/\(17<=(aA c.N x).x/\(aA c.N x).x<=25)/\x.toNat<f)->Lf G' (gB c g ct f i e).lf->He c g ct G' F b (C j) s.c a e.kn->
 Ng (Zg G') (rn c.N h g o (.ss i)<|C j) s (λ_ n=>∃d,Po c g ct G' (Ws c b j f i) s.c n.c a d) (λv n=>∃d,aZ n.c v/\Po c g ct G' (Ws c b j f i) s.c n.c a d)
def PP(c:Cx)(g:Gm)(ct:uZ)(G':Gm)(h:Int->Int)(o:Nat):Prop:=∀(i F) (b j) (s) (a:Nat->Int) (e) (f),jS c F i->(17<=(aA c.N i).x/\(aA c.N i).x<=25)->i.toNat<f->Lf G' (bH c g ct f i e).lf->He c g ct G' F b (C j) s.c a e.kn->
 Ng (Zg G') (rn c.N h g o (.s i)<|C j) s (λ_ n=>∃d,Po c g ct G' (Wt c b j f i) s.c n.c a d/\fK ct n.c.S (C j) (bH c g ct f i e).kn) (λv n=>∃d,aZ n.c v/\Po c g ct G' (Wt c b j f i) s.c n.c a d)
def IA(c:Cx)(g:Gm)(ct:uZ)(G':Gm)(h:Int->Int)(e:Nat):Prop:=∀(i F) (b) (k:Option Nat) (s) (a:Nat->Int) (l) (n:List<|Int×Int) (f),jS c F i->(aA c.N i).x=23->i.toNat<=f->Lf G' (gB c g ct f [(aA c.N i).a,(aA c.N i).b] ⟨l,n⟩).lf->(∀y t,l y=C t->¬lL c f [(aA c.N i).a,(aA c.N i).b] y)->He c g ct G' F b k s.c a l->
 Ng (Zg G') (rn c.N h g e (.w i) k) s (λ_ j=>∃d,Po c g ct G' (λe y=>b<=e/\lL c f [(aA c.N i).a,(aA c.N i).b] y) s.c j.c a d) (λv j=>∃d,aZ j.c v/\Po c g ct G' (λe y=>b<=e/\lL c f [(aA c.N i).a,(aA c.N i).b] y) s.c j.c a d)
def AN{i:Nat}{f}{e}(j:(aA c.N i).x≠5/\(aA c.N i).x≠16/\(aA c.N i).x≠17/\(aA c.N i).x≠18):(bH c g ct (f+1) i e).kn=(gM c g ct f e<|aA c.N i).kn:=by
 rw[qN c g ct f i e _ K];unfold cP dH;rw[wY j.2.2.1,wY j.2.2.2];split
 .rfl
 .simp only;rw[yY (by unfold fY;rw[wY j.2.1,wY j.1])]
def WX{i f:Nat}{e}(j:Lf G' (bH c g ct (f+1) i e).lf):Lf G' (gM c g ct f e<|aA c.N i).lf:=j.pre (by rw[qN c g ct f i e _ K];exact WV _ _)
theorem oZ{f}{e}{n}(i:n.x≠6/\n.x≠22/\n.x≠23):gM c g ct f e n=gB c g ct f (aD n) e:=by
 unfold gM;rw[wY i.1,wY i.2.1,wY i.2.2]
def He.push{ύ:Nat->Int->Prop}{f}(n:He c g ct G' F b k f a l):Po c g ct G' ύ f {f with S:=f.S++[⟨λ_=>none,k⟩]} a (λi=>if i=Q f.S then F else a i)/\He c g ct G' F b (C (Q f.S)) {f with S:=f.S++[⟨λ_=>none,k⟩]} (λi=>if i=Q f.S then F else a i) l:=by
 have u:∀ύ,Po c g ct G' ύ f {f with S:=f.S++[⟨λ_=>none,k⟩]} a (λi=>if i=Q f.S then F else a i):=λύ=>YX n.iw n.cu.jo n.fF λj e=>.inl<|n.cu.top j e;have p:(f.S++[⟨λ_=>none,k⟩])[Q f.S]?=C ⟨λ_=>none,k⟩:=θ;have x:∀(i:Nat) (q:Sc),f.S[i]?=C q->(f.S++[⟨λ_=>none,k⟩])[i]?=C q:=λi q o=>by rw[List.getElem?_append_left (Î.1 o).1];exact o
 refine⟨u ύ,(u Nw).iw,⟨λj e=>by cases e;simp,λi e=>by cases e;exact yY K,λj r e=>?_⟩,λy t e=>?_,n.tg,n.fF,by simp only[qQ,Û];have:=n.bl;omega⟩
 .cases r with
  |here _=>exact n.bl
  |up o r=>
   rw[p]at o;cases o;have w:=r.back n.iw.dw (λi q o=>⟨q,x i q o,K⟩) n.cu.jo;rw[wY<|by have:=w.lt;omega]at e;exact n.cu.own j w e
 .refine⟨(n.kk y t e).1,λv s=>?_⟩;cases s with
  |here o z=>rw[p]at o;cases o;cases z
  |up o _ s=>
   rw[p]at o;cases o;exact(n.kk y t e).2 v<|s.back n.iw.dw (λi q o=>⟨q,x i q o,K,K⟩) n.cu.jo
def Mf(v:Hy c g ct h){j}(hs:JA c g ct G' h j):CQ c g ct G' h (j+1):=by
 intro i F b k s a e f p M T N H;obtain⟨f,rfl⟩:∃n,f=n+1:=⟨f-1,W⟩;obtain⟨i,rfl⟩:=È p.lo;have u:aD (aA c.N (i:Int))=(aA c.N (i:Int)).M:=by unfold aD;rw[yY W]
 have B:=WX N;rw[oZ W,u]at B;rw[rn];obtain⟨p1,L⟩:=H.push (ύ:=Ws c b (Q s.c.S) f (aA c.N (i:Int)).M);refine Ng.bd (ϊ:=λn o=>n=Q s.c.S/\o.c={s.c with S:=s.c.S++[⟨λ_=>none,k⟩]}) (Ng.co λt R e=>by cases e;exact⟨K,K⟩) λn G q=>?_;obtain⟨rfl,y⟩:=q;have z:∀{o:Ms} {d:Nat->Int},Po c g ct G' (Ws c b (Q s.c.S) f (aA c.N (i:Int)).M) G.c o.c (λj=>if j=Q s.c.S then F else a j) d->Po c g ct G' (Wb c b (f+1) (i:Int)) s.c o.c a d:=λA=>by
  rw[y]at A;refine(p1.trans A).mono λj a3 Z P=>?_;obtain⟨t,w⟩|w:=P
  .exact⟨t,Fg.l (by rw[u];exact w) W⟩
  .omega
 refine(hs _ F b (Q s.c.S) G _ e f (λx D=>?_) B<|by rw[y];exact L).mono (λt o q=>?_) λa2 o q=>?_
 .obtain⟨r,q2⟩:=p.pt v.sx (p:=x) (by rw[u];exact D) W;have:=r.lo;exact⟨r,v.pg _ p.lo p.hi M x D,W⟩
 .obtain⟨d,q⟩:=q;exact⟨d,z q⟩
 .obtain⟨d,r,q⟩:=q;exact⟨d,r,z q⟩
def LQ(L:Hy c g ct h){i}(M:PP c g ct G' h i)(hs:JA c g ct G' h i):JA c g ct G' h (i+1):=by
 intro P F b j s a e f B A n;cases P with
 |nil=>rw[rn];exact Ng.fe ⟨a,Po.refl n.iw⟩
 |cons x r=>
  rw[rn];obtain⟨x1,x2,x3⟩:=B x θ;have G:∀i y,Wt c b j f x i y->Ws c b j f (x::r) i y:=λi y u=>u.imp (λ⟨o,w⟩=>⟨o,lL.mem θ w⟩) id;have D:∀i y,Ws c b j f r i y->Ws c b j f (x::r) i y:=λi y u=>u.imp (λ⟨o,w⟩=>⟨o,λl=>w _⟩) id;refine Ng.bd (ϊ:=λ_ z=>z.c=s.c) (Ng.jv K) λ_ Z t=>?_;refine Ng.bd ((M x F b j Z a e f x1 x2 x3 (A.pre<|JO f r _)<|by rw[t];exact n).mono (λ_ _ n=>n) λv H q=>?_) λo H q=>?_
  .obtain⟨d,p,q⟩:=q;rw[t]at q;exact⟨d,p,q.mono λi y _=>G i y⟩
  .obtain⟨R,p,S⟩:=q;rw[t]at p;have p1:=p.mono (W':=Ws c b j f<|x::r) λi y _=>G i y;refine(hs r F b j H R _ f (λy N=>B y<|by simp[N]) A<|n.on p S<|bP.el L.tg f x n.tg).mono (λo z q=>?_) λv z q=>?_
   .obtain⟨d,q⟩:=q;exact⟨d,p1.trans<|q.mono λi y _=>D i y⟩
   .obtain⟨d,T,q⟩:=q;exact⟨d,T,p1.trans<|q.mono λi y _=>D i y⟩
def Ly(u:Hy c g ct h){n}(hv:yJ c g ct G' h n)(hb:CQ c g ct G' h n)(p:IA c g ct G' h n):IA c g ct G' h (n+1):=by
 intro i F b k a8 a l z f r N hf w R j;have P:=(r.fl u.sx).o6 N;have S:aD (aA c.N i)=[(aA c.N i).a,(aA c.N i).b]:=by unfold aD;rw[wY W,wY W,wY W,wY W,yY W]
 obtain⟨a1,a2⟩:=r.pt u.sx (p:=(aA c.N i).a) (by rw[S];simp) W;obtain⟨M,b2⟩:=r.pt u.sx (p:=(aA c.N i).b) (by rw[S];simp) W;have ac:=r.lo;obtain⟨ja,ea,_,a4,a6⟩:=P.1;obtain⟨jb,eb,_,a5,a7⟩:=P.2;have ka:1<=(aA c.N (aA c.N i).a).x/\(aA c.N (aA c.N i).a).x<=14:=by rw[ea,B7 a4];exact a6
 have kb:(aA c.N (aA c.N i).b).x=26:=by rw[eb,B7 a5];exact a7
 have aa:=a1.lo;have ab:=M.lo;rw[rn];have a3:Lf G' (bH c g ct f (aA c.N i).a ⟨l,z⟩).lf:=w.pre<|nV f _ _;have A:∀{x t:Co} {o s:Nat->Int},Po c g ct G' Nw x t o s->Po c g ct G' (λn y=>b<=n/\lL c f [(aA c.N i).a,(aA c.N i).b] y) x t o s:=λq=>q.none;have T:∀{x t:Co} {o s:Nat->Int},Po c g ct G' (Wb c b f (aA c.N i).b) x t o s->Po c g ct G' (λn y=>b<=n/\lL c f [(aA c.N i).a,(aA c.N i).b] y) x t o s:=λq=>q.mono λn y _ p=>⟨p.1,lL.mem θ p.2⟩;refine Ng.then (hv _ F b k a8 a ⟨l,z⟩ f a1 ka W a3 j) λL s1 q=>?_;obtain⟨v,Z,rfl,ad,p1,k1,_⟩:=q;refine Ng.ite (λ_=>?_) λ_=>Ng.fe ⟨Z,A p1⟩;refine Ng.bd ((hb _ F b k s1 Z _ f M kb W w<|j.on p1 k1<|bP.el u.tg f _ j.tg).mono (λ_ _ j=>j) λv H q=>?_) λL H q=>?_
 .obtain⟨B,D,G⟩:=q;exact⟨B,D,(A p1).trans<|T G⟩
 .obtain⟨B,G⟩:=q;have p2:=(A p1).trans<|T G;have k2:fK ct H.c.S k l:=j.kk.on j.iw.dw j.cu.jo p2.fm λy a9 e=>⟨e,λn p=>R y a9 e p.2⟩;refine(p i F b k H B l z f r N hf w R<|j.on p2 k2 j.tg).mono (λL s' q=>?_) λv s' q=>?_
  .obtain⟨d,q⟩:=q;exact⟨d,p2.trans q⟩
  .obtain⟨d,D,q⟩:=q;exact⟨d,D,p2.trans q⟩
def rO(S:List Sc)(j:Nat)(x:Int)(v:Vl):List Sc:=S.modify j λq=>⟨λy=>if y=x then C v else q.o y,q.up⟩
def GM{S}{j}{x y}{v}(f)(q)(o:S[f]?=C q):∃i,(rO S j x v)[f]?=C i/\i.up=q.up/\i.o y=if f=j/\y=x then C v else q.o y:=by
 refine⟨_,SC f q o,by split<;>rfl,?_⟩;by_cases e:f=j
 .by_cases n:y=x
  .simp[e,n]
  .simp[e,n]
 .simp[e]
def fK.qv{S}{j}{x}{v}(f:fK ct S k l)(s:Dw S)(r:∀j,k=C j->j<Q S)(A:l x=none):fK ct (rO S j x v) k l:=λy u e=>by
 obtain⟨o,p⟩:=f y u e;refine⟨o,λw z=>p w<|z.back s (λB q t=>?_) r⟩;obtain⟨D,a1,i,n⟩:=GM (j:=j) (x:=x) (y:=y) (v:=v) B q t;exact⟨D,a1,i,by rw[n,wY λf=>by rw[f.2,A]at e;cases e]⟩
def fK.put{S}{j}{x t}{v}(n:fK ct S k l)(q:Dw S)(p:∀j,k=C j->j<Q S)(r:hs v t)(z:∀u,lH (rO S j x v) x k u->u=v):fK ct (rO S j x v) k (bN ct l x t):=by
 have o:fK ct (rO S j x v) k (kX l x):=fK.qv (λy u e=>by
  unfold kX at e;split at e
  .cases e
  .exact n y u e) q p (by simp[kX]);intro y u e;unfold bN at e;split at e
 .rename_i i;have f:=(n y u e).1;refine o y u ?_;unfold kX;rw[wY λ(e:y=x)=>f<|by rw[e];exact i];exact e
 .rename_i i;unfold vR at e;split at e
  .rename_i f;subst f;cases e;exact⟨i,λw s=>by rw[z w s];exact r⟩
  .rename_i f;exact o y u (by unfold kX;rw[wY f];exact e)
def jI{N}{i}{x}(e:Pe N i x):1<=(aA N x).x/\(aA N x).x<=14:=by
 obtain⟨j,rfl,_,n,f⟩:=e;rw[B7 n];exact f
def DM{N}{i}{e x}(f:Pk N i e x):(aA N x).x=e:=by
 obtain⟨j,rfl,_,o,n⟩:=f;rw[B7 o];exact n
def Mb(ώ:Hy c g ct h){M}(hv:yJ c g ct G' h M)(hb:CQ c g ct G' h M)(R:IA c g ct G' h M):PP c g ct G' h (M+1):=by
 intro i F b j s a e f P hK hf hL z;obtain⟨f,rfl⟩:∃ap,f=ap+1:=⟨f-1,W⟩;have a6:=P.fl ώ.sx;obtain⟨i,rfl⟩:=È P.lo;have w:=WX hL;have au:=P.lo;have T:∀x,x∈aD (aA c.N (i:Int))->1<=(aA c.N x).x/\(aA c.N x).x<=14->∀(t:Ms) (r:Nat->Int) (Z:Es),Lf G' (bH c g ct f x Z).lf->He c g ct G' F b (C j) t.c r Z.kn->Ng (Zg G') (rn c.N h g M (.v x)<|C j) t (λA n=>∃v d,A=[v]/\aZ n.c v/\Po c g ct G' Nw t.c n.c r d/\He c g ct G' F b (C j) n.c d (bH c g ct f x Z).kn/\hs v (kM c g (bH c g ct f x Z).kn x)) Bn:=λx hx a8 t r Z o N=>by
  obtain⟨q1,q2⟩:=P.pt ώ.sx hx W;have:=q1.lo;refine(hv x F b (C j) t r Z f q1 a8 W o N).mono (λA n q=>?_) λ_ _ x=>x;obtain⟨v,d,rfl,a1,a2,a3,a4⟩:=q;exact⟨v,d,K,a1,a2,N.on a2 a3<|bP.el ώ.tg f x N.tg,a4⟩
 have un:∀{n:Ms} {d:Nat->Int} {m:Gm},Po c g ct G' Nw s.c n.c a d->fK ct n.c.S (C j) m->(bH c g ct (f+1) (i:Int) e).kn=m->∃d,Po c g ct G' (Wt c b j (f+1) (i:Int)) s.c n.c a d/\fK ct n.c.S (C j) (bH c g ct (f+1) (i:Int) e).kn:=λq1 q2 q3=>⟨_,q1.none,by rw[q3];exact q2⟩;rw[rn];dsimp only;refine Ng.ite (λu=>?_) λaq=>?_
 .
  have p:aD (aA c.N (i:Int))=[(aA c.N (i:Int)).a]:=by unfold aD;simp[u]
  rw[oZ W,p]at w;have e0:(bH c g ct (f+1) (i:Int) e).kn=bN ct (bH c g ct f (aA c.N (i:Int)).a e).kn i (kM c g (bH c g ct f (aA c.N (i:Int)).a e).kn (aA c.N (i:Int)).a):=by
   rw[qN c g ct f i e _ K,oZ W,p];unfold cP;rw[yY u];rfl
  refine Ng.then (T _ (by rw[p];simp) (jI (a6.ly u).2) s a e w z) λA t q=>?_;obtain⟨v,r,rfl,v1,p1,o,aa⟩:=q;have hj:=o.cu.jo j K;refine Ng.bd (ϊ:=λ_ n=>n.c={t.c with S:=rO t.c.S j (i:Int) v}) (Ng.co λA ad e=>by cases e;rfl) λ_ s2 D=>Ng.fe ?_;have p2:Po c g ct G' (Wt c b j (f+1) (i:Int)) t.c s2.c r r:=by
   rw[D];exact PK o.iw v1 (by rw[P.fn,o.cu.top j K]) λ_=>.inr K
  refine⟨r,p1.none.trans p2,?_⟩;rw[e0,D];refine o.kk.put o.iw.dw o.cu.jo aa λab hu=>?_;obtain⟨q',a1,_,a3⟩:=GM (j:=j) (x:=(i:Int)) (y:=(i:Int)) (v:=v) j _<|gQ hj;rw[yY ⟨K,K⟩]at a3;cases hu with
  |here b1 b2=>rw[a1]at b1;cases b1;rw[a3]at b2;cases b2;rfl
  |up b1 b2 _=>rw[a1]at b1;cases b1;rw[a3]at b2;cases b2
 refine Ng.ite (λu=>?_) λar=>?_
 .
  have p:aD (aA c.N (i:Int))=[(aA c.N (i:Int)).a]:=by unfold aD;simp[u]
  rw[oZ W,p]at w;have e0:(bH c g ct (f+1) (i:Int) e).kn=bN ct (bH c g ct f (aA c.N (i:Int)).a e).kn (eH c i) (kM c g (bH c g ct f (aA c.N (i:Int)).a e).kn (aA c.N (i:Int)).a):=by
   rw[qN c g ct f i e _ K,oZ W,p];unfold cP;rw[wY W,yY u];rfl
  refine Ng.then (T _ (by rw[p];simp) (jI<|a6.k1 W) s a e w z) λA t q=>?_;obtain⟨v,r,rfl,v1,p1,o,aa⟩:=q;have an:h (i:Int)=eH c i:=ώ.nm _ P.lo P.hi<|.inr u;rw[an];refine Ng.bd (ϊ:=λj' n=>n=t/\W9 t.c.S (eH c i) (Q t.c.S) (C j)=C j') (Ng.co λA ad e=>?_) λj' s2 q=>?_
  .split at e
   .rename_i hj;cases e;exact⟨K,hj⟩
   .cases e
  .obtain⟨rfl,af⟩:=q;obtain⟨ao,q,ab,hq,hu,_⟩:=GJ af;have ai:jB c (eH c i)=r j':=o.iw.w1 j' q _ hq (by rw[hu];rfl);refine Ng.bd (ϊ:=λ_ n=>n.c={s2.c with S:=rO s2.c.S j' (eH c i) v}) (Ng.co λA ad e=>by cases e;rfl) λ_ s3 e3=>Ng.fe ?_;have p2:Po c g ct G' (Wt c b j (f+1) (i:Int)) s2.c s3.c r r:=by
    rw[e3];refine PK o.iw v1 ai λL=>.inl ⟨o.cu.own j' ao ?_,Fg.set u⟩;rw[<-ai,ώ.ct _ P.lo P.hi u L,P.fn]
   refine⟨r,p1.none.trans p2,?_⟩;rw[e0,e3];refine o.kk.put o.iw.dw o.cu.jo aa<|XS (j:=j') (λM q hq=>?_) af;obtain⟨q',a1,a2,a3⟩:=GM (j:=j') (x:=eH c i) (y:=eH c i) (v:=v) M q hq;exact⟨q',a1,a2,by rw[a3];simp⟩
 have H:=AN (g:=g) (ct:=ct) (f:=f) (e:=e) (i:=i) ⟨W,W,aq,ar⟩;refine Ng.ite (λu=>?_) λav=>?_
 .have p:aD (aA c.N (i:Int))=[(aA c.N (i:Int)).a,(aA c.N (i:Int)).b]:=by unfold aD;simp[u]
  rw[oZ W,p]at w H;obtain⟨ka,kb⟩:=a6.k2 W;refine Ng.then (T _ (by rw[p];simp) (jI ka) s a e (w.pre<|nV f _ _) z) λA t q=>?_;obtain⟨v,r,rfl,v1,p1,o,_⟩:=q;refine Ng.then (T _ (by rw[p];simp) (jI kb) t r _ w o) λA s2 q=>?_;obtain⟨ab,aj,rfl,v2,p2,N,_⟩:=q;refine Ng.bd (Vw N.iw v2) λ_ s3 p3=>Ng.fe<|un ((p1.trans p2).trans p3) (N.kk.po N.iw N.cu.jo p3 λ_ _ x=>x) H
 refine Ng.ite (λu=>?_) λaw=>?_
 .have p:aD (aA c.N (i:Int))=[(aA c.N (i:Int)).a,(aA c.N (i:Int)).b,(aA c.N (i:Int)).c]:=by unfold aD;simp[u]
  rw[oZ W,p]at w H;obtain⟨ka,kb,kc⟩:=a6.ku W;refine Ng.then (T _ (by rw[p];simp) (jI ka) s a e (w.pre<|(nV f _ _).trans<|nV f _ _) z) λA t q=>?_;obtain⟨v,r,rfl,v1,p1,o,_⟩:=q;refine Ng.then (T _ (by rw[p];simp) (jI kb) t r _ (w.pre<|nV f _ _) o) λA s2 q=>?_;obtain⟨ab,aj,rfl,v2,p2,N,_⟩:=q;refine Ng.then (T _ (by rw[p];simp) (jI kc) s2 aj _ w N) λA s3 q=>?_;obtain⟨y,b3,rfl,v3,p3,h3,_⟩:=q;refine Ng.bd (Vr h3.iw v3) λ_ s4 p4=>Ng.fe<|un (((p1.trans p2).trans p3).trans p4) (h3.kk.po h3.iw h3.cu.jo p4 λ_ _ x=>x) H
 refine Ng.ite (λu=>?_) λax=>?_
 .have p:aD (aA c.N (i:Int))=[(aA c.N (i:Int)).a]:=by unfold aD;simp[u]
  rw[oZ W,p]at w H;refine Ng.then (T _ (by rw[p];simp) (jI<|a6.k1 W) s a e w z) λA t q=>?_;obtain⟨v,r,rfl,v1,p1,o,_⟩:=q;exact Ng.bd (ϊ:=λ_ n=>n.c=t.c) K λ_ s2 D=>Ng.fe<|un (by rw[D];exact p1) (by rw[D];exact o.kk) H
 refine Ng.ite (λu=>?_) λay=>?_
 .
  obtain⟨ka,kb,kc⟩:=a6.o7 u;have B:∃G,aD (aA c.N (i:Int))=(aA c.N (i:Int)).a::G/\(aA c.N (i:Int)).b∈G/\((aA c.N (i:Int)).c≠-1->G=[(aA c.N (i:Int)).b,(aA c.N (i:Int)).c])/\((aA c.N (i:Int)).c=-1->G=[(aA c.N (i:Int)).b]):=by
   by_cases L:(aA c.N (i:Int)).c=-1
   .exact⟨[(aA c.N (i:Int)).b],by unfold aD;simp[u,L],θ,λz=>absurd L z,λ_=>K⟩
   .exact⟨[(aA c.N (i:Int)).b,(aA c.N (i:Int)).c],by unfold aD;simp[u,L],θ,λ_=>K,λz=>absurd z L⟩
  obtain⟨G,p,ak,a9,al⟩:=B;have Z:gM c g ct f e (aA c.N (i:Int))=⟨gP c f G (bH c g ct f (aA c.N (i:Int)).a e).kn,qL c g ct f (bH c g ct f (aA c.N (i:Int)).a e).kn G (bH c g ct f (aA c.N (i:Int)).a e).lf⟩:=by
   unfold gM;rw[wY W,yY u,p];rfl
  rw[Z]at w H;simp only at w H;have ae:∀(l:Gm) (G:uZ) (lf:List<|Int×Int),lf<+:qL c g ct f l G lf:=λl G=>by
   induction G with
   |nil=>exact λlf=>ö _
   |cons x a7 ih=>exact λlf=>(nV f x ⟨l,lf⟩).trans<|ih _
  refine Ng.then (T _ (by rw[p];simp) (jI ka) s a e (w.pre<|ae _ _ _) z) λA t q=>?_;obtain⟨v,r,rfl,v1,p1,o,_⟩:=q;have kl:∀{n:Ms} {d:Nat->Int} {x:Int},x∈G->Po c g ct G' (Wb c b f x) t.c n.c r d->Po c g ct G' (Wt c b j (f+1) (i:Int)) s.c n.c a d:=λhx q=>p1.none.trans (q.mono λM y _ R=>.inl ⟨R.1,Fg.l (by rw[p];exact lL.mem (List.mem_cons_of_mem _ hx) R.2) W⟩);have kk:∀{n:Ms} {d:Nat->Int} {x:Int},x∈G->Po c g ct G' (Wb c b f x) t.c n.c r d->fK ct n.c.S (C j) (bH c g ct (f+1) (i:Int) e).kn:=λhx q=>by
   rw[H];refine o.kk.on o.iw.dw o.cu.jo q.fm λy a5 B=>?_;obtain D|D:=GD f G (bH c g ct f (aA c.N (i:Int)).a e).kn y
   .refine⟨D.symm.trans B,λM R=>?_⟩;have:=lL.mem hx R.2 (bH c g ct f (aA c.N (i:Int)).a e).kn;rw[this]at B;cases B
   .rw[D]at B;cases B
  have ac:∀x lf,x∈G->(aA c.N x).x=26->Lf G' (bH c g ct f x ⟨(bH c g ct f (aA c.N (i:Int)).a e).kn,lf⟩).lf->Ng (Zg G') (rn c.N h g M (.b x)<|C j) t (λ_ n=>∃d,Po c g ct G' (Wt c b j (f+1) (i:Int)) s.c n.c a d/\fK ct n.c.S (C j) (bH c g ct (f+1) (i:Int) e).kn) (λv n=>∃d,aZ n.c v/\Po c g ct G' (Wt c b j (f+1) (i:Int)) s.c n.c a d):=λx lf hx a8 am=>by
   obtain⟨q1,q2⟩:=P.pt ώ.sx (p:=x) (by rw[p];simp[hx]) W;have:=q1.lo;refine(hb x F b (C j) t r _ f q1 a8 W am o).mono (λA n q=>?_) λv n q=>?_
   .obtain⟨d,q⟩:=q;exact⟨d,kl hx q,kk hx q⟩
   .obtain⟨d,a7,q⟩:=q;exact⟨d,a7,kl hx q⟩
  refine Ng.ite (λ_=>?_) λ_=>Ng.ite (λL=>?_) λL=>?_
  .refine ac _ _ ak (DM kb)<|w.pre (l:=(bH c g ct f (aA c.N (i:Int)).b ⟨_,(bH c g ct f (aA c.N (i:Int)).a e).lf⟩).lf) ?_;by_cases L:(aA c.N (i:Int)).c=-1
   .rw[al L];exact ö _
   .rw[a9 L];exact ae _ [_] _
  .refine Ng.fe ⟨r,p1.none,?_⟩;rw[H];intro y a5 B;obtain D|D:=GD f G (bH c g ct f (aA c.N (i:Int)).a e).kn y
   .exact o.kk y a5<|D.symm.trans B
   .rw[D]at B;cases B
  .refine ac _ (bH c g ct f (aA c.N (i:Int)).b ⟨(bH c g ct f (aA c.N (i:Int)).a e).kn,(bH c g ct f (aA c.N (i:Int)).a e).lf⟩).lf (by rw[a9 L];simp) (DM<|kc.resolve_left L)<|w.pre ?_;rw[a9 L];exact ö _
 refine Ng.ite (λu=>?_) λaz=>?_
 .
  have p:aD (aA c.N (i:Int))=[(aA c.N (i:Int)).a,(aA c.N (i:Int)).b]:=by unfold aD;simp[u]
  have Z:gM c g ct f e (aA c.N (i:Int))=⟨gP c f [(aA c.N (i:Int)).a,(aA c.N (i:Int)).b] e.kn,(gB c g ct f [(aA c.N (i:Int)).a,(aA c.N (i:Int)).b] ⟨gP c f [(aA c.N (i:Int)).a,(aA c.N (i:Int)).b] e.kn,e.lf⟩).lf⟩:=by
   unfold gM;rw[wY W,wY W,yY u]
  rw[Z]at w H;simp only at w H;have ah:∀y a5,gP c f [(aA c.N (i:Int)).a,(aA c.N (i:Int)).b] e.kn y=C a5->¬lL c f [(aA c.N (i:Int)).a,(aA c.N (i:Int)).b] y:=λy a5 o N=>by rw[N]at o;cases o
  have ag:fK ct s.c.S (C j) (gP c f [(aA c.N (i:Int)).a,(aA c.N (i:Int)).b] e.kn):=λy a5 B=>by
   obtain D|D:=GD f [(aA c.N (i:Int)).a,(aA c.N (i:Int)).b] e.kn y
   .exact z.kk y a5<|D.symm.trans B
   .rw[D]at B;cases B
  have kl:∀{n:Ms} {d:Nat->Int},Po c g ct G' (λM y=>b<=M/\lL c f [(aA c.N (i:Int)).a,(aA c.N (i:Int)).b] y) s.c n.c a d->Po c g ct G' (Wt c b j (f+1) (i:Int)) s.c n.c a d:=λq=>q.mono λM y _ R=>.inl ⟨R.1,Fg.l (by rw[p];exact R.2) W⟩;refine(R i F b (C j) s a _ e.lf f P u W w ah ⟨z.iw,z.cu,ag,bP.ob f _ z.tg,z.fF,z.bl⟩).mono (λA n q=>?_) λv n q=>?_
  .obtain⟨d,q⟩:=q;exact⟨d,kl q,by rw[H];exact ag.on z.iw.dw z.cu.jo q.fm λy a5 B=>⟨B,λM R=>ah y a5 B R.2⟩⟩
  .obtain⟨d,a7,q⟩:=q;exact⟨d,a7,kl q⟩
 have p:aD (aA c.N (i:Int))=[(aA c.N (i:Int)).a]:=by
  unfold aD;rw[wY W,wY W,wY W,yY W]
 rw[oZ W,p]at w H;refine Ng.ite (λu=>?_) λb0=>?_
 .refine Ng.then (T _ (by rw[p];simp) (jI<|a6.k1 W) s a e w z) λA t q=>?_;obtain⟨v,r,rfl,v1,p1,o,_⟩:=q;exact⟨r,v1,p1.none⟩
 .refine Ng.then (T _ (by rw[p];simp) (jI<|a6.k1 W) s a e w z) λA t q=>?_;obtain⟨v,r,rfl,v1,p1,o,_⟩:=q;exact Ng.fe<|un p1 o.kk H
def ş{S}{j}{x}{v}(n:j<Q S)(u)(o:lH (rO S j x v) x (C j) u):u=v:=by
 obtain⟨p,a1,_,i⟩:=GM (j:=j) (x:=x) (y:=x) (v:=v) j _<|gQ n;rw[yY ⟨K,K⟩]at i;cases o with
 |here e f=>rw[a1]at e;cases e;rw[i]at f;cases f;rfl
 |up e f _=>rw[a1]at e;cases e;rw[i]at f;cases f
def Cq(z:Hy c g ct h){f j}:∀(n:uZ) (o:List Vl) (s) (a:Nat->Int) (e:Es),(∀p∈n,jS c F p/\(aA c.N p).x=16/\p.toNat<f)->n.Pairwise (·<·)->(∀p∈n,e.kn p=none)->Lf G' (gB c g ct f n e).lf->He c g ct G' F b (C j) s.c a e.kn->(∀v∈o,aZ s.c v)->
 Ng (Zg G') (iG g n o j) s (λ_ r=>∃d,Po c g ct G' (λH _=>H=j) s.c r.c a d/\He c g ct G' F b (C j) r.c d (gB c g ct f n e).kn) Bn
 |[],o,s,a,e,_,_,_,_,i,_=>by
  rw[iG];exact Ng.fe ⟨a,Po.refl i.iw,i⟩
 |p::n,o,s,a,e,hl,B,hn,P,i,hv=>by
  rw[iG];obtain⟨R,hk,hf⟩:=hl p θ;obtain⟨f,rfl⟩:∃a8,f=a8+1:=⟨f-1,W⟩;have a5:=R.lo;obtain⟨p,rfl⟩:=È a5;have w:aZ s.c (o.headD vO):=by
   cases o with
   |nil=>exact sH _
   |cons M ac=>exact hv M θ
  have A:bH c g ct (f+1) (p:Int) e=dH c g ct p e:=by
   have hp:aD (aA c.N (p:Int))=[]:=by unfold aD;simp[hk]
   rw[qN c g ct f p e _ K,oZ W,hp];unfold cP;rw[wY W,wY W];rfl
  have Z:fY c p=p:=by unfold fY;rw[yY hk]
  have u:Lf G' (dH c g ct p e).lf:=by rw[<-A];exact P.pre<|JO _ n _
  have a7:bP (bH c g ct (f+1) (p:Int) e).kn:=bP.el z.tg _ _ i.tg;refine Ng.bd (ϊ:=λa3 r=>a3=o.headD vO/\r.c=s.c/\∀t,g (p:Int)=C t->hs (o.headD vO) t) (Ng.lq (λw r hc=>⟨K,hc,w⟩) λt ht ab=>?_) λa3 s1 q=>?_
  .intro G;have G:G' (p:Int)=none:=G;unfold dH at u;rw[ht]at u;simp only at u;rw[yY<|.inl W]at u;have:=u ((p:Int),t) θ;rw[G]at this;cases this
  .obtain⟨rfl,e1,a4⟩:=q;generalize o.headD vO=v at*;have hj:=i.cu.jo j K;refine Ng.bd (ϊ:=λ_ r=>r.c={s.c with S:=rO s.c.S j (p:Int) v}) (Ng.co λM a9 e=>by cases e;rw[e1];rfl) λ_ L N=>?_;have p2:Po c g ct G' (λH _=>H=j) s.c L.c a a:=by
    rw[N];exact PK i.iw w (by rw[R.fn,i.cu.top j K]) λ_=>K
   have a2:=hn (p:Int) θ;have k2:fK ct L.c.S (C j) (bH c g ct (f+1) (p:Int) e).kn:=by
    rw[A,N];unfold dH;cases T:g (p:Int) with
    |none=>exact i.kk.qv i.iw.dw i.cu.jo a2
    |some t=>
     simp only;rw[wY W,Z];refine i.kk.put i.iw.dw i.cu.jo ?_<|ş hj;have:eX e.kn (p:Int)=127:=by unfold eX;rw[a2];rfl
     rw[this];exact YZ w.pw W (z.tg _ _ T) (RA w.pw)<|a4 t T
   rw[List.pairwise_cons]at B;have a6:∀q∈n,(bH c g ct (f+1) (p:Int) e).kn q=none:=λq y=>by
    have aa:=B.1 q y;have D:=hn q (by simp[y]);rw[A];unfold dH;split
    .exact D
    .simp only;rw[wY W,Z];unfold bN;split
     .exact D
     .unfold vR;rw[wY W];exact D
   refine(Cq z n o.tail L a _ (λq y=>hl q<|by simp[y]) B.2 a6 P (i.on p2 k2 a7) λx hx=>(hv x<|List.mem_of_mem_tail hx).gr p2.gr).mono (λ_ s3 q=>?_) λ_ _ x=>x;obtain⟨d,q1,q2⟩:=q;exact⟨d,p2.trans q1,q2⟩
def He.enter{f}{t}{j:Nat}(o:Iw c g ct G' f a)(z:f.T[j]?=C t)(B:t.k=64){ύ:Nat->Int->Prop}:Po c g ct G' ύ f {f with S:=f.S++[⟨λ_=>none,t.sc⟩]} a (λn=>if n=Q f.S then t.nd else a n)/\He c g ct G' t.nd (Q f.S) (C (Q f.S)) {f with S:=f.S++[⟨λ_=>none,t.sc⟩]} (λn=>if n=Q f.S then t.nd else a n) (λ_=>none):=by
 obtain⟨⟨v,_⟩,A⟩:=o.fn j t z B;have y:=(o.ok.T j t z).sc;have s:=v.lo;have r:=v.ab;have w:∀ύ,Po c g ct G' ύ f {f with S:=f.S++[⟨λ_=>none,t.sc⟩]} a (λn=>if n=Q f.S then t.nd else a n):=λύ=>YX o y (.inr ⟨s,r⟩) λn e=>.inr ⟨s,A n e⟩;have D:(f.S++[⟨λ_=>none,t.sc⟩])[Q f.S]?=C ⟨λ_=>none,t.sc⟩:=θ;refine⟨w ύ,(w Nw).iw,⟨λj e=>by cases e;simp,λn e=>by cases e;exact yY K,λi u e=>?_⟩,fK.no,bP.no,.inr ⟨s,r⟩,θ⟩;cases u with
 |here _=>exact vQ _
 |up p u=>
  rw[D]at p;cases p;have x:=u.back o.dw (λn q p=>⟨q,by rw[List.getElem?_append_left (Î.1 p).1];exact p,K⟩) y;have G:=x.lt;rw[wY W]at e;have H:=x.u o (F:=t.nd) λn e=>by rw[A n e];exact r
  omega
def Mc(M:Hy c g ct h){G}(hv:yJ c g ct G' h G)(al:JB c g ct G' h G)(hb:CQ c g ct G' h G):PT c g ct G' h (G+1):=by
 intro i F b k s a e f hN hK hf A o;have a6:=hN.fl M.sx;obtain⟨i,rfl⟩:=È hN.lo;have b6:=hN.lo;have pt:∀{x},x∈aD (aA c.N (i:Int))->(aA c.N (i:Int)).x≠6->jS c F x/\x.toNat<f:=λu hk=>by
  obtain⟨D,Z⟩:=hN.pt M.sx u hk;have:=D.lo;exact⟨D,W⟩
 have aa:∀x,x∈aD (aA c.N (i:Int))->(aA c.N (i:Int)).x≠6->1<=(aA c.N x).x/\(aA c.N x).x<=14->∀(r:Ms) (w:Nat->Int) (e1:Es),Lf G' (bH c g ct f x e1).lf->He c g ct G' F b k r.c w e1.kn->Ng (Zg G') (rn c.N h g G (.v x) k) r (λy j=>∃v d,y=[v]/\aZ j.c v/\Po c g ct G' Nw r.c j.c w d/\He c g ct G' F b k j.c d (bH c g ct f x e1).kn) Bn:=λx u hk ax r w e1 B L=>by
  obtain⟨D,Z⟩:=pt u hk;refine(hv x F b k r w e1 f D ax Z B L).mono (λy j q=>?_) λ_ _ x=>x;obtain⟨v,d,rfl,a1,a2,a3,_⟩:=q;exact⟨v,d,K,a1,a2,L.on a2 a3<|bP.el M.tg f x L.tg⟩
 have z:∀{r:Ms} {w:Nat->Int} {v:Vl},aZ r.c v->Po c g ct G' Nw s.c r.c a w->fK ct r.c.S k (gM c g ct f e<|aA c.N (i:Int)).kn->(aA c.N (i:Int)).x≠5->(hY (aA c.N (i:Int))≠0->v.g=hY (aA c.N (i:Int)))->Ng (Zg G') (aF [v]) r (Ik c g ct G' (i:Int) k s a (gM c g ct f e<|aA c.N (i:Int)).kn) Bn:=λB L h3 h4 h5=>Ng.fe ⟨_,_,K,B,L,h3,λe=>absurd e h4,h5⟩;have ai:aD (aA c.N (i:Int))=[]->(aA c.N (i:Int)).x≠6/\(aA c.N (i:Int)).x≠22/\(aA c.N (i:Int)).x≠23->fK ct s.c.S k (gM c g ct f e<|aA c.N (i:Int)).kn:=λp hk=>by rw[oZ hk,p];exact o.kk
 rw[rn];dsimp only;refine Ng.ite (λn=>?_) λn1=>?_
 .exact z (xC _ _) (Po.refl o.iw) (ai (by unfold aD;simp[n]) W) W λ_=>by unfold hY;rw[yY n];rfl
 refine Ng.ite (λn=>?_) λn2=>?_
 .exact z (zE _<|by have:=M.tx (i:Int);omega) (Po.refl o.iw) (ai (by unfold aD;simp[n]) W) W λ_=>by unfold hY;rw[wY W,yY n];rfl
 refine Ng.ite (λn=>?_) λn3=>?_
 .exact z (uP _ _) (Po.refl o.iw) (ai (by unfold aD;simp[n]) W) W λ_=>by unfold hY;rw[wY W,wY W,yY n];rfl
 refine Ng.ite (λn=>?_) λn5=>?_
 .
  rw[M.nm _ hN.lo hN.hi<|.inl n];refine Ng.bd (ϊ:=λj' j=>j=s/\W9 s.c.S (eH c i) (Q s.c.S) k=C j') (Ng.co λy af e=>?_) λj' r q=>?_
  .split at e
   .rename_i hj;cases e;exact⟨K,hj⟩
   .cases e
  .obtain⟨rfl,aw⟩:=q;obtain⟨_,q,a4,hq,T,ay⟩:=GJ aw;refine Ng.bd (ϊ:=λv j=>v=a4/\j=r) (Ng.co λy af e=>?_) λv s2 e2=>?_
   .rw[hq,Option.bind_some,T]at e;cases e;exact⟨K,K⟩
   .obtain⟨rfl,rfl⟩:=e2;exact Ng.fe ⟨v,a,K,(o.iw.ok.S j' q hq).1 _ v T,Po.refl o.iw,ai (by unfold aD;simp[n]) W,λ_=>ay,λR=>absurd (by unfold hY;simp[n]) R⟩
 refine Ng.ite (λn=>?_) λN=>?_
 .
  have e1:gM c g ct f e (aA c.N (i:Int))=⟨e.kn,(gB c g ct f (aD<|aA c.N (i:Int)) ⟨λ_=>none,e.lf⟩).lf⟩:=by unfold gM;rw[yY n]
  refine Ng.bd (JX (ϊ:=λ_ j=>Po c g ct G' Nw s.c j.c a a) o.iw λhq=>hq) λ_ r p1=>?_;refine Ng.bd (OQ (t:=⟨64,λ_=>none,[],(i:Int),k⟩) (ϊ:=λa5 j=>Po c g ct G' Nw s.c j.c a a/\j.c.T[a5]?=C ⟨64,λ_=>none,[],(i:Int),k⟩) p1.iw ⟨.inr<|.inr K,(λ_ _ e=>by cases e),(λ_ e=>by cases e),o.cu.jo.gr<|p1.gr.trans<|W8 _,θ,λ_=>⟨hN.lo,hN.hi,n⟩⟩ (λ_=>⟨⟨by rw[hN.fn];exact hN,n,f,e.lf,hf,by rw[e1]at A;exact A⟩,λG e=>by rw[hN.fn];exact o.cu.top G e⟩) λj D Z=>⟨p1.trans D,Z⟩) λa5 s2 q=>?_;exact z (zA (t:=⟨64,λ_=>none,[],(i:Int),k⟩) q.2 θ) q.1 (by rw[e1];exact o.kk.po o.iw o.cu.jo q.1 λ_ _ x=>x) W λ_=>by unfold hY;simp[n]
 have b1:(aA c.N (i:Int)).x≠6/\(aA c.N (i:Int)).x≠22/\(aA c.N (i:Int)).x≠23:=⟨N,W,W⟩;rw[oZ b1]at A z⊢;refine Ng.ite (λn=>?_) λn7=>?_
 .
  have p:aD (aA c.N (i:Int))=(aA c.N (i:Int)).a::(aA c.N (i:Int)).M:=by unfold aD;simp[n]
  rw[p]at A z⊢;obtain⟨ka,kl⟩:=a6.k7 n;refine Ng.then (aa _ (by rw[p];simp) N (jI ka) s a e (A.pre<|JO f _ _) o) λy r q=>?_;obtain⟨v,w,rfl,v1,p1,B⟩:=q;refine Ng.then (al _ F b k r w _ _ (λx u=>⟨(pt (by rw[p];simp[u]) N).1,jI<|kl x u⟩) (Vq.of f _ _ λx u=>(pt (by rw[p];simp[u]) N).2) A B) λvs s2 q=>?_;obtain⟨a8,_,ac,p2,k2⟩:=q;have L:=B.on p2 k2<|bP.qk M.tg f _ B.tg;refine Ng.bd (Ng.jm (ϊ:=λ_ j=>j=s2/\(r1 [v]).g=64) λe=>⟨K,e⟩) λ_ s3 q=>?_;obtain⟨rfl,hg⟩:=q;have hg:v.g=64:=hg;refine Ng.bd (ϊ:=λ_ j=>Po c g ct G' Nw s3.c j.c a8 a8) (Ng.co λy af e=>?_) λ_ s4 p4=>?_
  .split at e
   .cases e
   .cases e;have:=L.iw.ok.ca;exact Eh L.iw W
  refine Ng.bd (Ng.kj (ϊ:=λt j=>j=s4/\∃a7:Nat,(r1 [v]).h=C a7/\s4.c.T[a7]?=C t) λa7 t D Z=>⟨K,a7,D,Z⟩) λt H q=>?_;obtain⟨rfl,a7,hj,ht⟩:=q;have hj:v.h=C a7:=hj;have ar:t.k=64:=by
   have b2:=(v1.gr p2.gr).gr p4.gr;obtain⟨_,_,_,hh⟩:=b2;rw[hj]at hh;obtain⟨t',D,Z⟩:=hh;rw[ht]at D;cases D;rw[Z,hg]
  obtain⟨⟨ag,aj,ff,lf,b4,ab⟩,_⟩:=p4.iw.fn a7 t ht ar;obtain⟨D,hE⟩:=He.enter p4.iw ht ar (ύ:=λG _=>Q H.c.S<=G);have ah:aD (aA c.N t.nd)=(aA c.N t.nd).M++[(aA c.N t.nd).a]:=by unfold aD;simp[aj]
  have ao:=(ag.fl M.sx).k6 aj;have av:Ng (Zg G') ((fM t.sc).bd λa7=>(iG g (aA c.N t.nd).M vs a7).bd λ_=>rn c.N h g G (.b (aA c.N t.nd).a)<|C a7) H (λ_ j=>∃d,Po c g ct G' Nw H.c j.c a8 d) (λv j=>∃d,aZ j.c v/\Po c g ct G' Nw H.c j.c a8 d):=by
   refine Ng.bd (ϊ:=λa5 j=>a5=Q H.c.S/\j.c={H.c with S:=H.c.S++[⟨λ_=>none,t.sc⟩]}) (Ng.co λy af e=>by cases e;exact⟨K,K⟩) λa5 s6 q=>?_;obtain⟨rfl,e6⟩:=q;have az:gB c g ct ff (aD<|aA c.N t.nd) ⟨λ_=>none,lf⟩=bH c g ct ff (aA c.N t.nd).a (gB c g ct ff (aA c.N t.nd).M ⟨λ_=>none,lf⟩):=by rw[ah];unfold gB;rw[List.foldl_append];rfl
   rw[az]at ab;have ab:Lf G' _:=ab;have a9:∀x∈aD (aA c.N t.nd),jS c t.nd x/\x.toNat<ff:=λx u=>by
    obtain⟨a1,a2⟩:=ag.tq M.sx u aj;have:=a1.lo;exact⟨a1,W⟩
   have b0:(aA c.N t.nd).M.Pairwise (·<·):=by
    have b7:=ag.lo;have:=(M.sx.pt t.nd.toNat<|by have:=ag.hi;omega).1;rw[show ((t.nd.toNat:Nat):Int)=t.nd by omega,ah]at this;exact(List.pairwise_append.1 this).1
   refine Ng.then (Cq M (f:=ff) (j:=Q H.c.S) (F:=t.nd) (b:=Q H.c.S) (aA c.N t.nd).M vs s6 _ ⟨λ_=>none,lf⟩ (λad p=>?_) b0 (λ_ _=>K) (ab.pre<|nV ff _ _) (by rw[e6];exact hE) λx u=>?_) λ_ s7 q=>?_
   .obtain⟨a1,a2⟩:=a9 ad (by rw[ah];simp[p]);exact⟨a1,DM<|ao.1 ad p,a2⟩
   .rw[e6];exact((ac x u).gr p4.gr).gr<|CF _
   .obtain⟨au,p7,h7⟩:=q;obtain⟨a1,a2⟩:=a9 (aA c.N t.nd).a (by rw[ah];simp);have fn:∀{j:Ms} {P:Nat->Int},Po c g ct G' (Wb c (Q H.c.S) ff (aA c.N t.nd).a) s7.c j.c au P->Po c g ct G' Nw H.c j.c a8 P:=λq=>by
     have p8:=(p7.mono (W':=λG _=>Q H.c.S<=G) λG ae _ (hw:G=H.c.S.length)=>W).trans<|q.mono λG ae _ hw=>hw.1;rw[e6]at p8;exact(D.trans p8).mono λG ae hk hw=>W
    refine(hb _ t.nd (Q H.c.S) (C (Q H.c.S)) s7 au _ ff a1 (DM ao.2.2) a2 ab h7).mono (λy j q=>?_) λa4 j q=>?_
    .obtain⟨P,q⟩:=q;exact⟨P,fn q⟩
    .obtain⟨P,am,q⟩:=q;exact⟨P,am,fn q⟩
  refine Ng.bd (ϊ:=λy j=>∃a4 P,y=[a4]/\aZ j.c a4/\Po c g ct G' Nw H.c j.c a8 P) (Ng.cat av (λy j q=>?_) λa4 j q=>?_) λy s6 q=>?_
  .obtain⟨P,q⟩:=q;exact⟨vO,P,K,sH _,q⟩
  .obtain⟨P,am,q⟩:=q;exact⟨a4,P,K,am,q⟩
  .obtain⟨a4,P,rfl,T,p6⟩:=q;have b3:=p6.iw.ok.ca;have p7:=Eh (x:=s6.c.ca-1) p6.iw W;refine Ng.bd (ϊ:=λ_ j=>j.c={s6.c with ca:=s6.c.ca-1}) (Ng.co λy af e=>by cases e;rfl) λ_ s7 e7=>?_;have p8:Po c g ct G' Nw s3.c s7.c a8 P:=by rw[e7];exact(p4.trans p6).trans p7
   refine z (by rw[e7];exact T.gr p7.gr) ((p1.trans p2).trans p8) (k2.po L.iw L.cu.jo p8 λ_ _ x=>x) n5 λR=>absurd (by unfold hY;simp[n]) R
 refine Ng.ite (λn=>?_) λn8=>?_
 .have p:aD (aA c.N (i:Int))=[(aA c.N (i:Int)).a]:=by unfold aD;simp[n]
  rw[p]at A z⊢;refine Ng.then (aa _ (by rw[p];simp) N (jI<|a6.k1 W) s a e A o) λy r q=>?_;obtain⟨v,w,rfl,v1,p1,B⟩:=q;refine Ng.bd (Vo B.iw v1) λa4 s2 q=>?_;obtain⟨rfl,T⟩:=q;exact z T p1 B.kk n5 λR=>absurd (by unfold hY;simp[n]) R
 refine Ng.ite (λn=>?_) λn9=>?_
 .have p:aD (aA c.N (i:Int))=[(aA c.N (i:Int)).a,(aA c.N (i:Int)).b]:=by unfold aD;simp[n]
  rw[p]at A z⊢;obtain⟨ka,kb⟩:=a6.k2 W;refine Ng.then (aa _ (by rw[p];simp) N (jI ka) s a e (A.pre<|nV f _ _) o) λy r q=>?_;obtain⟨v,w,rfl,v1,p1,B⟩:=q;refine Ng.then (aa _ (by rw[p];simp) N (jI kb) r w _ A B) λy s2 q=>?_;obtain⟨ae,a8,rfl,v2,p2,L⟩:=q;refine Ng.bd (ũ L.iw<|v1.gr p2.gr) λa4 s3 q=>?_;obtain⟨rfl,T⟩:=q;exact z T (p1.trans p2) L.kk n5 λR=>absurd (by unfold hY;simp[n]) R
 refine Ng.ite (λn=>?_) λb8=>?_
 .
  have p:aD (aA c.N (i:Int))=(aA c.N (i:Int)).M:=by unfold aD;simp[n]
  rw[p]at A z⊢;obtain⟨kl,_,_⟩:=a6.mz n;have a9:∀x∈(aA c.N (i:Int)).M,jS c F x/\x.toNat<f/\(aA c.N x).x=15:=λx u=>by
   obtain⟨a1,a2⟩:=pt (x:=x) (by rw[p];exact u) N;exact⟨a1,a2,DM<|kl x u⟩
  refine Ng.then (al _ F b k s a e _ (λae hy=>?_) (Vq.obj M.sx f _ e λx u=>⟨(a9 x u).1.lo,(a9 x u).1.hi,(a9 x u).2.1,(a9 x u).2.2⟩) A o) λvs r q=>?_
  .obtain⟨x,u,rfl⟩:=kZ.1 hy;obtain⟨a1,a2,a3⟩:=a9 x u;refine⟨(a1.pt M.sx (p:=(aA c.N x).a) (by unfold aD;simp[a3]) W).1,?_⟩;exact jI ((a1.fl M.sx).k1 W)
  .obtain⟨w,hl,ac,p1,k1⟩:=q;refine Ng.bd (JX (ϊ:=λ_ j=>Po c g ct G' Nw r.c j.c w w) p1.iw λhq=>hq) λ_ s2 p2=>?_;refine Ng.bd (OQ (t:=⟨16,parts ((aA c.N (i:Int)).M.map λx=>(aA c.N x).text) vs,[],0,none⟩) (ϊ:=λa5 j=>Po c g ct G' Nw r.c j.c w w/\j.c.T[a5]?=C ⟨16,parts ((aA c.N (i:Int)).M.map λx=>(aA c.N x).text) vs,[],0,none⟩) p2.iw ⟨.inl K,(λx v o=>?_),(λ_ e=>by cases e),(λ_ e=>by cases e),θ,λo=>absurd (show (16:Int)=64 from o) ζ⟩ (λo=>absurd (show (16:Int)=64 from o) ζ) λj D Z=>⟨p2.trans D,Z⟩) λa5 s3 q=>?_
   .obtain o|⟨ad,p,rfl⟩:=MG _ _ x v o
    .cases o
    .exact((ac _ (List.of_mem_zip (a:=ad.1) (b:=ad.2) p).2).gr p2.gr).gr<|W8 _
   .exact z (zA (t:=⟨16,parts ((aA c.N (i:Int)).M.map λx=>(aA c.N x).text) vs,[],0,none⟩) q.2 θ) (p1.trans q.1) (k1.po p1.iw (o.cu.jo.gr p1.gr) q.1 λ_ _ x=>x) n5 λ_=>by unfold hY;simp[n]
 refine Ng.ite (λn=>?_) λb9=>?_
 .
  have p:aD (aA c.N (i:Int))=(aA c.N (i:Int)).M:=by unfold aD;simp[n]
  rw[p]at A z⊢;refine Ng.then (al _ F b k s a e _ (λx u=>⟨(pt (by rw[p];exact u) N).1,jI<|a6.ny n x u⟩) (Vq.of f _ e λx u=>(pt (by rw[p];exact u) N).2) A o) λvs r q=>?_;obtain⟨w,hl,ac,p1,k1⟩:=q;have b5:=M.ls (i:Int);refine Ng.bd (JX (ϊ:=λ_ j=>Po c g ct G' Nw r.c j.c w w) p1.iw λhq=>hq) λ_ s2 p2=>?_;refine Ng.bd (OQ (t:=⟨32,λ_=>none,vs,0,none⟩) (ϊ:=λa5 j=>Po c g ct G' Nw r.c j.c w w/\j.c.T[a5]?=C ⟨32,λ_=>none,vs,0,none⟩) p2.iw ⟨.inr<|.inl K,(λ_ _ o=>by cases o),(λv o=>((ac v o).gr p2.gr).gr<|W8 _),(λ_ e=>by cases e),by simp only;omega,λo=>absurd (show (32:Int)=64 from o) ζ⟩ (λo=>absurd (show (32:Int)=64 from o) ζ) λj D Z=>⟨p2.trans D,Z⟩) λa5 s3 q=>?_;exact z (zA (t:=⟨32,λ_=>none,vs,0,none⟩) q.2 θ) (p1.trans q.1) (k1.po p1.iw (o.cu.jo.gr p1.gr) q.1 λ_ _ x=>x) n5 λ_=>by unfold hY;simp[n]
 refine Ng.ite (λn=>?_) λba=>?_
 .have p:aD (aA c.N (i:Int))=[(aA c.N (i:Int)).a,(aA c.N (i:Int)).b]:=by unfold aD;simp[n]
  rw[p]at A z⊢;obtain⟨ka,kb⟩:=a6.k2 W;refine Ng.then (aa _ (by rw[p];simp) N (jI ka) s a e (A.pre<|nV f _ _) o) λy r q=>?_;obtain⟨v,w,rfl,v1,p1,B⟩:=q;refine Ng.then (aa _ (by rw[p];simp) N (jI kb) r w _ A B) λy s2 q=>?_;obtain⟨ae,a8,rfl,v2,p2,L⟩:=q;refine Ng.bd Vx λa4 s3 q=>?_;obtain⟨⟨rfl,T⟩,ak⟩:=q;have R:hY (aA c.N (i:Int))=pC (aA c.N (i:Int)).text:=by unfold hY;simp[n]
  exact z T (p1.trans p2) L.kk n5 λaq=>by rw[R]at aq⊢;exact ak aq<|a6.t9 n
 refine Ng.ite (λn=>?_) λbb=>?_
 .have p:aD (aA c.N (i:Int))=[(aA c.N (i:Int)).a]:=by unfold aD;simp[n]
  rw[p]at A z⊢;refine Ng.then (aa _ (by rw[p];simp) N (jI<|a6.k1 W) s a e A o) λy r q=>?_;obtain⟨v,w,rfl,v1,p1,B⟩:=q;refine Ng.bd Vu λa4 s2 q=>?_;obtain⟨⟨rfl,T⟩,ak⟩:=q;have R:hY (aA c.N (i:Int))=pC (aA c.N (i:Int)).text:=by unfold hY;simp[n]
  exact z T p1 B.kk n5 λ_=>by rw[R];exact ak<|a6.tw n
 refine Ng.ite (λn=>?_) λbc=>?_
 .have p:aD (aA c.N (i:Int))=[(aA c.N (i:Int)).a]:=by unfold aD;simp[n]
  rw[p]at A z⊢;refine(aa _ (by rw[p];simp) N (jI (a6.l6 n).1) s a e A o).mono (λy r q=>?_) λ_ _ x=>x;obtain⟨v,w,rfl,v1,p1,B⟩:=q;exact⟨v,w,K,v1,p1,B.kk,λe=>absurd e n5,λR=>absurd (by unfold hY;simp[n]) R⟩
 .have ap:(aA c.N (i:Int)).x=4:=W;have p:aD (aA c.N (i:Int))=[]:=by unfold aD;simp[ap]
  rw[p]at z⊢;exact z (sH _) (Po.refl o.iw) o.kk n5 λ_=>by unfold hY;simp[ap];rfl
def Cj(f:Hy c g ct h):∀e,PT c g ct G' h e/\yJ c g ct G' h e/\JB c g ct G' h e/\CQ c g ct G' h e/\JA c g ct G' h e/\PP c g ct G' h e/\IA c g ct G' h e
 |0=>⟨λ_ _ _ _ _ _ _ _ _ _ _ _ _=>trivial,λ_ _ _ _ _ _ _ _ _ _ _ _ _=>trivial,λ_ _ _ _ _ _ _ _ _ _ _ _=>trivial,λ_ _ _ _ _ _ _ _ _ _ _ _ _=>trivial,λ_ _ _ _ _ _ _ _ _ _ _=>trivial,λ_ _ _ _ _ _ _ _ _ _ _ _ _=>trivial,λ_ _ _ _ _ _ _ _ _ _ _ _ _ _ _=>trivial⟩
 |e+1=>by
  obtain⟨q,i,hs,j,n,p,o⟩:=Cj f e;exact⟨Mc f i hs j,Lz f q,LP f i hs,Mf f n,LQ f p n,Mb f i j o,Ly f i j o⟩
end
def ċ{N}{nm}{G b}(w:∀i t,b i=C t->G i=C t)(k)(n)(o):nC (λe i=>e=2/\b i=none) (λs g=>s.c=g.c/\s.fu=g.fu/\s.ln=g.ln/\Q g.ev<=Q s.ev) (rn N nm G k n o) (rn N nm b k n o):=by
 refine SF ?_ ?_ ?_ k k n o<|vQ _
 .rintro⟨c,f,l,e⟩ ⟨p,r,x,j⟩ ⟨rfl,rfl,rfl,a⟩;exact⟨K,λ_=>⟨K,K,K,a⟩,K,λ_=>⟨K,K,K,a⟩⟩
 .refine⟨GI,?_⟩;rintro⟨c,f,l,e⟩ ⟨p,r,x,j⟩ ⟨rfl,rfl,rfl,a⟩;unfold aU;by_cases h:f=0
  .simp[h];exact a
  .simp[h];exact a
 .refine λi v=>⟨GT _ i v,?_⟩;rintro⟨c,f,l,e⟩ ⟨p,r,x,j⟩ ⟨rfl,rfl,rfl,a⟩;have a:Q j<=Q e:=a;unfold dJ;simp only;cases m:G i with
  |none=>
   cases d:b i with
   |none=>exact⟨K,K,K,K,a⟩
   |some t=>rw[w i t d]at m;cases m
  |some t=>
   cases d:b i with
   |none=>
    by_cases h:û Õ χ v.g t=0
    .simp only[yY h];exact .inl ⟨⟨trivial,d⟩,ö _⟩
    .simp only[wY h];exact⟨trivial,trivial,trivial,trivial,â⟩
   |some u=>
    have q:=w i u d;rw[m]at q;cases q;by_cases h:û Õ χ v.g t=0
    .simp[h];exact .inr a
    .simp[h];exact a
def AK{c}{g G':Gm}{n}{l:Int->Int}(z:Hy c g n l)(F:∀i t,G' i=C t->g i=C t)(T:0<Q c.N)(P:jB c ((Q c.N:Int)-1)=-1)(N:(aA c.N<|(Q c.N:Int)-1).x=26)(L:Lf G' (bH c g n (Q c.N) ((Q c.N:Int)-1) ⟨λ_=>none,[]⟩).lf){b}{r x u y}{s o}(h:jL c.N l g b=C (r,x,s))(f:jL c.N l G' b=C (u,y,o)):
 r=u/\x=y/\s.ln=o.ln/\Q o.ev<=Q s.ev:=by
 have d:=(ċ (N:=c.N) (nm:=l) F (8*b+20) (.b<|(Q c.N:Int)-1) none).2 (eK b) (eK b) ⟨K,K,K,vQ _⟩;have M:jS c (-1) ((Q c.N:Int)-1):=⟨W,W,P,.inl K⟩;have H:Iw c g n G' (eK b).c λ_=>-1:=⟨⟨(λi t h=>by simp[eK]at h),(λi q h=>by simp[eK]at h),by simp[eK],by simp[eK]⟩,λk q a2 h=>by simp[eK]at h,λk q j h=>by simp[eK]at h,λk h=>by simp[eK]at h,λi t h=>by simp[eK]at h⟩;have G:He c g n G' (-1) 0 none (eK b).c (λ_=>-1) (λ_=>none):=⟨H,⟨(λ_ e=>by cases e),(λ_ e=>by cases e),λj _ _=>wQ _⟩,fK.no,bP.no,.inl K,wQ _⟩;have w:=(Cj (G':=G') z<|8*b+20).2.2.2.1 ((Q c.N:Int)-1) (-1) 0 none (eK b) (λ_=>-1) ⟨λ_=>none,[]⟩ (Q c.N) M N W L G;unfold jL at h f;unfold Ng at w;generalize rn c.N l g (8*b+20) (.b<|(Q c.N:Int)-1) none (eK b)=R at*;generalize rn c.N l G' (8*b+20) (.b<|(Q c.N:Int)-1) none (eK b)=p at*;cases R with
 |stk=>cases h
 |back v t=>cases h
 |ok a t=>
  cases h;cases p with
  |ok A m=>cases f;exact⟨K,K,d.2.2.2.1,d.2.2.2.2⟩
  |stk=>cases f
  |over e i m=>exact d.elim
  |back v m=>cases f
 |over e i t=>
  cases h;obtain⟨⟨B,D⟩,_⟩|d:=d
  .exact absurd D<|w B
  .cases p with
   |ok A m=>exact d.elim
   |stk=>cases f
   |over S Z m=>cases f;exact⟨d.1.symm,d.2.1.symm,d.2.2.2.2.1,d.2.2.2.2.2⟩
   |back v m=>cases f
def Ft(N:List Nd)(R:uZ)(a b:Nat):Prop:=∀i:Nat,a<=i->i<b->(aD<|aA N (i:Int)).Pairwise (·<·)/\∀p∈aD (aA N i),a<=p/\p<i/\R.getD p.toNat 0=if (aA N i).x=6 then (i:Int) else R.getD i 0
def GS:∀(a:List Nt) (b),(px b a).Pairwise (·<·)
 |[],b=>by simp[px]
 |.ty o::r,b=>by rw[px];exact GS r b
 |.nd k d n a::r,b=>by
  rw[px,List.pairwise_cons];refine⟨λx c=>?_,GS r _⟩;have:=oW r _ x c;rw[nN]at this;omega
section
variable{N:List Nd}
mutual
theorem LN:∀(t:Nt) (b g:Nat) (c:uZ),Wn t->1<=t.k->Em N b g t->Q c=Q N->b+nN t<Q N->Ft N (fH N (b+nN t) (nN t) c) b (b+nN t)
 |.ty o,b,g,c,j,u,l,m,q=>by cases o<;>simp[õ]at u
 |.nd k d n a,b,g,c,j,u,l,m,q=>by
  obtain⟨F,w,e⟩:=l.parts;have M:dP a:=by rw[Wn]at j;exact j.2.2
  have H:(aA N ((b+aB a:Nat):Int)).x=k:=by rw[cJ w];exact(congrArg Nd.x e).trans<|J7 _ _ _ _
  have A:aD (aA N ((b+aB a:Nat):Int))=px b a:=by
   rw[cJ w,<-GY,e];exact IE j
  rw[nN]at q⊢;have Z:jC N c (b+aB a)=c:=by unfold jC;rw[wY W]
  have T:fH N (b+(aB a+1)) (aB a+1) c=fH N (b+aB a) (aB a) (eP N c<|b+aB a):=by rw[fH,show b+(aB a+1)-1=b+aB a by omega]
  rw[T];have L:Q (eP N c<|b+aB a)=Q N:=by rw[JS];exact m
  obtain⟨_,l2,_⟩:=wO a b g _ M F L W;obtain⟨l4,l3⟩:=JE a b g _ M F L W;have G:=CD j l m;intro i v z;by_cases a4:i<b+aB a
  .exact l3 i v a4
  .obtain rfl:i=b+aB a:=W;rw[A,H];refine⟨GS a b,λp B=>?_⟩;have D:=oW a b p B;refine⟨D.1,D.2,?_⟩;have hn:¬((b+aB a:Nat):Int)∈px b a:=λhm=>by have:=oW a b _ hm;omega
   rw[l4 p B,G p.toNat,yY<|by rw[show ((p.toNat:Nat):Int)=p by omega];exact B,l2 _ W,G<|b+aB a];unfold lT;rw[H,Z,wY hn]
theorem JE:∀(a:List Nt) (b g:Nat) (c:uZ),dP a->dM N b g a->Q c=Q N->b+aB a<Q N->(∀x∈px b a,(fH N (b+aB a) (aB a) c).getD x.toNat 0=c.getD x.toNat 0)/\Ft N (fH N (b+aB a) (aB a) c) b (b+aB a)
 |[],b,g,c,_,_,m,_=>⟨λx s=>by simp[px]at s,λi v z=>by rw[aB]at z;omega⟩
 |.ty o::r,b,g,c,j,l,m,q=>by
  have h:=JE r b (g+nT (.ty o)) c j.2 (by have:=l.head.2;rw[nN,Ð]at this;exact this) m (by rw[aB,nN]at q;omega);rw[aB,nN,Þ,px];exact h
 |.nd k d n f::r,b,g,c,j,l,m,q=>by
  have u:1<=(Nt.nd k d n f).k:=by
   have:=M7 j.1;cases this<;>simp[õ]
  rw[aB]at q⊢;have a5:fH N (b+(nN (.nd k d n f)+aB r)) (nN (.nd k d n f)+aB r) c=fH N (b+nN (.nd k d n f)) (nN<|.nd k d n f) (fH N (b+nN (.nd k d n f)+aB r) (aB r) c):=by
   rw[Nat.add_comm (nN<|.nd k d n f)<|aB r,JR,show b+(aB r+nN (.nd k d n f))-aB r=b+nN (.nd k d n f) by omega,show b+(aB r+nN (.nd k d n f))=b+nN (.nd k d n f)+aB r by omega]
  rw[a5];obtain⟨r1,r2,_⟩:=wO r (b+nN (.nd k d n f)) (g+nT (.nd k d n f)) c j.2 l.head.2 m W;obtain⟨r4,r3⟩:=JE r (b+nN (.nd k d n f)) (g+nT (.nd k d n f)) c j.2 l.head.2 m W;obtain⟨_,y,_⟩:=Ia (.nd k d n f) b g (fH N (b+nN (.nd k d n f)+aB r) (aB r) c) j.1 u l.head.1 r1 W;have t3:=LN (.nd k d n f) b g (fH N (b+nN (.nd k d n f)+aB r) (aB r) c) j.1 u l.head.1 r1 W;refine⟨λx s=>?_,λi v z=>?_⟩
  .rw[px,jW]at s;obtain rfl|s:=s
   .rw[tQ,y _<|by rw[nN];omega,r2 _<|by rw[nN];omega]
   .have P:x∈px (b+nN (.nd k d n f)) r:=s;have a6:=oW r _ x P;rw[y _ W];exact r4 x P
  .by_cases w:i<b+nN (.nd k d n f)
   .exact t3 i v w
   .obtain⟨q1,q2⟩:=r3 i W W;refine⟨q1,λp A=>?_⟩;obtain⟨a1,R,S⟩:=q2 p A;refine⟨W,R,?_⟩;rw[y _ W,y _ W];exact S
end
def Ĳ{T}{a}(b:bJ N T a):Ft N (kC N) 0 (Q N)/\(kC N).getD (Q N-1) 0=-1/\0<Q N:=by
 have v:Q N=aB a+1:=by
  have:=congrArg Q b.ey;rw[lZ,R6,nN]at this;exact this
 have d:Em N 0 0 (.nd 26 [] 0 a):=⟨[],[],by simp[b.ey],K⟩;have j:Wn (.nd 26 [] 0 a):=mM b.wn;obtain⟨l,m,e⟩:=d.parts;have n:(aA N ((0+aB a:Nat):Int)).x=26:=by rw[cJ m];exact(congrArg Nd.x e).trans<|J7 _ _ _ _
 have g:aD (aA N ((0+aB a:Nat):Int))=px 0 a:=by
  rw[cJ m,<-GY,e];exact IE j
 have f:Q (ó (Q N) (0:Int))=Q N:=θ;have s:kC N=fH N (0+aB a) (aB a) (eP N (ó (Q N) 0)<|0+aB a):=by
  rw[kC,ND,v,fH,show aB a+1-1=0+aB a by omega]
 have q:dP a:=(T7 _).2 λp g=>(b.wn p g).1;have o:Q (eP N (ó (Q N) 0)<|0+aB a)=Q N:=by rw[JS];exact f
 obtain⟨_,r,_⟩:=wO a 0 0 _ q l o W;obtain⟨x,w⟩:=JE a 0 0 _ q l o W;have c:(eP N (ó (Q N) 0)<|0+aB a).getD (0+aB a) 0=-1:=by
  rw[CD j d f,wY λc=>by have:=oW a 0 _ c;omega];unfold jC;rw[yY W,lQ,List.getElem?_set_self â];rfl
 rw[s];refine⟨λi t y=>?_,?_,W⟩
 .by_cases u:i<0+aB a
  .exact w i t u
  .obtain rfl:i=0+aB a:=W;rw[g,n,wY ζ];refine⟨GS a 0,λp h=>?_⟩;have k:=oW a 0 p h;refine⟨k.1,k.2,?_⟩;rw[x p h,r _ W,c,CD j d f,yY<|by rw[show ((p.toNat:Nat):Int)=p by omega];exact h];unfold lT jC;rw[n,wY ζ,yY W,lQ,List.getElem?_set_self â];rfl
 .rw[show Q N-1=0+aB a by omega,r _ W];exact c
end
