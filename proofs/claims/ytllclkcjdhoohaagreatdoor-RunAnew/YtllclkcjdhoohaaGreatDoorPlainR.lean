/-
  A part of the proof.
-/
import Derived.Test.YtllclkcjdhoohaaGreatDoorPlainA
import Derived.Laws.Entries
import Derived.KernelRfl
set_option maxHeartbeats 0
set_option linter.all false
set_option maxRecDepth 100000
set_option linter.all false
namespace Go.Proofs.YtllclkcjdhoohaaGreatDoor
open Bool renaming false->κ,true->τ
open Decidable renaming decide->ê
open BinOp renaming and->Õ
open Gt renaming step->ĝ,bind->ċ,pos->ĵ,jc->ŧ
open Int renaming reduceEq->Ö,eq_ofNat_of_zero_le->È
open List renaming length->Q,replicate->ó,getElem?_eq_some_iff->Î,append_assoc->ľ
open Nat renaming add_assoc->þ,add_zero->Ð,zero_add->Þ
open Nd renaming fl->ģ
open Nt renaming k->õ
open Option renaming some->C
def Pe(N:List Nd)(i:Nat)(x:Int):Prop:=∃j:Nat,x=j/\j<i/\∃h,aP N[j].x
def Pk(N:List Nd)(i:Nat)(k:Int)(x:Int):Prop:=∃j:Nat,x=j/\j<i/\∃h,N[j].x=k
def Py(T:List Ty)(x:Int):Prop:=∃j:Nat,x=j/\j<Q T/\sz (tr T j)<=Q T
def Pz(T:List Ty)(x:Int):Prop:=x=-1\/Py T x
def aA(N:List Nd)(x:Int):Nd:=N.getD x.toNat kB
structure oI(N:List Nd)(T:List Ty)(i:Nat)(n:Nd):Prop where
 k:1<=n.x/\n.x<=26
 ty:n.x≠6->n.x≠14->n.x≠16->n.x≠17->n.ty=-1
 k6:n.x=6->(∀x∈n.M,Pk N i 16 x)/\Pz T n.ty/\Pk N i 26 n.a
 k7:n.x=7->Pe N i n.a/\∀x∈n.M,Pe N i x
 k1:n.x=8\/n.x=13\/n.x=15\/n.x=18\/n.x=21\/n.x=24\/n.x=25->Pe N i n.a
 k2:n.x=9\/n.x=12\/n.x=19->Pe N i n.a/\Pe N i n.b
 mz:n.x=10->(∀x∈n.M,Pk N i 15 x)/\(n.M.map λx=>(aA N x).text).Nodup/\∀x∈n.M,S6 (aA N x).text
 ny:n.x=11->∀x∈n.M,Pe N i x
 t9:n.x=12->n.text∈[[61,61],[60],[43],[45],[42]]
 tw:n.x=13->n.text∈[[33],[45],[116,121,112,101,111,102]]
 l6:n.x=14->Pe N i n.a/\Py T n.ty
 sk:n.x=16->Pz T n.ty
 ly:n.x=17->Pz T n.ty/\Pe N i n.a
 ku:n.x=20->Pe N i n.a/\Pe N i n.b/\Pe N i n.c
 o7:n.x=22->Pe N i n.a/\Pk N i 26 n.b/\(n.c=-1\/Pk N i 26 n.c)
 o6:n.x=23->Pe N i n.a/\Pk N i 26 n.b
 tu:n.x=26->∀x∈n.M,∃j:Nat,x=j/\j<i
 ls:n.x≠6->n.x≠7->n.x≠10->n.x≠11->n.x≠26->n.M=[]
section
variable{N:List Nd}{T:List Ty}
theorem Em.kd{b a}{p}(h:Em N b a p)(d:1<=p.k):∃j:Nat,bW b a p=j/\b<=j/\j<b+nN p/\∃h,N[j].x=p.k/\N[j].text=p.tx:=by
 cases p with
 |ty o=>cases o<;>simp[õ]at d
 |nd k g n f=>
  obtain⟨_,c,e⟩:=h.parts;refine⟨b+aB f,Em.ix,W,by grind[nN],c,(congrArg Nd.x e).trans<|J7 _ _ _ _,(congrArg Nd.text e).trans (DI _ _ _ _).1⟩
def dM.nw:∀{c} {b g},dM N b g c->(∀p∈c,1<=p.k)->∀x∈bD b g c,∃p∈c,∃j:Nat,x=j/\j<b+aB c/\∃h,N[j].x=p.k/\N[j].text=p.tx
 |[],_,_,_,_,x,a=>by grind[bD]
 |p::r,b,g,h,i,x,a=>by
  rw[bD,jW]at a;obtain⟨k,l⟩:=h.head;obtain rfl|a:=a
  .obtain⟨j,e,_,n,m,d⟩:=k.kd (i p θ);exact⟨p,θ,j,e,by rw[aB];omega,m,d⟩
  .obtain⟨q,f,j,e,n,d⟩:=dM.nw l (λq f=>i q<|by simp[f]) x a;exact⟨q,by simp[f],j,e,by rw[aB];omega,d⟩
theorem dM.rv:∀{a} {b c},dM N b c a->(∀p∈a,1<=p.k)->(bD b c a).map (λx=>(aA N x).text)=a.map Nt.tx
 |[],_,_,_,_=>K
 |p::r,b,c,h,d=>by
  obtain⟨f,g⟩:=h.head;obtain⟨j,e,_,n,k,m,i⟩:=f.kd (d p θ);rw[bD,bY,bY,dM.rv g λq l=>d q<|by simp[l],e];congr 1;unfold aA;rw[tQ,lQ,gQ k];exact i
def dM.split:∀{d c} {b a},dM N b a (d++c)->dM N b a d/\dM N (b+aB d) (a+cK d) c
 |[],c,b,a,h=>by
  refine⟨?_,by grind[aB,cK]⟩;obtain⟨A,B,e,f⟩:=h;exact⟨A,U2 b a c++B,by grind[U2],f⟩
 |p::r,c,b,a,h=>by
  rw[jZ]at h;obtain⟨j,g⟩:=h.head;obtain⟨k,i⟩:=dM.split g;refine⟨?_,by rw[aB,cK,<-þ,<-þ];exact i⟩;obtain⟨A,B,e,f⟩:=h;refine⟨A,U2 (b+aB (p::r)) (a+cK (p::r)) c++B,?_,f⟩;rw[e,<-List.cons_append,SB];simp
def JJ(T:List Ty)(b:Nat)(t:Nt):Prop:=∃a c,T=a++gL b t++c/\Q a=b/\aX a
def kN(T:List Ty)(b:Nat)(d:List Nt):Prop:=∃a c,T=a++Y2 b d++c/\Q a=b/\aX a
def kN.head{b}{p}{r}(h:kN T b<|p::r)(e:Wn p):JJ T b p/\kN T (b+nT p) r:=by
 obtain⟨a,c,h,rfl,d⟩:=h;rw[Y2]at h;exact⟨⟨a,Y2 (Q a+nT p) r++c,η,K,d⟩,⟨a++gL (Q a) p,c,η,by grind[wM],RD p e a d⟩⟩
def kN.drop:∀{c a} {b},kN T b (c++a)->(∀p∈c,Wn p)->kN T (b+cK c) a
 |[],a,b,h,_=>by grind[cK]
 |p::r,a,b,h,d=>by
  rw[cK,<-þ];exact kN.drop (h.head<|d p θ).2 λq e=>d q (by simp[e])
mutual
theorem Hg:∀t:Tr,sz t=fG t
 |.nd _ _ a=>by rw[sz,fG,ZP a]
theorem ZP:∀l:List Tr,cR l=S5 l
 |[]=>K
 |t::r=>by rw[cR,S5,Hg t,ZP r]
end
def Sub(N:List Nd)(T:List Ty)(i:Nat):Prop:=∃b c k d n a,Em N b c (.nd k d n a)/\Wn (.nd k d n a)/\i=b+aB a/\kN T c a
mutual
theorem QV:∀(t:Nt) (b a:Nat),Wn t->Em N b a t->JJ T a t->∀i,b<=i->i<b+nN t->Sub N T i
 |.ty _,b,a,_,_,_,i,e,h=>by grind[nN]
 |.nd k o n d,b,a,c,f,g,i,e,h=>by
  have m:=g;by_cases j:i=b+aB d
  .exact⟨b,a,k,o,n,d,f,c,j,m⟩
  .have l:=c;rw[Wn]at l;exact XL d b a l.2.2 f.parts.1 m i e (by grind[nN])
theorem XL:∀(d:List Nt) (b a:Nat),dP d->dM N b a d->kN T a d->∀i,b<=i->i<b+aB d->Sub N T i
 |[],b,a,_,_,_,i,e,h=>by grind[aB]
 |p::r,b,a,c,f,g,i,e,h=>by
  rw[dP]at c;by_cases j:i<b+nN p
  .exact QV p b a c.1 f.head.1 (g.head c.1).1 i e j
  .exact XL r (b+nN p) (a+nT p) c.2 f.head.2 (g.head c.1).2 i W (by grind[aB])
end
def GW{b e}{a}(d:Wn a)(i:jM a.k)(h:JJ T e a):Pz T (bW b e a):=by
 obtain⟨o,rfl⟩:=uA d i;cases o with
 |none=>exact .inl K
 |some t=>
  have:=yR t;obtain⟨c,f,h,rfl,g⟩:=h;have k:=d;obtain⟨l,m⟩:=MN t k c g;have j:Q (c++gN (Q c) t)=Q c+fG t:=by rw[qQ,tM]
  rw[gL]at h;have n:Q T=Q c+fG t+Q f:=by rw[h,qQ,j]
  refine .inr ⟨Q c+fG t-1,by grind[bW],W,?_⟩;grind[tr,fG,vA,Hg]
theorem oI.of{i}{n}(h:oI N T i n.fl):oI N T i n:=⟨h.k,h.ty,h.k6,h.k7,h.k1,h.k2,h.mz,h.ny,h.t9,h.tw,h.l6,h.sk,h.ly,h.ku,h.o7,h.o6,h.tu,h.ls⟩
def Em.pe{b a i}{p}(h:Em N b a p)(d:aP p.k)(f:b+nN p<=i):Pe N i (bW b a p):=by
 obtain⟨j,e,_,g,c,k,_⟩:=h.kd d.1;exact⟨j,e,W,c,η⟩
def Em.pk{b a i}{p}{k}(h:Em N b a p)(m:p.k=k)(d:1<=k)(f:b+nN p<=i):Pk N i k (bW b a p):=by
 obtain⟨j,e,_,g,c,l,_⟩:=h.kd W;exact⟨j,e,W,c,W⟩
def Vz{i}(hi)(h:Sub N T i):oI N T i N[i]:=by
 obtain⟨b,m,a5,u,n,f,S,L,rfl,D⟩:=h;obtain⟨k,_,Z⟩:=S.parts;refine oI.of ?_;rw[Z];have hs:=M7 L;cases hs with
 |n1 n h=>constructor<;>simp[bV]
 |n2 u h=>constructor<;>simp[bV]
 |n3 n h=>constructor<;>simp[bV]
 |n4=>constructor<;>simp[bV]
 |n5 u h=>constructor<;>simp[bV]
 |n6 f a c l g o q G w=>
  have R:=dM.split k;have s:∀x∈bD b m f,Pk N (b+aB (f++[a,c])) 16 x:=λx s=>by
   obtain⟨p,r,j,e,A,h,B,_⟩:=R.1.nw (λp r=>η) x s;exact⟨j,e,by grind[yN],h,η⟩
  have ha:Pz T (bW (b+aB f) (m+cK f) a):=GW o q ((D.drop λp r=>(l p r).1).head o).1;have hc:=R.2.head.2.head.1.pk (i:=b+aB (f++[a,c])) w ζ (by grind[yN,aB]);have F:bD b m (f++[a,c])=bD b m f++[bW (b+aB f) (m+cK f) a,bW (b+aB f+nN a) (m+cK f+nT a) c]:=by rw[vG];rfl
  have y:(bD b m<|f++[a,c]).dropLast.dropLast=bD b m f:=by rw[F];simp
  have v:(bD b m<|f++[a,c]).dropLast.getLastD 0=bW (b+aB f) (m+cK f) a:=by rw[F];simp[List.getLastD_eq_getLast?]
  have M:(bD b m<|f++[a,c]).getLastD 0=bW (b+aB f+nN a) (m+cK f+nT a) c:=by rw[F];simp[List.getLastD_eq_getLast?]
  generalize bD b m (f++[a,c])=a4 at*;constructor<;>simp[bV];grind
 |n7 a f l g o=>
  have H:∀p∈a::f,aP p.k:=λp r=>η;have s:∀x∈bD b m (a::f),Pe N (b+aB (a::f)) x:=λx s=>by
   obtain⟨p,r,j,e,A,h,B,_⟩:=k.nw (λp r=>(H p r).1) x s;exact⟨j,e,A,h,η⟩
  constructor<;>simp[bV,bD];grind[bD]
 |n8 u a z l g=>
  have o:=k.head.1.pe (i:=b+aB [a]) g (by grind[aB]);constructor<;>simp[bV,bD];omega
 |n9 a c l g o q=>
  have y:=k.head.1.pe (i:=b+aB [a,c]) g (by grind[aB]);have v:=k.head.2.head.1.pe (i:=b+aB [a,c]) q (by grind[aB]);constructor<;>simp[bV,bD];grind
 |n10 f l g=>
  have P:∀p∈f,1<=p.k:=λp r=>η;have s:∀x∈bD b m f,Pk N (b+aB f) 15 x/\S6 (aA N x).text:=λx s=>by
   obtain⟨p,r,j,e,A,h,B,a2⟩:=k.nw P x s;refine⟨⟨j,e,A,h,η⟩,?_⟩;have:(aA N x).text=p.tx:=by
    unfold aA;rw[e,tQ,lQ,gQ h];exact a2
   rw[this];obtain⟨L,H⟩:=l p r;have hs:=M7 L;cases hs<;>simp[õ]at H;grind[Nt.tx]
  have hn:=k.rv P;constructor<;>simp[bV];grind
 |n11 f l=>
  have s:∀x∈bD b m f,Pe N (b+aB f) x:=λx s=>by
   obtain⟨p,r,j,e,A,h,B,_⟩:=k.nw (λp r=>(l p r).2.1) x s;exact⟨j,e,A,h,η⟩
  constructor<;>simp[bV];omega
 |n12 u a c z l g o q=>
  have y:=k.head.1.pe (i:=b+aB [a,c]) g (by grind[aB]);have v:=k.head.2.head.1.pe (i:=b+aB [a,c]) q (by grind[aB]);constructor<;>simp[bV,bD]<;>grind
 |n13 u a z l g=>
  have o:=k.head.1.pe (i:=b+aB [a]) g (by grind[aB]);constructor<;>simp[bV,bD]<;>grind
 |n14 a t l g o=>
  have y:=k.head.1.pe (i:=b+aB [a,.ty<|C t]) g (by grind[aB]);have v:Py T (bW (b+nN a) (m+nT a)<|.ty<|C t):=by
   obtain h|h:=GW (a:=.ty<|C t) o (.inr K) ((D.head l).2.head o).1
   .grind[yR,bW]
   .omega
  constructor<;>simp[bV,bD];grind
 |n15 u a z l g=>
  have o:=k.head.1.pe (i:=b+aB [a]) g (by grind[aB]);constructor<;>simp[bV,bD];omega
 |n16 u a z l g=>
  have v:Pz T (bW b m a):=GW l g (D.head l).1;constructor<;>simp[bV,bD];omega
 |n17 u a c z l g o q=>
  have y:Pz T (bW b m a):=GW l g (D.head l).1;have v:=k.head.2.head.1.pe (i:=b+aB [a,c]) q (by grind[aB]);constructor<;>simp[bV,bD];grind
 |n18 u a z l g=>
  have o:=k.head.1.pe (i:=b+aB [a]) g (by grind[aB]);constructor<;>simp[bV,bD];omega
 |n19 u a c z l g o q=>
  have y:=k.head.1.pe (i:=b+aB [a,c]) g (by grind[aB]);have v:=k.head.2.head.1.pe (i:=b+aB [a,c]) q (by grind[aB]);constructor<;>simp[bV,bD];grind
 |n20 a c d l g o q G w=>
  have y:=k.head.1.pe (i:=b+aB [a,c,d]) g (by grind[aB]);have v:=k.head.2.head.1.pe (i:=b+aB [a,c,d]) q (by grind[aB]);have M:=k.head.2.head.2.head.1.pe (i:=b+aB [a,c,d]) w (by grind[aB]);constructor<;>simp[bV,bD];grind
 |n21 a l g=>
  have o:=k.head.1.pe (i:=b+aB [a]) g (by grind[aB]);constructor<;>simp[bV,bD];omega
 |n22 a c d l g o q G w=>
  have y:=k.head.1.pe (i:=b+aB [a,c,d]) g (by grind[aB]);have v:=k.head.2.head.1.pk (i:=b+aB [a,c,d]) q ζ (by grind[aB]);have M:bW (b+nN a+nN c) (m+nT a+nT c) d=-1\/Pk N (b+aB [a,c,d]) 26 (bW (b+nN a+nN c) (m+nT a+nT c) d):=by
   obtain w|w:=w
   .exact .inr (k.head.2.head.2.head.1.pk w ζ<|by grind[aB])
   .obtain⟨a3,rfl⟩:=uA G<|.inl w;cases a3 with
    |none=>exact .inl K
    |some t=>grind[õ]
  constructor<;>simp[bV,bD];grind
 |n23 a c l g o q=>
  have y:=k.head.1.pe (i:=b+aB [a,c]) g (by grind[aB]);have v:=k.head.2.head.1.pk (i:=b+aB [a,c]) q ζ (by grind[aB]);constructor<;>simp[bV,bD];grind
 |n24 a l g=>
  have o:=k.head.1.pe (i:=b+aB [a]) g (by grind[aB]);constructor<;>simp[bV,bD];omega
 |n25 a l g=>
  have o:=k.head.1.pe (i:=b+aB [a]) g (by grind[aB]);constructor<;>simp[bV,bD];omega
 |n26 f l=>
  have s:∀x∈bD b m f,∃j:Nat,x=j/\j<b+aB f:=λx s=>by
   obtain⟨p,r,j,e,A,h,B,_⟩:=k.nw (λp r=>η) x s;grind
  constructor<;>simp[bV];omega
def bJ.ew{a}(h:bJ N T a)(i)(c):oI N T i N[i]:=by
 have b:Em N 0 0 (.nd 26 [] 0 a):=⟨[],[],by simp[h.ey],K⟩;have e:Q N=nN (.nd 26 [] 0 a):=by
  have:=congrArg Q h.ey;rw[lZ,R6]at this;exact this
 have d:JJ T 0 (.nd 26 [] 0 a):=⟨[],[],by rw[gL,h.types];simp,K,GP⟩;exact Vz c (QV _ 0 0 (mM h.wn) b d i (wQ _) W)
end
structure Vl where
 g:Int
 n:Int
 t:bZ
 h:Option Nat
def Vl.beq(a b:Vl):Bool:=a.g==b.g&&a.n==b.n&&a.t==b.t&&a.h==b.h
def vN(n:Int):Vl:=⟨1,n,[],none⟩
def vT(t:bZ):Vl:=⟨4,0,t,none⟩
def vO:Vl:=⟨8,0,[],none⟩
def vB(b:Bool):Vl:=⟨2,if b then 1 else 0,[],none⟩
def Vl.j8(v:Vl):Bool:=!v.beq vO&&!v.beq (vB κ)
def pA(g:Int):bZ:=if g=1 then [110,117,109] else if g=2 then [98,111,111,108] else if g=4 then [116,101,120,116] else if g=8 then [110,117,108,108] else if g=16 then [111,98,106,101,99,116] else if g=32 then [97,114,114,97,121] else [102,117,110,99,116,105,111,110]
def Vl.ma(v:Vl):bZ:=if v.g=1 then Lib.itoa v.n else if v.g=2 then Lib.formatBool (v.n==1) else if v.g=4 then v.t else pA v.g
structure Th where
 k:Int
 p:bZ->Option Vl
 l:List Vl
 nd:Int
 sc:Option Nat
structure Sc where
 o:Int->Option Vl
 up:Option Nat
structure Co where
 ca:Nat
 th:Nat
 T:List Th
 S:List Sc
structure Ms where
 c:Co
 fu:Nat
 ln:List bZ
 ev:List<|Int×Int
inductive Rr(α:Type) where
 |ok (a:α) (s:Ms)
 |over (e i:Int) (s:Ms)
 |back (v:Vl) (s:Ms)
 |stk
inductive Rc(α:Type) where
 |ok (a:α) (c:Co)
 |over (e:Nat) (i:Int)
 |stk
def X(a):=Ms->Rr a
def X.bd{b c}(m:X b)(k:b->X c):X c:=λs=>match m s with
 |.ok a s=>k a s
 |.over e i s=>.over e i s
 |.back v s=>.back v s
 |.stk=>.stk
def X.cat(m:X<|List Vl):X (List Vl):=λs=>match m s with
 |.ok _ s=>.ok [vO] s
 |.over e i s=>.over e i s
 |.back v s=>.ok [v] s
 |.stk=>.stk
def bR{b}(f:Co->Rc b):X b:=λs=>match f s.c with
 |.ok a c=>.ok a {s with c:=c}
 |.over e i=>.over (e+3) i s
 |.stk=>.stk
def aF{b}(a:b):X b:=bR λc=>.ok a c
def aU:X Unit:=λs=>if s.fu=0 then .over 4 (-1) s else .ok () {s with fu:=s.fu-1}
def vX(l:bZ):X Unit:=λs=>.ok () {s with ln:=s.ln++[l]}
def ret(v:Vl):X (List Vl):=λs=>.back v s
def dJ(G:Int->Option Int)(i:Int)(v:Vl):X Vl:=λs=>match G i with
 |none=>.ok v s
 |C t=>if bits Õ .i64 v.g t=0 then .over 2 i s else .ok v {s with ev:=s.ev++[(i,v.g)]}
def bX(i:Int):X Unit:=bR λc=>if c.th=2000 then .over 3 i else .ok () {c with th:=c.th+1}
def eO(i:Int)(v:Vl)(g:Int):X Unit:=bR λc=>if v.g=g then .ok () c else .over 0 i
def fR(v:Vl):X Th:=bR λc=>match v.h.bind (c.T[·]?) with
 |C t=>.ok t c
 |none=>.stk
def eL(t:Th):X Nat:=bR λc=>.ok (Q c.T) {c with T:=c.T++[t]}
def fL(v:Vl)(t:Th):X Unit:=bR λc=>.ok () {c with T:=c.T.set (v.h.getD 0) t}
def fM(a:Option Nat):X Nat:=bR λc=>.ok (Q c.S) {c with S:=c.S++[⟨λ_=>none,a⟩]}
def eY(j:Nat)(x:Int)(v:Vl):X Unit:=bR λc=>.ok () {c with S:=c.S.modify j λq=>⟨λy=>if y=x then C v else q.o y,q.up⟩}
def W9(S:List Sc)(x:Int):Nat->Option Nat->Option Nat
 |0,_=>none
 |_,none=>none
 |k+1,C j=>match S[j]? with
  |none=>none
  |C q=>if (q.o x).isSome then C j else W9 S x k q.up
def iQ(x:Int)(a:Option Nat):X Nat:=bR λc=>match W9 c.S x (Q c.S) a with
 |C j=>.ok j c
 |none=>.stk
def jA(j:Nat)(x:Int):X Vl:=bR λc=>match (c.S[j]?).bind (·.o x) with
 |C v=>.ok v c
 |none=>.stk
def wr(n:Int):Int:=(n+2147483648) % 4294967296-2147483648
def mD(i:Int)(sg:bZ)(a b:Vl):X Vl:=
 if sg=[61,61] then aF<|vB<|a.beq b
 else if sg=[43]/\a.g=4 then (eO i b 4).bd λ_=>aF<|vT<|(a.t++b.t).take 200
 else (eO i a 1).bd λ_=>(eO i b 1).bd λ_=>aF<|if sg=[43] then vN (wr<|a.n+b.n) else if sg=[45] then vN (wr<|a.n-b.n) else if sg=[42] then vN (wr<|a.n*b.n) else vB<|ê<|a.n<b.n
def kP(i:Int)(sg:bZ)(v:Vl):X Vl:=
 if sg=[33] then aF (vB<|!v.j8) else if sg=[116,121,112,101,111,102] then aF (vT<|pA v.g) else (eO i v 1).bd λ_=>aF<|vN<|wr<|-v.n
def mB(i:Int)(v:Vl)(x:bZ):X Vl:=
 if v.g=32/\x=[108,101,110,103,116,104] then (fR v).bd λt=>aF<|vN<|wr (Q t.l)
 else (eO i v 16).bd λ_=>(fR v).bd λt=>aF<|(t.p x).getD vO
def mY(i:Int)(v a:Vl):X Vl:=(eO i v 32).bd λ_=>(eO i a 1).bd λ_=>(fR v).bd λt=>aF<|if 0<=a.n then t.l.getD a.n.toNat vO else vO
def mC(i:Int)(x:bZ)(o v:Vl):X Unit:=(eO i o 16).bd λ_=>(fR o).bd λt=>fL o {t with p:=λy=>if y=x then C v else t.p y}
def lE(i:Int)(o a v:Vl):X Unit:=(eO i o 32).bd λ_=>(eO i a 1).bd λ_=>(fR o).bd λt=>
 if 0<=a.n/\a.n.toNat<Q t.l then fL o {t with l:=t.l.set a.n.toNat v}
 else if a.n=Q t.l then (bX i).bd λ_=>fL o {t with l:=t.l++[v]}
 else bR λ_=>.over 0 i
def iG(G:Int->Option Int):uZ->List Vl->Nat->X Unit
 |[],_,_=>aF ()
 |p::l,a,j=>(dJ G p<|a.headD vO).bd λv=>(eY j p v).bd λ_=>iG G l a.tail j
def parts(b:List bZ)(a:List Vl):bZ->Option Vl:=(b.zip a).foldl (λf p y=>if y=p.1 then C p.2 else f y) λ_=>none
inductive Md where
 |e (i:Int)
 |v (i:Int)
 |vs (l:uZ)
 |b (i:Int)
 |ss (l:uZ)
 |s (i:Int)
 |w (i:Int)
def r1(r:List Vl):Vl:=r.headD vO
def rn(N:List Nd)(e:Int->Int)(G:Int->Option Int):Nat->Md->Option Nat->X (List Vl)
 |0,_,_=>λ_=>.stk
 |k+1,.v i,d=>aU.bd λ_=>(rn N e G k (.e i) d).bd λr=>(dJ G i<|r1 r).bd λv=>aF [v]
 |_+1,.vs [],_=>aF []
 |k+1,.vs<|i::l,d=>(rn N e G k (.v i) d).bd λr=>(rn N e G k (.vs l) d).bd λq=>aF<|r1 r::q
 |k+1,.b i,d=>(fM d).bd λj=>rn N e G k (.ss (aA N i).M)<|C j
 |_+1,.ss [],_=>aF []
 |k+1,.ss<|i::l,d=>aU.bd λ_=>(rn N e G k (.s i) d).bd λ_=>rn N e G k (.ss l) d
 |k+1,.w i,d=>(rn N e G k (.v (aA N i).a) d).bd λr=>if (r1 r).j8 then (rn N e G k (.b (aA N i).b) d).bd λ_=>rn N e G k (.w i) d else aF []
 |k+1,.s i,d=>
  let n:=aA N i;let v:=λi=>rn N e G k (.v i) d;if n.x=17 then (v n.a).bd λr=>(eY (d.getD 0) i<|r1 r).bd λ_=>aF []
  else if n.x=18 then (v n.a).bd λr=>(iQ (e i) d).bd λj=>(eY j (e i)<|r1 r).bd λ_=>aF []
  else if n.x=19 then (v n.a).bd λo=>(v n.b).bd λr=>(mC i n.text (r1 o)<|r1 r).bd λ_=>aF []
  else if n.x=20 then (v n.a).bd λo=>(v n.b).bd λa=>(v n.c).bd λr=>(lE i (r1 o) (r1 a)<|r1 r).bd λ_=>aF []
  else if n.x=21 then (v n.a).bd λr=>(vX (r1 r).ma).bd λ_=>aF []
  else if n.x=22 then (v n.a).bd λr=>if (r1 r).j8 then rn N e G k (.b n.b) d else if n.c=-1 then aF [] else rn N e G k (.b n.c) d
  else if n.x=23 then rn N e G k (.w i) d
  else if n.x=24 then (v n.a).bd λr=>ret<|r1 r
  else (v n.a).bd λ_=>aF []
 |k+1,.e i,d=>
  let n:=aA N i;let v:=λi=>rn N e G k (.v i) d;if n.x=1 then aF [vN<|wr n.n]
  else if n.x=2 then aF [vT n.text]
  else if n.x=3 then aF [vB<|n.n==1]
  else if n.x=5 then (iQ (e i) d).bd λj=>(jA j<|e i).bd λr=>aF [r]
  else if n.x=6 then (bX i).bd λ_=>(eL ⟨64,λ_=>none,[],i,d⟩).bd λj=>aF [⟨64,0,[],C j⟩]
  else if n.x=7 then (v n.a).bd λf=>(rn N e G k (.vs n.M) d).bd λh=>(eO i (r1 f) 64).bd λ_=>
   (bR λc=>if c.ca=40 then .over 2 i else .ok () {c with ca:=c.ca+1}).bd λ_=>(fR<|r1 f).bd λt=>
   (X.cat<|(fM t.sc).bd λj=>(iG G (aA N t.nd).M h j).bd λ_=>rn N e G k (.b (aA N t.nd).a)<|C j).bd λr=>
   (bR λc=>.ok () {c with ca:=c.ca-1}).bd λ_=>aF r
  else if n.x=8 then (v n.a).bd λo=>(mB i (r1 o) n.text).bd λr=>aF [r]
  else if n.x=9 then (v n.a).bd λo=>(v n.b).bd λa=>(mY i (r1 o)<|r1 a).bd λr=>aF [r]
  else if n.x=10 then (rn N e G k (.vs<|n.M.map λx=>(aA N x).a) d).bd λg=>(bX i).bd λ_=>(eL ⟨16,parts (n.M.map λx=>(aA N x).text) g,[],0,none⟩).bd λj=>aF [⟨16,0,[],C j⟩]
  else if n.x=11 then (rn N e G k (.vs n.M) d).bd λg=>(bX i).bd λ_=>(eL ⟨32,λ_=>none,g,0,none⟩).bd λj=>aF [⟨32,0,[],C j⟩]
  else if n.x=12 then (v n.a).bd λa=>(v n.b).bd λb=>(mD i n.text (r1 a)<|r1 b).bd λr=>aF [r]
  else if n.x=13 then (v n.a).bd λa=>(kP i n.text<|r1 a).bd λr=>aF [r]
  else if n.x=14 then v n.a
  else aF [vO]
def eK(a:Nat):Ms:=⟨⟨0,0,[],[]⟩,a,[],[]⟩
def jL(N:List Nd)(b:Int->Int)(G:Int->Option Int)(a:Nat):Option (Int×Int×Ms):=
 match rn N b G (8*a+20) (.b<|(Q N:Int)-1) none (eK a) with
 |.ok _ s=>C (1,-1,s)
 |.over e i s=>C (e,i,s)
 |_=>none
structure Lg(N:List Nd)(nm:Int->Int)(G G':Int->Option Int) where
 R:{α:Type}->X α->X α->Prop
 stk:∀k md sc,R (λ_=>.stk)<|rn N nm G' k md sc
 bd:∀{α β:Type} {m m':X α} {k k':α->X β},R m m'->(∀a,R (k a)<|k' a)->R (m.bd k) (m'.bd k')
 cat:∀{m m':X (List Vl)},R m m'->R m.cat m'.cat
 co:∀{α:Type} (f:Co->Rc α),R (bR f)<|bR f
 jv:R aU aU
 uj:∀l,R (vX l)<|vX l
 ret:∀v,R (ret v)<|ret v
 lq:∀i v,R (dJ G i v)<|dJ G' i v
section
variable{N:List Nd}{a:Int->Int}{G G':Int->Option Int}(L:Lg N a G G')
theorem Lg.fe{c}(b:c):L.R (aF b) (aF b):=L.co _
def Lg.ite{g}{c}[Decidable c]{d b e f:X g}(h:L.R d e)(k:L.R b f):L.R (if c then d else b) (if c then e else f):=η
def ZA:∀(l) (b) (j),L.R (iG G l b j)<|iG G' l b j
 |[],_,_=>by rw[iG,iG];exact L.co _
 |p::l,b,j=>L.bd (L.lq _ _) λ_=>L.bd (L.co _) λ_=>ZA l b.tail j
def Pl(i)(x)(c b):L.R (mD i x c b) (mD i x c b):=by
 unfold mD;split
 .exact L.co _
 split
 .exact L.bd (L.co _) λ_=>L.co _
 .exact L.bd (L.co _) λ_=>L.bd (L.co _) λ_=>L.co _
def Pf(i)(x)(b):L.R (kP i x b) (kP i x b):=by
 unfold kP;repeat' split
 all_goals first|exact L.co _|exact L.bd (L.co _) λ_=>L.co _
def Ov(i)(v)(x):L.R (mB i v x) (mB i v x):=by
 unfold mB;split
 .exact L.bd (L.co _) λ_=>L.co _
 .exact L.bd (L.co _) λ_=>L.bd (L.co _) λ_=>L.co _
def wm(i)(v b):L.R (mY i v b) (mY i v b):=L.bd (L.co _) λ_=>L.bd (L.co _) λ_=>L.bd (L.co _) λ_=>L.co _
def Pi(i)(x)(o v):L.R (mC i x o v) (mC i x o v):=L.bd (L.co _) λ_=>L.bd (L.co _) λ_=>L.co _
def Oz(i)(o b v):L.R (lE i o b v) (lE i o b v):=L.bd (L.co _) λ_=>L.bd (L.co _) λ_=>L.bd (L.co _) λ_=>by
 repeat' split
 all_goals first|exact L.co _|exact L.bd (L.co _) λ_=>L.co _
def DZ:∀(k c) (d) (e),k<=c->L.R (rn N a G k d e) (rn N a G' c d e)
 |0,_,_,_,_=>L.stk _ _ _
 |k+1,c,d,e,h=>by
  obtain⟨c,rfl⟩:∃j,c=j+1:=⟨c-1,W⟩;have b:=λd e=>DZ k c d e W;cases d with
  |v i=>exact L.bd L.jv λ_=>L.bd (b _ _) λ_=>L.bd (L.lq _ _) λ_=>L.co _
  |vs l=>
   cases l with
   |nil=>rw[rn,rn];exact L.co _
   |cons i l=>exact L.bd (b _ _) λ_=>L.bd (b _ _) λ_=>L.co _
  |b i=>exact L.bd (L.co _) λ_=>b _ _
  |ss l=>
   cases l with
   |nil=>rw[rn,rn];exact L.co _
   |cons i l=>exact L.bd L.jv λ_=>L.bd (b _ _) λ_=>b _ _
  |w i=>
   refine L.bd (b _ _) λr=>?_;split
   .exact L.bd (b _ _) λ_=>b _ _
   .exact L.co _
  |s i=>
   rw[rn,rn];dsimp only;refine L.ite (L.bd (b _ _) λ_=>L.bd (L.co _) λ_=>L.co _) ?_;refine L.ite (L.bd (b _ _) λ_=>L.bd (L.co _) λ_=>L.bd (L.co _) λ_=>L.co _) ?_;refine L.ite (L.bd (b _ _) λ_=>L.bd (b _ _) λ_=>L.bd (Pi L _ _ _ _) λ_=>L.co _) ?_;refine L.ite (L.bd (b _ _) λ_=>L.bd (b _ _) λ_=>L.bd (b _ _) λ_=>L.bd (Oz L _ _ _ _) λ_=>L.co _) ?_;refine L.ite (L.bd (b _ _) λ_=>L.bd (L.uj _) λ_=>L.co _) ?_;refine L.ite ?_ ?_
   .refine L.bd (b _ _) λ_=>?_;repeat' split
    all_goals first|exact b _ _|exact L.co _
   refine L.ite (b _ _) ?_;exact L.ite (L.bd (b _ _) λ_=>L.ret _)<|L.bd (b _ _) λ_=>L.co _
  |e i=>
   rw[rn,rn];dsimp only;refine L.ite (L.co _) ?_;refine L.ite (L.co _) ?_;refine L.ite (L.co _) ?_;refine L.ite (L.bd (L.co _) λ_=>L.bd (L.co _) λ_=>L.co _) ?_;refine L.ite (L.bd (L.co _) λ_=>L.bd (L.co _) λ_=>L.co _) ?_;refine L.ite (L.bd (b _ _) λ_=>L.bd (b _ _) λ_=>L.bd (L.co _) λ_=>L.bd (L.co _) λ_=>L.bd (L.co _) λ_=>L.bd (L.cat<|L.bd (L.co _) λ_=>L.bd (ZA L _ _ _) λ_=>b _ _) λ_=>L.bd (L.co _) λ_=>L.co _) ?_;refine L.ite (L.bd (b _ _) λ_=>L.bd (Ov L _ _ _) λ_=>L.co _) ?_;refine L.ite (L.bd (b _ _) λ_=>L.bd (b _ _) λ_=>L.bd (wm L _ _ _) λ_=>L.co _) ?_;refine L.ite (L.bd (b _ _) λ_=>L.bd (L.co _) λ_=>L.bd (L.co _) λ_=>L.co _) ?_;refine L.ite (L.bd (b _ _) λ_=>L.bd (L.co _) λ_=>L.bd (L.co _) λ_=>L.co _) ?_;refine L.ite (L.bd (b _ _) λ_=>L.bd (b _ _) λ_=>L.bd (Pl L _ _ _ _) λ_=>L.co _) ?_;refine L.ite (L.bd (b _ _) λ_=>L.bd (Pf L _ _ _) λ_=>L.co _) ?_;exact L.ite (b _ _)<|L.co _
end
def Tg(N:List Nd)(b:Nat)(j:Int):Prop:=∃n:Nat,j=n/\∃h,(N[n].x=16\/N[n].x=17)/\(n<b\/N[n].x=17/\Pk N n 6 N[n].a)
def Tg.mono{N}{a b}{j}(h:Tg N a j)(f:a<=b):Tg N b j:=by
 obtain⟨n,e,d,c,h⟩:=h;exact⟨n,e,d,c,h.imp (λx=>W) id⟩
def fD(N:List Nd)(b:Nat)(a:List Fr):Prop:=∀f∈a,∀x j,f x=C j->Tg N b j
def fD.mono{N}{a b}{c}(h:fD N a c)(d:a<=b):fD N b c:=λf g x j e=>(h f g x j e).mono d
def fD.look{N}{b}:∀{fs},fD N b fs->∀{x j},bM x fs=C j->Tg N b j
 |[],_,x,j,e=>by grind[bM]
 |f::r,h,x,j,e=>by
  rw[bM]at e;cases a:bM x r with
  |none=>rw[a]at e;exact h f θ x j e
  |some i=>
   rw[a]at e;simp only[zQ]at e;subst e;exact fD.look (fs:=r) (λf c=>h f<|by simp[c]) a
theorem fD.set{N}{b}{c}(h:fD N b c){x}{j}(i:Tg N b j):fD N b (I2 c x j):=by
 intro f a y k e;unfold I2 at a;obtain a|a:=qW.1 a
 .exact h f ((List.dropLast_sublist _).subset a) y k e
 .simp at a;subst a;unfold Fr.set at e;split at e
  .grind
  .unfold kG at e;rw[List.getLastD_eq_getLast?]at e;cases d:c.getLast? with
   |none=>simp_all[Fr.no]
   |some g=>
    rw[d]at e;exact h g (List.mem_of_getLast? d) y k e
def fD.drop{N}{b}{a}(h:fD N b a):fD N b a.dropLast:=λf c=>h f<|(List.dropLast_sublist _).subset c
def fD.push{N}{b}{c}(h:fD N b c):fD N b (c++[Fr.no]):=by
 intro f a x j e;obtain a|a:=qW.1 a
 .exact h f a x j e
 simp_all[zW,Fr.no]
def xJ(k:Int):Prop:=k=5\/k=18
structure ř(N:List Nd)(a b:Nat)(fs:List Fr)(l:List<|Nat×Int):Prop where
 fr:fD N b fs
 tg:∀p∈l,(∃h:p.1<Q N,xJ N[p.1].x)/\Tg N p.1 p.2
 od:∀i (h:i<Q N),a<=i->i<b->xJ N[i].x->∃j,(i,j)∈l
def cM(N:List Nd)(a b:Nat)(r:Br):Prop:=∀c l,r=.ok c l->ř N a b c l
theorem cM.and{N}{a b c}{r}{k}(h:cM N a b r)(w:∀f,fD N b f->cM N b c (k f)):cM N a c (r.and k):=by
 intro A l e;cases r with
 |bad e i=>grind[Br.and]
 |ok f1 x=>
  rw[Br.jf]at e;have g:=h f1 x K;cases n:k f1 with
  |bad z B=>grind
  |ok f2 y=>
   rw[n]at e;simp at e;obtain⟨rfl,rfl⟩:=e;have m:=w f1 g.fr f2 y n;refine⟨m.fr,λp d=>?_,λi o s t q=>?_⟩
   .obtain d|d:=qW.1 d
    .exact g.tg p d
    .exact m.tg p d
   .by_cases u:i<b
    .obtain⟨j,v⟩:=g.od i o s u q;grind
    .obtain⟨j,v⟩:=m.od i o W t q;grind
theorem cM.grow{N}{a b}{r}(h:cM N a b r)(n:∀h,¬xJ N[b].x):cM N a (b+1) r:=by
 intro d l e;have c:=h d l e;refine⟨c.fr.mono W,c.tg,λi g f k j=>?_⟩;by_cases m:i=b
 .grind
 .exact c.od i g f W j
theorem cM.pop{N}{a b}{r}(h:cM N a b r):cM N a b r.pop:=by
 intro f l e;cases r with
 |bad e i=>grind[Br.pop]
 |ok f1 d=>
  simp only[Br.pop,Br.ok.injEq]at e;obtain⟨rfl,rfl⟩:=e;have c:=h f1 d K;exact⟨c.fr.drop,c.tg,c.od⟩
theorem cM.jk{N}{a b}{r}(h:cM N a b r){x}{j}(d:Tg N b j):cM N a b (r.jk x j):=by
 intro g l e;cases r with
 |bad e i=>grind[Br.jk]
 |ok f1 f=>
  simp only[Br.jk,Br.ok.injEq]at e;obtain⟨rfl,rfl⟩:=e;have c:=h f1 f K;exact⟨c.fr.set d,c.tg,c.od⟩
theorem cM.none{N}{a}{b}(h:fD N a b):cM N a a (.ok b []):=by
 intro f l e;simp at e;obtain⟨rfl,rfl⟩:=e;exact⟨h,λp j=>η,λi g c d=>W⟩
def cM.bad{N}{a b}{e}{i}:cM N a b (.bad e i):=by
 intro f l e;grind
section
variable{N:List Nd}
def XM{b d}{k}{f}{n}{a}(h:Em N b d<|.nd k f n a):∃c,N[b+aB a].x=k:=by
 obtain⟨_,c,e⟩:=h.parts;exact⟨c,(congrArg Nd.x e).trans<|J7 _ _ _ _⟩
mutual
theorem MW:∀(t:Nt) (g:List Fr) (b d:Nat),Wn t->Em N b d t->fD N b g->cM N b (b+nN t) (dU g b t)
 |.ty _,g,b,d,_,_,j=>by simp_all[dU,nN,cM.none]
 |.nd k F n c,g,b,d,q,m,j=>by
  obtain⟨v,p⟩:=XM m;have a3:=q;rw[Wn]at a3;obtain⟨ab,-,x⟩:=a3;have s:=m.parts.1;rw[dU,nN,<-þ];split
  .rename_i T;subst T;have L:c=[]:=by simpa[bO]using ab
   subst L;simp only[aB,Ð]at*;split
   .exact cM.bad
   .rename_i a5 H;intro f ac e;simp at e;obtain⟨rfl,rfl⟩:=e;refine⟨j.mono W,λa6 u=>?_,λi a2 Z hb l=>⟨a5,?_⟩⟩
    .simp at u;subst u;exact⟨⟨v,.inl p⟩,j.look H⟩
    grind
  rename_i T;split
  .rename_i R;split
   .exact cM.bad
   .rename_i a5 H;have hl:=tH c κ g b d x s j;intro f ac e;rw[Br.jf]at e;cases hh:bE κ g b c with
    |bad e2 i2=>grind
    |ok f2 l2=>
     rw[hh]at e;simp only[Br.ok.injEq]at e;obtain⟨rfl,rfl⟩:=e;have D:=hl f2 l2 hh;refine⟨D.fr.mono W,λa6 u=>?_,λi a2 Z hb l=>?_⟩
     .obtain u|u:=qW.1 u
      .simp at u;subst u;exact⟨⟨v,.inr<|p.trans R⟩,(j.look H).mono θ⟩
      .exact D.tg a6 u
     .by_cases ad:i=b+aB c
      .grind
      .obtain⟨j',ae⟩:=D.od i a2 Z W l;grind
  rename_i R;have B:∀h:b+aB c<Q N,¬xJ N[b+aB c].x:=λh l=>by
   rw[p]at l;obtain l|l:=l<;>omega
  split
  .rename_i z;split
   .exact cM.bad
   .have M:Tg N (b+aB c+1) ((b+aB c:Nat):Int):=⟨b+aB c,K,v,.inr<|p.trans z,.inl W⟩;refine cM.jk (cM.grow ?_ B) M;by_cases A:vS c=τ
    .rw[yY A];refine tH c κ _ b d x s<|j.set ⟨b+aB c,K,v,.inr<|p.trans z,.inr ⟨p.trans z,?_⟩⟩;match c,A,s,v,p,m with
     |[a,.nd P a7 n' y],A,s,v,p,m=>
      have af:P=6:=by simpa[vS]using A
      have ea:N[b+aB [a,.nd P a7 n' y]].a=bW (b+nN a) (d+nT a) (.nd P a7 n' y):=by
       obtain⟨_,_,e⟩:=m.parts;have:=congrArg Nd.a e;subst z;exact this
      rw[ea];exact s.head.2.head.1.pk (by grind[õ]) ζ (by grind[aB])
    .rw[wY A];exact tH c κ g b d x s j
  rename_i z;split
  .rename_i G;have L:∃o,c=[.ty o]:=by
    have hs:=M7 q;subst G;cases hs with
    |n16 F a h0 h1 D=>
     grind[uA]
   obtain⟨o,rfl⟩:=L;have aa:aB [Nt.ty o]=0:=by simp[aB,nN]
   rw[aa]at*;have M:Tg N (b+0+1) ((b+0:Nat):Int):=⟨b+0,K,v,.inl<|p.trans G,.inl W⟩;exact cM.jk (cM.grow (b:=b+0) (cM.none W) B) M
  rename_i G;split
  .exact cM.grow (tH c τ _ b d x s j.push).pop B
  split
  .exact cM.grow (tH c κ _ b d x s j.push).pop B
  .exact cM.grow (tH c κ g b d x s j) B
theorem tH:∀(c:List Nt) (w:Bool) (g:List Fr) (b d:Nat),dP c->dM N b d c->fD N b g->cM N b (b+aB c) (bE w g b c)
 |[],w,g,b,d,_,_,j=>by simp_all[bE,aB,cM.none]
 |.ty o::r,w,g,b,d,q,m,j=>by
  rw[dP]at q;rw[bE,aB,nN,Þ];exact tH r w g b (d+nT (.ty o)) q.2 m.head.2 j
 |.nd k F n y::r,w,g,b,d,q,m,j=>by
  rw[dP]at q;rw[bE,aB,<-þ];refine cM.and (b:=b+nN (.nd k F n y)) ?_ λf a9=>tH r w f _ _ q.2 m.head.2 a9;split
  .rename_i S;have a8:k=26:=by simp at S;exact S.2
   have a4:=q.1;rw[Wn]at a4;obtain⟨v,p⟩:=XM m.head.1;rw[nN,<-þ];refine cM.grow (tH y κ g b d a4.2.2 m.head.1.parts.1 j) λh l=>?_;rw[p,a8]at l;obtain l|l:=l<;>exact absurd l ζ
  .exact MW (.nd k F n y) g b d q.1 m.head.1 j
end
def Ym(l):∀(a) (i) (v),(dG a l)[i]?=C v->a[i]?=C v/\(∀j,(i,j) ∉ l)\/(i,v)∈l:=by
 induction l with
 |nil=>intro a i v h;exact .inl ⟨h,λ_ e=>η⟩
 |cons p r c=>
  intro a i v h;obtain⟨b,d⟩|b:=c (a.set p.1 p.2) i v h<;>grind
structure Az(N:List Nd)(ts:uZ):Prop where
 len:Q ts=Q N
 tg:∀i (h:i<Q N),xJ N[i].x->Tg N i (ts.getD i 0)
 no:∀i (h:i<Q N),¬xJ N[i].x->ts.getD i 0=-1
 rg:∀i,i<Q N->-1<=ts.getD i 0/\ts.getD i 0<Q N
def Ey{T}{d}(h:bJ N T d){g}{l}(o:dU [] 0 (.nd 26 [] 0 d)=.ok g l):Az N (dG (ó (Q N)<|-1) l):=by
 have p:Em N 0 0 (.nd 26 [] 0 d):=⟨[],[],by simp[h.ey],K⟩;have u:Q N=nN (.nd 26 [] 0 d):=by
  have:=congrArg Q h.ey;rw[lZ,R6]at this;exact this
 have c:=MW (.nd 26 [] 0 d) [] 0 0 (mM h.wn) p (λf c=>η) g l o;have q:Q (dG (ó (Q N)<|-1) l)=Q N:=by rw[yX];simp
 have key:∀i (b:i<Q N),∃v,(dG (ó (Q N)<|-1) l).getD i 0=v/\((v=-1/\∀j,(i,j) ∉ l)\/(i,v)∈l):=λi b=>by
  have a:(dG (ó (Q N)<|-1) l)[i]?=C ((dG (ó (Q N)<|-1) l).getD i 0):=by
   rw[lQ,gQ W];rfl
  refine⟨_,K,?_⟩;obtain⟨k,s⟩|k:=Ym l _ i _ a<;>grind
 refine⟨q,λi b m=>?_,λi b m=>?_,λi b=>?_⟩
 .obtain⟨v,e,a⟩:=key i b;rw[e];obtain⟨_,a⟩|a:=a
  .obtain⟨j,t⟩:=c.od i b (wQ _) W m;grind
  .exact(c.tg _ a).2
 .obtain⟨v,e,a⟩:=key i b;rw[e];obtain⟨a,_⟩|a:=a
  .omega
  .obtain⟨⟨_,k⟩,_⟩:=c.tg _ a;grind
 .obtain⟨v,e,a⟩:=key i b;rw[e];obtain⟨a,_⟩|a:=a
  .omega
  .obtain⟨_,n,r,w,_⟩:=c.tg _ a;omega
end
def iM:Tr:=.nd 5 [] []
def eV(k:Int):Tr:=.nd k [] []
abbrev Of:=List<|Option Tr
def bB(a:Of)(x:Int):Tr:=(a.getD x.toNat none).getD iM
structure Cx where
 N:List Nd
 T:List Ty
 ts:uZ
 fn:uZ
def lJ(T:List Ty)(n:Nd):Tr:=if n.ty=-1 then iM else tr T n.ty.toNat
def Z5(c:Cx)(a:Of)(j:Int):Tr:=
 if (aA c.N j).ty≠-1 then tr c.T (aA c.N j).ty.toNat else if (aA c.N j).x=17 then bB a (aA c.N j).a else iM
def oO(c:Cx)(n:Nd):Tr:=.nd 9 []<|lJ c.T n::n.M.map (Z5 c [])
def N9(a:Of)(n:Nd):Option Tr:=
 if (bB a n.a).k=5 then C (bB a n.a) else if (bB a n.a).k=8/\n.text=[108,101,110,103,116,104] then C (eV 1) else I8 n.text (bB a n.a).ns (bB a n.a).ks
def M3(a:Of)(n:Nd):Option Tr:=
 if F7 (bB a n.b) (eV 1)=τ then if (bB a n.a).k=5 then C (bB a n.a) else if (bB a n.a).k=8 then C ((bB a n.a).ks.headD iM) else none else none
def aN(c:Cx)(a:Of)(i:Nat):Option (List<|Int×Tr):=
 let n:=aA c.N i;if n.x=7 then if (bB a n.a).k=5 then C [] else C<|n.M.zip (bB a n.a).ks.tail
 else if n.x=14 then C [(n.a,tr c.T n.ty.toNat)]
 else if n.x=17 then if n.ty≠-1 then C [(n.a,tr c.T n.ty.toNat)] else C []
 else if n.x=18 then C [(n.a,Z5 c a<|c.ts.getD i 0)]
 else if n.x=19 then (N9 a n).map λt=>[(n.b,t)]
 else if n.x=20 then (M3 a n).map λt=>[(n.c,t)]
 else if n.x=24 then C [(n.a,lJ c.T<|aA c.N<|c.fn.getD i 0)]
 else C []
def Y1(c:Cx)(a:Of)(i:Nat):Bool:=
 match aN c a i with
 |none=>κ
 |C l=>l.all λp=>F7 (bB a p.1) p.2
def jH(a:Of)(x:Int):Bool:=(bB a x).k==1||(bB a x).k==5
def nD(c:Cx)(a:Of)(i:Nat):Option Tr:=
 let n:=aA c.N i;if (bB a n.a).k=5 then C<|bB a n.a
 else if (bB a n.a).k≠9\/Q n.M≠Q (bB a n.a).ks.tail then none
 else if Y1 c a i=τ then C ((bB a n.a).ks.headD iM) else none
def sT(a:Of)(n:Nd):Option Tr:=
 if (bB a n.a).k=5\/(bB a n.b).k=5 then C iM
 else if (bB a n.a).k≠(bB a n.b).k\/((bB a n.a).k≠1/\(bB a n.a).k≠3) then none
 else C<|eV (bB a n.a).k
def uR(a:Of)(n:Nd):Option Tr:=
 if n.text=[61,61] then C (eV 2) else if n.text=[43] then sT a n
 else if jH a n.a&&jH a n.b then C (if n.text=[60] then eV 2 else eV 1) else none
def uL(a:Of)(n:Nd):Option Tr:=
 if n.text=[33] then C (eV 2) else if n.text=[116,121,112,101,111,102] then C (eV 3) else if jH a n.a then C (eV 1) else none
def DK(N:List Nd)(a:Of)(n:Nd):Tr:=.nd 7 (n.M.map λx=>(aA N x).text)<|n.M.map λx=>bB a (aA N x).a
def BL(a:Of)(n:Nd):Tr:=.nd 8 [] [mE<|n.M.map<|bB a]
def F6(c:Cx)(a:Of)(i:Nat):Option Tr:=
 let n:=aA c.N i;if n.x=1 then C (eV 1) else if n.x=2 then C (eV 3) else if n.x=3 then C<|eV 2
 else if n.x=5 then C (Z5 c a<|c.ts.getD i 0) else if n.x=6 then C<|bB a i
 else if n.x=7 then nD c a i else if n.x=8 then N9 a n else if n.x=9 then M3 a n
 else if n.x=10 then C (DK c.N a n) else if n.x=11 then C<|BL a n
 else if n.x=12 then uR a n else if n.x=13 then uL a n
 else if n.x=14 then C (tr c.T n.ty.toNat) else C<|eV 4
def kS(c:Cx)(a:Of)(i:Nat):Int ⊕ Option Tr:=
 let n:=aA c.N i;if 1<=n.x/\n.x<=14 then match F6 c a i with
  |none=>.inl 9
  |C t=>if 300<sz t then .inl 2 else .inr<|C t
 else if n.x=24/\c.fn.getD i 0=-1 then .inl 4
 else if Y1 c a i=τ then .inr none else .inl 9
def kA(c:Cx):Of:=c.N.map λn=>if n.x=6 then C (oO c n) else none
def rX(c:Cx)(r:(Int×Nat) ⊕ Of)(i:Nat):(Int×Nat) ⊕ Of:=
 match r with
 |.inl e=>.inl e
 |.inr a=>match kS c a i with
  |.inl e=>.inl (e,i)
  |.inr none=>.inr a
  |.inr (C t)=>.inr<|a.set i<|C t
def W5(c:Cx):Nat->(Int×Nat) ⊕ Of
 |0=>.inr<|kA c
 |j+1=>rX c (W5 c j) j
def mW(c:Cx):(Int×Nat) ⊕ Of:=W5 c (Q c.N)
theorem DD(c){e}:∀{j k},W5 c j=.inl e->j<=k->W5 c k=.inl e
 |j,0,h,a=>η
 |j,k+1,h,a=>by
  by_cases b:j=k+1
  .grind
  .rw[W5,DD c h (W:j<=k)];rfl
structure jG(c:Cx):Prop where
 ew:∀i (h:i<Q c.N),oI c.N c.T i c.N[i]
 mw:Az c.N c.ts
 fp:Q c.N<=1200
 jz:Q c.T<=300
 ok:aX c.T
 ls:∀i (h:i<Q c.N),Q c.N[i].M<=1200
 sv:Q c.fn=Q c.N
 uk:∀i,i<Q c.N->c.fn.getD i 0=-1\/∃j:Nat,c.fn.getD i 0=j/\j<Q c.N
 tx:∀nd∈c.N,Q nd.text<=30
theorem B7{N}{i:Nat}(h):aA N i=N[i]:=by
 unfold aA;grind
structure EJ(c:Cx)(of:Of)(j:Nat):Prop where
 len:Q of=Q c.N
 ex:∀i (h:i<Q c.N),aP c.N[i].x->(i<j\/c.N[i].x=6)->∃t,of[i]?=C (C t)
 sm:∀i t,i<j->of[i]?=C (C t)->sz t<=300
 no:∀i (h:i<Q c.N),¬aP c.N[i].x->of[i]?=C none
 later:∀i (h:i<Q c.N),j<=i->of[i]?=C (if c.N[i].x=6 then C (oO c c.N[i]) else none)
def FV(c):∀(j) (l),j<=Q c.N->W5 c j=.inr l->EJ c l j
 |0,l,_,h=>by
  simp only[W5,Sum.inr.injEq]at h;subst h;have key:∀i (h:i<Q c.N),(kA c)[i]?=C (if c.N[i].x=6 then C (oO c c.N[i]) else none):=λi h=>by
   unfold kA;grind
  refine⟨by simp[kA],λi h a d=>?_,λi t h=>W,λi h a=>?_,λi h _=>key i h⟩
  .grind
  .rw[key i h,wY λd=>a<|by rw[d];exact⟨ζ,ζ⟩]
 |j+1,l,w,h=>by
  rw[W5]at h;cases p:W5 c j with
  |inl e=>grind[rX]
  |inr n=>
   rw[p]at h;have b:=FV c j n W p;have m:j<Q c.N:=W;simp only[rX]at h;cases f:kS c n j with
   |inl e=>grind
   |inr o=>
    rw[f]at h;unfold kS at f;simp only[B7 m]at f;cases o with
    |none=>
     simp at h;subst h;have s:¬aP c.N[j].x:=by
      intro a;have q:1<=c.N[j].x/\c.N[j].x<=14:=a;rw[yY q]at f;split at f
      .grind
      .grind
     refine⟨b.len,λi h a d=>b.ex i h a ?_,λi t h g=>?_,b.no,λi h r=>b.later i h W⟩
     .grind
     .by_cases k:i=j
      .subst k;rw[b.no i m s]at g;grind
      .exact b.sm i t W g
    |some t=>
     simp at h;subst h;have v:aP c.N[j].x/\sz t<=300:=by
      by_cases a:1<=c.N[j].x/\c.N[j].x<=14
      .refine⟨a,?_⟩;grind
      .grind
     have y:j<Q n:=by rw[b.len];exact m
     refine⟨by rw[List.length_set];exact b.len,λi h a d=>?_,λi u h g=>?_,λi h a=>?_,λi h r=>?_⟩
     .by_cases k:i=j
      .grind
      .rw[List.getElem?_set_ne W];exact b.ex i h a<|d.imp (λx=>W) id
     .by_cases k:i=j
      .grind
      .rw[List.getElem?_set_ne W]at g;exact b.sm i u W g
     .by_cases k:i=j
      .grind
      .rw[List.getElem?_set_ne W];exact b.no i h a
     .rw[List.getElem?_set_ne W];exact b.later i h W
def aD(n:Nd):uZ:=
 if n.x=10\/n.x=11\/n.x=26 then n.M
 else if n.x=7 then n.a::n.M
 else if n.x=6 then n.M++[n.a]
 else if n.x=8\/n.x=13\/n.x=14\/n.x=15\/n.x=17\/n.x=18\/n.x=21\/n.x=24\/n.x=25 then [n.a]
 else if n.x=9\/n.x=12\/n.x=19\/n.x=23 then [n.a,n.b]
 else if n.x=20 then [n.a,n.b,n.c]
 else if n.x=22 then if n.c=-1 then [n.a,n.b] else [n.a,n.b,n.c]
 else []
theorem Pe.lt{N}{i}{x}(h:Pe N i x):∃j:Nat,x=j/\j<i:=by obtain⟨j,e,h,_⟩:=h;grind
theorem Pk.lt{N}{i}{k x}(h:Pk N i k x):∃j:Nat,x=j/\j<i:=by obtain⟨j,e,h,_⟩:=h;grind
def Gv{N}{T}{i}{n}(h:oI N T i n):∀x∈aD n,∃j:Nat,x=j/\j<i:=by
 intro x b;unfold aD at b;split at b
 .rename_i a;obtain a|a|a:=a
  .exact((h.mz a).1 x b).lt
  .exact(h.ny a x b).lt
  .exact h.tu a x b
 split at b
 .rename_i a;obtain rfl|b:=jW.1 b
  .exact(h.k7 a).1.lt
  .exact((h.k7 a).2 x b).lt
 split at b
 .rename_i a;obtain b|b:=qW.1 b
  .exact((h.k6 a).1 x b).lt
  .simp at b;subst b;exact(h.k6 a).2.2.lt
 split at b
 .rename_i a;simp at b;subst b;obtain a|a|a|a|a|a|a|a|a:=a
  .exact(h.k1 W).lt
  .exact(h.k1 W).lt
  .exact(h.l6 a).1.lt
  .exact(h.k1 W).lt
  .exact(h.ly a).2.lt
  .exact(h.k1 W).lt
  .exact(h.k1 W).lt
  .exact(h.k1 W).lt
  .exact(h.k1 W).lt
 split at b
 .rename_i a;simp at b;by_cases d:n.x=23
  .obtain rfl|rfl:=b
   .exact(h.o6 d).1.lt
   .exact(h.o6 d).2.lt
  .obtain rfl|rfl:=b
   .exact(h.k2 W).1.lt
   .exact(h.k2 W).2.lt
 split at b
 .rename_i a;simp at b;obtain rfl|rfl|rfl:=b
  .exact(h.ku a).1.lt
  .exact(h.ku a).2.1.lt
  .exact(h.ku a).2.2.lt
 split at b
 .rename_i a;have c:=h.o7 a;split at b
  .simp at b;obtain rfl|rfl:=b
   .exact c.1.lt
   .exact c.2.1.lt
  .rename_i e;simp at b;obtain rfl|rfl|rfl:=b
   .exact c.1.lt
   .exact c.2.1.lt
   .obtain h|h:=c.2.2
    .omega
    .exact h.lt
 grind
def bK(b:uZ)(v:Int)(l:uZ):uZ:=l.foldl (λa x=>a.set x.toNat v) b
theorem zI(v):∀(l) (a),Q (bK a v l)=Q a
 |[],a=>K
 |x::l,a=>by rw[bK,List.foldl_cons,<-bK,zI v l];simp
def jC(N:List Nd)(a:uZ)(i:Nat):uZ:=if i+1=Q N then a.set i (-1) else a
def lT(N:List Nd)(a:uZ)(i:Nat):Int:=if (aA N i).x=6 then i else (jC N a i).getD i 0
def eP(N:List Nd)(a:uZ)(i:Nat):uZ:=bK (jC N a i) (lT N a i)<|aD<|aA N i
def mU(N:List Nd):Nat->uZ
 |0=>ó (Q N) 0
 |j+1=>eP N (mU N j)<|Q N-1-j
def kC(N:List Nd):uZ:=mU N (Q N)
def oF(n:Nat)(a:uZ):Prop:=Q a=n/\∀v∈a,-1<=v/\v<n
theorem oF.set{n}{b}(h:oF n b)(i){v:Int}(c:-1<=v/\v<n):oF n (b.set i v):=by
 refine⟨by rw[List.length_set];exact h.1,λu a=>?_⟩;obtain a|rfl:=List.mem_or_eq_of_mem_set a
 .exact h.2 u a
 omega
def oF.qq{n:Nat}{v:Int}(b:-1<=v/\v<n):∀{l a},oF n a->oF n (bK a v l)
 |[],_,h=>h
 |x::l,_,h=>oF.qq b (l:=l)<|h.set x.toNat b
theorem oF.getD{n}{a}(h:oF n a)(c:0<n)(i):-1<=a.getD i 0/\a.getD i 0<n:=by
 rw[lQ];by_cases b:i<Q a
 .rw[gQ b];exact h.2 _<|mQ b
 grind
def YH{N}{a}(h:oF (Q N) a)(i):oF (Q N) (jC N a i):=by
 unfold jC;split
 .exact h.set i W
 omega
def Sq{N}{a}(h:oF (Q N) a){i}(b:i<Q N):-1<=lT N a i/\lT N a i<Q N:=by
 unfold lT;split
 .omega
 .exact(YH h i).getD W i
def YK(N):∀j,j<=Q N->oF (Q N) (mU N j)
 |0,_=>⟨by simp[mU],λv c=>by
  grind[mU,List.length_pos_iff]⟩
 |j+1,b=>by
  have a:=YK N j W;rw[mU,eP];exact(YH a _).qq (Sq a W)
def aQ(N:List Nd)(T:List Ty)(l:List<|Nat×Int):Cx:=⟨N,T,dG (ó (Q N)<|-1) l,kC N⟩
def yP{N}{T}{a}(h:bJ N T a){e}{l}(j:dU [] 0 (.nd 26 [] 0 a)=.ok e l)(m:∀n∈N,Q n.text<=30):jG (aQ N T l):=by
 have d:=YK N (Q N)<|vQ _;refine⟨h.ew,Ey h j,h.fp,h.jz,h.ok,λi b=>?_,d.1,λi b=>?_,m⟩
 .have k:N[i].fl∈iR 0 0 (.nd 26 [] 0 a):=by
   rw[<-h.ey];exact List.mem_map_of_mem<|mQ b
  have c:=NC (.nd 26 [] 0 a) (Y7 _<|mM h.wn) 0 0 _ k;have f:Q N=nN (.nd 26 [] 0 a):=by
   have:=congrArg Q h.ey;rw[lZ,R6]at this;exact this
  have p:=h.fp;have g:N[i].fl.M=N[i].M:=K;rw[g]at c;show Q N[i].M<=1200;omega
 .have q:i<Q N:=b;obtain⟨c,f⟩:=d.getD W i;show (mU N (Q N)).getD i 0=-1\/_;by_cases o:(mU N (Q N)).getD i 0=-1
  .omega
  .exact .inr ⟨((mU N (Q N)).getD i 0).toNat,by show (mU N (Q N)).getD i 0=_;omega,by show _<Q N;omega⟩
theorem Fx:∀a,(∀n∈a,S6 n)->lP a<=Q a*28
 |[],_=>by simp[lP]
 |n::r,h=>by
  have b:=Fx r λm d=>h m η;have c:=(h n θ).2.1;grind[lP,jQ]
def ED:∀l,(∀x∈l,wg x+44<=60*sz x)->dW l+39*Q l<=60*cR l
 |[],_=>by grind[dW,cR]
 |t::r,h=>by
  have a:=ED r λx b=>h x η;grind[dW,cR,jQ]
def C5f{t}(h:Wf t):wg t+44<=60*sz t:=by
 induction h with
 |plain k b g=>grind[wg,sz,dW,cR,lP]
 |obj m c d nd i j a=>
  have b:=ED c a;grind[Fx,wg,sz]
 |arr t _ a=>
  grind[wg,sz,dW,cR,lP]
 |fn t f _ _ l e=>
  have b:=ED f e;grind[wg,sz,dW,cR,lP]
 |uni c d _ a=>
  have b:=ED c a;grind[wg,sz,lP]
abbrev Gm:=Int->Option Int
def vR(g:Gm)(x v:Int):Gm:=λu=>if u=x then C v else g u
def gJ(g:Gm)(x:Int)(t:Tr):Gm:=if jJ t=127 then g else vR g x<|jJ t
def sG(a:Of)(g:Gm)(p:Int×Tr):Gm:=if (bB a p.1).k=5 then gJ g p.1 p.2 else g
def pQ(c:Cx)(a:Of)(g:Gm)(i:Nat):Gm:=
 if (aA c.N i).x=16 then if (aA c.N i).ty≠-1 then gJ g i (tr c.T (aA c.N i).ty.toNat) else g
 else if (aA c.N i).x=7\/(aA c.N i).x=8\/(aA c.N i).x=9 then gJ g i (bB a i) else g
def xI(c:Cx)(a:Of)(g:Gm)(i:Nat):Gm:=((aN c a i).getD []).foldl (sG a)<|pQ c a g i
def pX(c:Cx)(a:Of):Nat->Gm
 |0=>λ_=>none
 |j+1=>xI c a (pX c a j) j
def U5(g:Gm):Nat->List (Int×Int)
 |0=>[]
 |j+1=>U5 g j++(match g j with
  |C v=>[(j,v)]
  |none=>[])
def fS(c:Cx)(a:Of):List (Int×Int):=U5 (pX c a (Q c.N)) (Q c.N)
structure EC(c:Cx)(of:Of)(i:Nat):Prop where
 asked:∃l,aN c of i=C l
 call:(aA c.N i).x=7->(bB of (aA c.N i).a).k=5\/((bB of (aA c.N i).a).k=9/\Q (aA c.N i).M=Q (bB of (aA c.N i).a).ks.tail)
 ret:(aA c.N i).x=24->c.fn.getD i 0≠-1
def uB(c:Cx)(i:Nat)(a b:Of):Prop:=∀j (h),(j<i\/c.N[j].x=6)->a[j]?=b[j]?
theorem uB.a{c}{i}{a b}(h:uB c i a b){x}(f:Pe c.N i x):bB a x=bB b x:=by
 obtain⟨j,rfl,d,e,_⟩:=f;unfold bB;rw[tQ,lQ,lQ,h j e<|.inl d]
theorem uB.has{c}(m:jG c){i}{f g}(h:uB c i f g){x}(p:Tg c.N i x):Z5 c f x=Z5 c g x:=by
 obtain⟨j,rfl,d,q,b⟩:=p;unfold Z5;rw[B7 d];split
 .rfl
 split
 .rename_i l;have k:=((m.ew j d).ly l).2;obtain b|⟨_,n,e,o,a,h6⟩:=b
  .obtain⟨n,e,o,a,r⟩:=k;rw[e];unfold bB;rw[tQ,lQ,lQ,h n a<|.inl W]
  .rw[e];unfold bB;rw[tQ,lQ,lQ,h n a<|.inr h6]
 .rfl
theorem uB.asks{c}(d:jG c){i}(e:i<Q c.N){f g}(h:uB c i f g):aN c f i=aN c g i:=by
 have b:=d.ew i e;have j:=d.mw.tg i e;unfold aN;simp only[B7 e];split
 .rename_i a;rw[h.a (b.k7 a).1]
 split
 .rfl
 split
 .rfl
 split
 .rename_i a;rw[h.has d<|j<|.inr a]
 split
 .rename_i a;unfold N9;rw[h.a (b.k2 W).1]
 split
 .rename_i a;unfold M3;rw[h.a (b.ku a).1,h.a (b.ku a).2.1]
 .rfl
def zx{c}{b m}{j}(q:j<Q c.N)(h:W5 c j=.inr b)(d:W5 c (j+1)=.inr m):uB c j b m:=by
 have l:=FV c j b W h;rw[W5,h]at d;simp only[rX]at d;intro i k g;cases a:kS c b j with
 |inl e=>grind
 |inr o=>
  rw[a]at d;cases o with
  |none=>
   grind
  |some t=>
   simp at d;subst d;by_cases n:i=j
   .subst n;have f:c.N[i].x=6:=by
     obtain g|g:=g
     .omega
     .omega
    unfold kS at a;simp only[B7 k]at a;rw[yY W]at a;have e:F6 c b i=C (bB b i):=by
     unfold F6;simp only[B7 k,f];rfl
    rw[e]at a;simp only at a;split at a
    .grind
    .simp at a;subst a;rw[List.getElem?_set_self<|by rw[l.len];omega];obtain⟨t,p⟩:=l.ex i k (by rw[f];exact⟨ζ,ζ⟩)<|.inr f;rw[p];grind[bB]
   grind
def Jl{c}:∀(k j) {b d},j<=k->k<=Q c.N->W5 c j=.inr b->W5 c k=.inr d->uB c j b d
 |0,j,b,d,p,q,h,a=>by
  have:j=0:=W;subst this;rw[h]at a;simp at a;subst a;exact λ_ _ _=>K
 |k+1,j,b,d,p,q,h,a=>by
  by_cases o:j=k+1
  .subst o;rw[h]at a;simp at a;subst a;exact λ_ _ _=>K
  .cases l:W5 c k with
   |inl e=>grind[DD]
   |inr r=>
    have m:=Jl k j W W h l;have n:=zx W l a;intro i g f;rw[m i g f];exact n i g<|f.imp (λx=>W) id
def BA{c}(e:jG c){f g}{i}(a:i<Q c.N)(d:uB c i f g)(h:EC c f i):EC c g i:=by
 have k:=e.ew i a;refine⟨by rw[<-d.asks e a];exact h.asked,λb=>?_,h.ret⟩;have j:=h.call b;rw[B7 a]at j b⊢;rw[<-d.a (k.k7 b).1];omega
def BC{c}{b l}{j}(g:j<Q c.N)(h:W5 c j=.inr b)(d:W5 c (j+1)=.inr l):EC c b j:=by
 rw[W5,h]at d;simp only[rX]at d;have key:∃o,kS c b j=.inr o:=by
  cases a:kS c b j with
  |inl e=>grind
  |inr o=>simp
 obtain⟨o,a⟩:=key;unfold kS at a;simp only[B7 g]at a;by_cases f:1<=c.N[j].x/\c.N[j].x<=14
 .rw[yY f]at a;cases n:F6 c b j with
  |none=>grind
  |some t=>
   refine⟨?_,λk=>?_,λi=>by grind[B7]⟩
   .unfold aN;simp only[B7 g];split
    .split<;>exact⟨_,K⟩
    split
    .simp
    rw[wY W,wY W,wY W,wY W,wY W];simp
   grind[F6,nD]
 .rw[wY f]at a;split at a
  .grind
  .rename_i i;split at a
   .rename_i m;refine⟨?_,λk=>by grind[B7],λh=>by grind[B7]⟩;grind[Y1]
   grind
structure DQ(c:Cx)(of:Of):Prop where
 inv:EJ c of (Q c.N)
 dn:∀i,i<Q c.N->EC c of i
theorem XT{c}(g:jG c){a}(h:mW c=.inr a):DQ c a:=by
 unfold mW at h;refine⟨FV c _ a (vQ _) h,λi d=>?_⟩;cases b:W5 c i with
 |inl e=>grind[DD]
 |inr j=>
  cases f:W5 c (i+1) with
  |inl e=>grind[DD]
  |inr k=>exact BA g d (Jl _ i W (vQ _) b h)<|BC d b f
def tF(g:Gm):Prop:=∀x v,g x=C v->1<=v/\v<127
def Rk:∀{l},(∀x∈l,1<=jJ x)->l≠[]->1<=lN l
 |t::r,h,_=>by
  grind[lN,jJ,Nat.left_le_or]
theorem ņ{t}(h:Wf t):1<=jJ t:=by
 induction h with
 |plain k c d=>
  grind[jJ,uO]
 |obj f b=>grind[jJ,uO]
 |arr t=>grind[jJ,uO]
 |fn t g=>grind[jJ,uO]
 |uni b e _ a=>
  rw[jJ,yY K];exact Rk a η
def tF.put{g}(h:tF g)(x){t}(b:Wf t):tF (gJ g x t):=by
 unfold gJ;split
 .omega
 .rename_i a;intro y v e;unfold vR at e;split at e
  .grind[zQ,ņ,KK]
  .exact h y v e
def ZL{g}(h:tF g):∀n,(∀p∈U5 g n,(0<=p.1/\p.1<n)/\1<=p.2/\p.2<127)/\(U5 g n).Pairwise λp q=>p.1<q.1
 |0=>by simp[U5]
 |n+1=>by
  obtain⟨c,d⟩:=ZL h n;rw[U5];cases b:g n with
  |none=>
   grind
  |some v=>
   simp only;refine⟨λp a=>?_,?_⟩
   .obtain a|a:=qW.1 a
    .grind
    .simp at a;subst a;have:=h _ _ b;omega
   grind
def uU(a:Of):Prop:=∀(i:Nat) (t),a[i]?=C (C t)->Wf t
def D7{c}[Decidable c]{x y}{t:Tr}(h:(if c then x else y)=C t):(c/\x=C t)\/(¬c/\y=C t):=η
theorem zC:Wf iM:=.plain 5 ζ ζ
theorem uU.a{a}(h:uU a)(x):Wf (bB a x):=by
 unfold bB;rw[lQ];cases b:a[x.toNat]? with
 |none=>exact zC
 |some o=>cases o with
  |none=>exact zC
  |some t=>exact h _ t b
def Wf.rq{t x}(h:Wf t)(b:x∈t.ks):Wf x:=by
 cases h with
 |plain k=>grind[Tr.ks]
 |obj f c _ _ _ a=>exact a x b
 |arr t a=>grind[Tr.ks]
 |fn t g d e=>
  grind[Tr.ks]
 |uni c _ a=>exact a x b
def Wf.head{t}(h:Wf t):Wf (t.ks.headD iM):=by
 cases a:t.ks with
 |nil=>exact zC
 |cons x r=>exact h.rq η
section
variable{c:Cx}(b:jG c){d:Of}(a:uU d)
include b
theorem BK{x}(h:Pz c.T x)(e:x≠-1):Wf (tr c.T x.toNat):=by
 obtain h|⟨j,rfl,hj,_⟩:=h
 .omega
 .rw[tQ];exact BR b.ok j hj
def C9f{i}(k:i<Q c.N):Pz c.T c.N[i].ty:=by
 have e:=b.ew i k;by_cases j:c.N[i].x=6
 .exact(e.k6 j).2.1
 by_cases f:c.N[i].x=14
 .exact .inr (e.l6 f).2
 by_cases g:c.N[i].x=16
 .exact e.sk g
 by_cases h:c.N[i].x=17
 .exact(e.ly h).1
 .exact .inl<|e.ty j f g h
theorem pW(x):Pz c.T (aA c.N x).ty:=by
 by_cases h:x.toNat<Q c.N
 .have:=C9f b h;grind[aA]
 .unfold aA;rw[lQ,List.getElem?_eq_none W];exact .inl K
theorem ZK(x):Wf (lJ c.T<|aA c.N x):=by
 grind[lJ,zC,BK,pW]
include a
theorem NK(x):Wf (Z5 c d x):=by
 unfold Z5;split
 .grind[BK,pW]
 split
 .exact a.a _
 grind[zC]
omit b
theorem Cr{n}{t}(h:N9 d n=C t):Wf t:=by
 unfold N9 at h;split at h
 .simp at h;subst h;exact a.a _
 split at h
 .simp at h;subst h;exact .plain 1 ζ ζ
 .exact(a.a _).rq<|EK h
theorem Ei{n}{t}(h:M3 d n=C t):Wf t:=by
 unfold M3 at h;split at h
 .split at h
  .simp at h;subst h;exact a.a _
  split at h
  .simp only[zQ]at h;subst h;exact(a.a _).head
  grind
 grind
include b
def xu{i}{l}(h:aN c d i=C l):∀p∈l,Wf p.2:=by
 unfold aN at h;simp only at h;intro p k;split at h
 .split at h
  .grind
  .simp at h;subst h;have:=(List.of_mem_zip k).2;exact(a.a _).rq<|List.mem_of_mem_tail this
 split at h
 .simp at h;subst h;simp at k;subst k;have n:=pW b i;by_cases m:(aA c.N i).ty=-1
  .rename_i o _;exfalso;by_cases f:i<Q c.N
   .rw[B7 f]at m;rename_i g;rw[B7 f]at g;obtain⟨j,e,_⟩:=((b.ew i f).l6 g).2;omega
   .rename_i g;grind[aA,kB]
  grind[BK]
 split at h
 .grind[zQ,zW,BK,pW]
 split at h
 .grind[zQ,zW,NK]
 split at h
 .rw[Option.map_eq_some_iff]at h;grind[Cr]
 split at h
 .rw[Option.map_eq_some_iff]at h;grind[Ei]
 grind[zQ,zW,ZK]
omit b in
theorem Ry{i:Nat}{t:Tr}(h:nD c d i=C t):Wf t:=by
 unfold nD at h;simp only at h;split at h
 .simp at h;subst h;exact a.a _
 split at h
 .grind
 split at h
 .simp only[zQ]at h;subst h;exact(a.a _).head
 grind
theorem Uu{i}(o:i<Q c.N){t}(h:F6 c d i=C t):Wf t:=by
 have z:∀k:Int,1<=k->k<=6->∀{u:Tr},C (eV k)=C u->Wf u:=λk l f u h=>by
  simp at h;subst h;exact .plain k l f
 have m:=b.ew i o;unfold F6 at h;rw[B7 o]at h;obtain⟨_,h⟩|⟨_,h⟩:=D7 h
 .grind
 obtain⟨_,h⟩|⟨_,h⟩:=D7 h
 .grind
 obtain⟨_,h⟩|⟨_,h⟩:=D7 h
 .grind
 obtain⟨_,h⟩|⟨_,h⟩:=D7 h
 .grind[zQ,NK]
 obtain⟨_,h⟩|⟨_,h⟩:=D7 h
 .simp at h;subst h;exact a.a _
 obtain⟨_,h⟩|⟨_,h⟩:=D7 h
 .grind[Ry]
 obtain⟨_,h⟩|⟨_,h⟩:=D7 h
 .grind[Cr]
 obtain⟨_,h⟩|⟨_,h⟩:=D7 h
 .grind[Ei]
 obtain⟨p,h⟩|⟨_,h⟩:=D7 h
 .simp at h;subst h;obtain⟨l,f,v⟩:=m.mz p;refine .obj _ _ θ f (λn w=>?_) λx g=>?_
  .grind
  .obtain⟨y,s,rfl⟩:=kZ.1 g;exact a.a _
 obtain⟨_,h⟩|⟨_,h⟩:=D7 h
 .simp at h;subst h;refine .arr _<|Ŧ _ λx g=>?_;obtain⟨y,s,rfl⟩:=kZ.1 g;exact a.a _
 obtain⟨_,h⟩|⟨_,h⟩:=D7 h
 .unfold uR at h;obtain⟨_,h⟩|⟨_,h⟩:=D7 h
  .grind
  obtain⟨_,h⟩|⟨_,h⟩:=D7 h
  .unfold sT at h;grind[zC]
  grind
 obtain⟨_,h⟩|⟨_,h⟩:=D7 h
 .grind[uL]
 obtain⟨q,h⟩|⟨_,h⟩:=D7 h
 .simp at h;subst h;obtain⟨j,e,r,_⟩:=(m.l6 q).2;rw[e,tQ];exact BR b.ok j r
 grind
end
def RM{c}(d:jG c):∀(j) (b),j<=Q c.N->W5 c j=.inr b->uU b
 |0,b,_,h=>by
  simp only[W5,Sum.inr.injEq]at h;subst h;intro i t a;unfold kA at a;rw[List.getElem?_map]at a;cases k:c.N[i]? with
  |none=>grind
  |some n=>
   rw[k]at a;simp only[Option.map_some,zQ]at a;split at a
   .simp only[zQ]at a;subst a;obtain⟨r,rfl⟩:=Î.1 k;have f:=ZK d i;rw[B7 r]at f;refine .fn _ _ f λx s=>?_;obtain⟨y,z,rfl⟩:=kZ.1 s;exact NK d (λi t h=>η) y
   grind
 |j+1,b,w,h=>by
  rw[W5]at h;cases g:W5 c j with
  |inl e=>grind[rX]
  |inr m=>
   rw[g]at h;have v:=RM d j m W g;simp only[rX]at h;cases q:kS c m j with
   |inl e=>grind
   |inr o=>
    rw[q]at h;cases o with
    |none=>
     grind
    |some t=>
     simp at h;subst h;intro i u l;by_cases p:j=i
     .grind[List.getElem?_set_self',kS,F6,Sum.inr.injEq,zQ,Uu]
     .rw[List.getElem?_set_ne p]at l;exact v i u l
def Xd{c}(b:jG c){a}(e:uU a){g}(h:tF g)(i):tF (xI c a g i):=by
 have k:tF (pQ c a g i):=by
  unfold pQ;split
  .split
   .rename_i m;exact h.put _<|BK b (pW b i) m
   omega
  split
  .exact h.put _<|e.a _
  .omega
 unfold xI;cases d:aN c a i with
 |none=>grind
 |some l=>
  have f:=xu b e d;show tF<|l.foldl (sG a) _;clear d;generalize pQ c a g i=j at*;induction l generalizing j with
  |nil=>grind
  |cons p r n=>
   rw[List.foldl_cons];refine n (λq o=>f q η) _ ?_;unfold sG;split
   .exact k.put _ (f p θ)
   omega
def YU{c}(a:jG c){d}(b:uU d):∀j,tF<|pX c d j
 |0=>λx v e=>by grind[pX]
 |j+1=>Xd a b (YU a b j) j
theorem yU:∀l r,cR (l++r)=cR l+cR r
 |[],r=>by simp[cR]
 |t::l,r=>by rw[jZ,cR,cR,yU l r];omega
mutual
theorem į:∀t:Tr,cR (flat t)<=sz t
 |.nd k d a=>by
  rw[flat];split
  .have:=MO a;grind[sz]
  grind[cR]
theorem MO:∀l:List Tr,cR (J8 l)<=cR l
 |[]=>by grind[J8,cR]
 |t::r=>by
  have b:=į t;have c:=MO r;grind[J8,yU,cR]
end
theorem TH:∀l a,cR (dd a l)<=cR a+cR l
 |[],a=>by grind[dd,cR]
 |t::r,a=>by
  rw[dd,cR];split
  .have:=TH r a;omega
  .have:=TH r<|a++[t];grind[yU,cR]
def Ľ(l):sz (mE l)<=1+cR l:=by
 grind[mE,sz,cR,TH,J8,MO]
def EA{m}:∀l,(∀x∈l,sz x<=m)->cR l<=Q l*m
 |[],_=>by simp[cR]
 |t::r,h=>by
  have a:=h t θ;have b:=EA r λx c=>h x η;grind[cR,jQ,Nat.add_mul]
section
variable{c:Cx}(a:jG c)
include a
theorem GU{x}(h:Pz c.T x)(e:x≠-1):sz (tr c.T x.toNat)<=300:=by
 obtain h|⟨j,rfl,hj,hs⟩:=h
 .omega
 .have:=a.jz;grind
def C7e(x):sz (lJ c.T<|aA c.N x)<=300:=by
 grind[lJ,iM,sz,cR,GU,pW]
theorem Xb(x):sz (Z5 c [] x)<=300:=by
 grind[Z5,GU,pW,bB,iM,sz,cR]
theorem Sj{i}(e:i<Q c.N):sz (oO c c.N[i])<=400000:=by
 have f:=C7e a i;rw[B7 e]at f;have g:=EA (m:=300) (c.N[i].M.map<|Z5 c []) λx j=>by
  grind[Xb]
 have h:=a.ls i e;grind[lZ,oO,sz,cR]
variable{b:Of}{i:Nat}(d:EJ c b i)
include d
omit a in
theorem uM{x:Int}(h:Pe c.N i x):sz (bB b x)<=300:=by
 obtain⟨j,rfl,e,k,g⟩:=h;obtain⟨t,f⟩:=d.ex j k g<|.inl e;unfold bB;rw[tQ,lQ,f];exact d.sm j t e f
theorem Dg{j}(f:j<Q c.N)(e:c.N[j].x=6):sz (bB b j)<=400000:=by
 obtain⟨t,g⟩:=d.ex j f (by rw[e];exact⟨ζ,ζ⟩)<|.inr e;unfold bB;rw[tQ,lQ,g];by_cases h:j<i
 .have:=d.sm j t h g;grind
 .have:=d.later j f W;grind[Sj]
def ļ{x}(h:Tg c.N i x):sz (Z5 c b x)<=400000:=by
 obtain⟨j,rfl,k,q,g⟩:=h;have p:=pW a (j:Int);unfold Z5;split
 .grind[GU]
 split
 .rename_i f;rw[B7 k]at f⊢;obtain g|⟨_,n,e,o,l,h6⟩:=g
  .obtain⟨n,e,o,l,m⟩:=((a.ew j k).ly f).2;have:=uM d ⟨n,e,W,l,m⟩;omega
  grind[Dg]
 grind[iM,sz,cR]
omit a in
theorem ZH{x:Int}(h:Pe c.N i x){t:Tr}(e:t∈(bB b x).ks):sz t<=300:=by
 have f:=uM d h;have g:=T9 e;omega
omit a in
theorem XY{x:Int}(h:Pe c.N i x):sz ((bB b x).ks.headD iM)<=300:=by
 cases e:(bB b x).ks<;>grind[bB,iM,sz,cR,ZH]
omit a in
def B7d{n:Nd}(e:Pe c.N i n.a){t:Tr}(h:N9 b n=C t):sz t<=300:=by
 unfold N9 at h;obtain⟨_,h⟩|⟨_,h⟩:=D7 h
 .grind[zQ,uM]
 obtain⟨_,h⟩|⟨_,h⟩:=D7 h<;>grind[zQ,eV,sz,cR,ZH,EK]
omit a in
def Qc{n:Nd}(e:Pe c.N i n.a){t:Tr}(h:M3 b n=C t):sz t<=300:=by
 unfold M3 at h;obtain⟨_,h⟩|⟨_,h⟩:=D7 h
 .obtain⟨_,h⟩|⟨_,h⟩:=D7 h
  .grind[zQ,uM]
  grind[XY]
 grind
def Us(g:i<Q c.N){t}(h:F6 c b i=C t):sz t<=1000000:=by
 have F:∀k:Int,∀{u:Tr},C (eV k)=C u->sz u<=1000000:=λk u h=>by
  grind[zQ,eV,sz,cR]
 have f:=a.ew i g;have N:=a.ls i g;unfold F6 at h;rw[B7 g]at h;obtain⟨_,h⟩|⟨_,h⟩:=D7 h
 .grind
 obtain⟨_,h⟩|⟨_,h⟩:=D7 h
 .grind
 obtain⟨_,h⟩|⟨_,h⟩:=D7 h
 .grind
 obtain⟨w,h⟩|⟨_,h⟩:=D7 h
 .simp only[zQ]at h;subst h;have:=ļ a d<|a.mw.tg i g<|.inl w;omega
 obtain⟨G,h⟩|⟨_,h⟩:=D7 h
 .grind[zQ,Dg]
 obtain⟨p,h⟩|⟨_,h⟩:=D7 h
 .unfold nD at h;rw[B7 g]at h;have l:=uM d (f.k7 p).1;have o:=XY d (f.k7 p).1;grind
 obtain⟨z,h⟩|⟨_,h⟩:=D7 h
 .have:=B7d d (f.k1<|.inl z) h;omega
 obtain⟨A,h⟩|⟨_,h⟩:=D7 h
 .have:=Qc d (f.k2<|.inl A).1 h;omega
 obtain⟨r,h⟩|⟨_,h⟩:=D7 h
 .simp at h;subst h;have o:=EA (c.N[i].M.map λx=>bB b (aA c.N x).a) λx m=>by
   obtain⟨y,n,rfl⟩:=kZ.1 m;obtain⟨j,rfl,H,q,M⟩:=(f.mz r).1 y n;rw[B7 q];obtain⟨D,e,L,B⟩:=(a.ew j q).k1 W;exact uM d ⟨D,e,W,B⟩
  grind[lZ,DK,sz]
 obtain⟨s,h⟩|⟨_,h⟩:=D7 h
 .simp at h;subst h;have l:=Ľ<|c.N[i].M.map<|bB b;have o:=EA (c.N[i].M.map<|bB b) λx m=>by
   obtain⟨y,n,rfl⟩:=kZ.1 m;exact uM d<|f.ny s y n
  grind[lZ,BL,sz,cR]
 obtain⟨_,h⟩|⟨_,h⟩:=D7 h
 .unfold uR at h;obtain⟨_,h⟩|⟨_,h⟩:=D7 h
  .grind
  obtain⟨_,h⟩|⟨_,h⟩:=D7 h
  .unfold sT at h;obtain⟨_,h⟩|⟨_,h⟩:=D7 h
   .exact F 5 h
   grind
  grind
 obtain⟨_,h⟩|⟨_,h⟩:=D7 h
 .grind[uL]
 obtain⟨v,h⟩|⟨_,h⟩:=D7 h
 .simp at h;subst h;have l:=(f.l6 v).2;have:=GU a (.inr l) (by obtain⟨j,e,_⟩:=l;omega);omega
 grind
def A5f(k:uU b)(f)(h:c.N[i].x=11):dW (c.N[i].M.map<|bB b)<=25000000:=by
 have j:=a.ew i f;have n:=a.ls i f;have l:=ED (c.N[i].M.map<|bB b) λx e=>by
  obtain⟨y,g,rfl⟩:=kZ.1 e;exact C5f<|k.a y
 have m:=EA (c.N[i].M.map<|bB b) λx e=>by
  obtain⟨y,g,rfl⟩:=kZ.1 e;exact uM d<|j.ny h y g
 grind
end
abbrev Pw(g:Int):Prop:=g=1\/g=2\/g=4\/g=8\/g=16\/g=32\/g=64
def aZ(c:Co)(v:Vl):Prop:=Q v.t<=4000/\(-2147483648<=v.n/\v.n<=2147483647)/\(1<=v.g/\v.g<=64/\(v.g=1\/v.g=2\/v.g=4\/v.g=8\/v.g=16\/v.g=32\/v.g=64))/\match v.h with
 |none=>v.g<16
 |C i=>∃t,c.T[i]?=C t/\t.k=v.g
def iL(c:Co)(a:Option Nat):Prop:=∀j,a=C j->j<Q c.S
structure Gr(c c':Co):Prop where
 T:∀(i:Nat) (t:Th),c.T[i]?=C t->∃t':Th,c'.T[i]?=C t'/\t'.k=t.k
 S:Q c.S<=Q c'.S
theorem Gr.refl(c):Gr c c:=⟨λ_ t h=>⟨t,h,K⟩,vQ _⟩
theorem Gr.trans{a b c}(h:Gr a b)(k:Gr b c):Gr a c:=⟨λi t e=>by
 obtain⟨f,d,g⟩:=h.T i t e;obtain⟨m,j,l⟩:=k.T i f d;grind,kQ h.S k.S⟩
def aZ.pw{c}{v}(h:aZ c v):Pw v.g:=h.2.2.1.2.2
def aZ.gr{c a}{v}(h:aZ c v)(g:Gr c a):aZ a v:=by
 obtain⟨d,e,f,b⟩:=h;refine⟨d,e,f,?_⟩;cases j:v.h with
 |none=>grind
 |some i=>
  rw[j]at b;obtain⟨t,k,n⟩:=b;obtain⟨o,l,m⟩:=g.T i t k;grind
def iL.gr{c a}{s}(h:iL c s)(b:Gr c a):iL a s:=λj e=>yQ (h j e) b.S
theorem aZ.lt{c}{v}(h:aZ c v):∀i,v.h=C i->i<Q c.T:=λi e=>by
 obtain⟨_,_,_,a⟩:=h;grind
structure jP(N:List Nd)(c:Co)(t:Th):Prop where
 k:t.k=16\/t.k=32\/t.k=64
 p:∀x v,t.p x=C v->aZ c v
 l:∀v∈t.l,aZ c v
 sc:iL c t.sc
 fq:Q t.l<=1200+c.th
 nd:t.k=64->0<=t.nd/\t.nd<Q N/\(aA N t.nd).x=6
def jP.gr{N}{c a}{t}(h:jP N c t)(b:Gr c a)(f:c.th<=a.th):jP N a t:=
 ⟨h.k,λx v e=>(h.p x v e).gr b,λv d=>(h.l v d).gr b,h.sc.gr b,by have:=h.fq;omega,h.nd⟩
structure iE(N:List Nd)(c:Co):Prop where
 T:∀(i:Nat) (t:Th),c.T[i]?=C t->jP N c t
 S:∀(i:Nat) (q:Sc),c.S[i]?=C q->(∀x v,q.o x=C v->aZ c v)/\∀j,q.up=C j->j<i
 th:c.th<=2000
 ca:c.ca<=40
section
variable{N:List Nd}{c:Co}
def W8(t):Gr c {c with T:=c.T++[t]}:=⟨λi u h=>⟨u,η,K⟩,vQ _⟩
def CF(u:Option Nat):Gr c {c with S:=c.S++[⟨λ_=>none,u⟩]}:=⟨λ_ t h=>⟨t,h,K⟩,θ⟩
def vF(j)(f):Gr c {c with S:=c.S.modify j f}:=⟨λ_ t h=>⟨t,h,K⟩,θ⟩
def tW{j}{t u}(b:c.T[j]?=C t)(a:u.k=t.k):Gr c {c with T:=c.T.set j u}:=⟨λi v h=>η,vQ _⟩
theorem iE.of(h:iE N c){a}(b:Gr c a)(d:c.th<=a.th/\a.th<=2000)(k:a.ca<=40)(g:∀(i:Nat) (t),a.T[i]?=C t->c.T[i]?=C t\/jP N a t)
 (f:∀(i) (q:Sc),a.S[i]?=C q->c.S[i]?=C q\/(∀x v,q.o x=C v->aZ a v)/\∀j,q.up=C j->j<i):iE N a where
 T i t ht:=(g i t ht).elim (λe=>(h.T i t e).gr b d.1) id;S i q hq:=(f i q hq).elim (λe=>⟨λx v l=>((h.S i q e).1 x v l).gr b,(h.S i q e).2⟩) id;th:=d.2;ca:=k
def iE.ko(h:iE N c){t}(b:jP N {c with T:=c.T++[t]} t):iE N {c with T:=c.T++[t]}:=
 h.of (W8 t) ⟨vQ _,h.th⟩ h.ca (λi u d=>η) λi q a=>.inl a
def iE.kr(h:iE N c){u:Option Nat}(g:iL c u):iE N {c with S:=c.S++[⟨λ_=>none,u⟩]}:=
 h.of (CF u) ⟨vQ _,h.th⟩ h.ca (λ_ _ f=>.inl f) (λi q a=>by
  obtain b|b:=Nat.lt_or_ge i (Q c.S)
  .grind
  .simp only at a;rw[List.getElem?_append_right b]at a;obtain e|e:=Nat.eq_zero_or_pos<|i-Q c.S
   .rw[e]at a;simp at a;subst a;exact .inr ⟨λx v k=>η,λj d=>by have:=g j d;omega⟩
   grind)
def iE.ld(h:iE N c){j}{t u}(d:c.T[j]?=C t)(a:u.k=t.k)(e:jP N {c with T:=c.T.set j u} u):iE N {c with T:=c.T.set j u}:=
 h.of (tW d a) ⟨vQ _,h.th⟩ h.ca (λi v f=>η) λi q b=>.inl b
def iE.ke(h:iE N c)(j)(x){v}(f:aZ c v):iE N {c with S:=c.S.modify j λq=>⟨λy=>if y=x then C v else q.o y,q.up⟩}:=
 h.of (vF j _) ⟨vQ _,h.th⟩ h.ca (λ_ _ e=>.inl e) (λi q a=>by
  simp only at a;rw[List.getElem?_modify]at a;split at a
  .cases hs:c.S[i]? with
   |none=>grind
   |some d=>
    rw[hs]at a;rw[Option.map_eq_map,Option.map_some,zQ]at a;subst a;refine .inr ⟨λy u b=>?_,(h.S i d hs).2⟩;dsimp only at b;split at b
    .cases b;exact f.gr<|vF j _
    .exact((h.S i d hs).1 y u b).gr<|vF j _
  grind)
end
def Ca{b}(m:X b):Prop:=∀s,match m s with
 |.ok _ a=>a.c.ca=s.c.ca
 |.back _ a=>a.c.ca=s.c.ca
 |_=>True
section
variable{a b:Type}
theorem Ca.bd{m}{k:a->X b}(h:Ca m)(g:∀c,Ca<|k c):Ca (m.bd k):=λs=>by
 have f:=h s;unfold X.bd;cases e:m s with
 |ok c d=>
  rw[e]at f;have j:=g c d;grind
 |back v d=>grind
 |over x i l=>simp
 |stk=>simp
def Ca.co{f:Co->Rc a}(h:∀c e d,f c=.ok e d->d.ca=c.ca):Ca (bR f):=λs=>by
 grind[bR]
def Ca.ite{c}[Decidable c]{d e:X a}(h:Ca d)(k:Ca e):Ca (if c then d else e):=η
theorem Ca.fe(c:a):Ca (aF c):=Ca.co λ_ _ _ h=>η
theorem Ca.cat{m}(h:Ca m):Ca m.cat:=λs=>by
 have c:=h s;grind[X.cat]
def Ca.jv:Ca aU:=λs=>by
 grind[aU]
def Ca.lq(G)(i)(v):Ca (dJ G i v):=λs=>by
 grind[dJ,bits]
def Ca.jm(i)(v)(g):Ca (eO i v g):=Ca.co λc d e h=>η
def Ca.kj(v):Ca (fR v):=Ca.co λc d e h=>η
def Ca.ko(t):Ca (eL t):=Ca.co λ_ _ _ h=>η
def Ca.ld(v)(t):Ca (fL v t):=Ca.co λ_ _ _ h=>η
def Ca.kr(u):Ca (fM u):=Ca.co λ_ _ _ h=>η
def Ca.ke(j)(x)(v):Ca (eY j x v):=Ca.co λ_ _ _ h=>η
def Ca.made(i):Ca (bX i):=Ca.co λc d e h=>η
def Ca.qj(x)(d):Ca (iQ x d):=Ca.co λc e f h=>η
def Ca.so(j)(x):Ca (jA j x):=Ca.co λc d e h=>η
def Oy(i)(x)(c d):Ca (mD i x c d):=by
 unfold mD;exact .ite (.fe _)<|.ite (.bd (.jm _ _ _) λ_=>.fe _)<|.bd (.jm _ _ _) λ_=>.bd (.jm _ _ _) λ_=>.fe _
def Om(i)(x)(c):Ca (kP i x c):=by
 unfold kP;exact .ite (.fe _)<|.ite (.fe _)<|.bd (.jm _ _ _) λ_=>.fe _
def Od(i)(v)(x):Ca (mB i v x):=by
 unfold mB;exact .ite (.bd (.kj _) λ_=>.fe _)<|.bd (.jm _ _ _) λ_=>.bd (.kj _) λ_=>.fe _
def BE(i)(v c):Ca (mY i v c):=.bd (.jm _ _ _) λ_=>.bd (.jm _ _ _) λ_=>.bd (.kj _) λ_=>.fe _
def Oq(i)(x)(o v):Ca (mC i x o v):=.bd (.jm _ _ _) λ_=>.bd (.kj _) λ_=>.ld _ _
def Oi(i)(o c v):Ca (lE i o c v):=.bd (.jm _ _ _) λ_=>.bd (.jm _ _ _) λ_=>.bd (.kj _) λ_=>.ite (.ld _ _) (.ite (.bd (.made _) λ_=>.ld _ _)<|.co λ_ _ _ h=>η)
def QP(G):∀(l) (c) (j),Ca<|iG G l c j
 |[],_,_=>by rw[iG];exact .fe _
 |p::l,c,j=>by rw[iG];exact .bd (.lq _ _ _) λ_=>.bd (.ke _ _ _) λ_=>QP G l c.tail j
def ă{f:Co->Rc a}{s c}{u}(h:bR f s=.back u c):False:=by
 grind[bR]
def Sk{m:X (List Vl)}{s c}{u}(h:m.cat s=.back u c):False:=by
 grind[X.cat]
def zm(i)(v){m:Th->X (List Vl)}(h:∀t,Ca<|m t)(p:∀t s u n,m t s=.back u n->False):Ca ((bR λc=>if c.ca=40 then .over 2 i else .ok () {c with ca:=c.ca+1}).bd λ_=>(fR v).bd λt=>(m t).bd λr=>(bR λc=>.ok () {c with ca:=c.ca-1}).bd λ_=>aF r):=λs=>by
 by_cases l:s.c.ca=40
 .grind[X.bd,bR]
 .have g:(bR λc=>if c.ca=40 then Rc.over 2 i else .ok () {c with ca:=c.ca+1}) s=.ok () {s with c:={s.c with ca:=s.c.ca+1}}:=by simp[bR,l]
  have k:Ca ((fR v).bd m):=.bd (.kj v) h;have d:=k {s with c:={s.c with ca:=s.c.ca+1}};unfold X.bd at d⊢;rw[g];simp only;cases e:fR v {s with c:={s.c with ca:=s.c.ca+1}} with
  |ok t f=>
   rw[e]at d;simp only at d⊢;cases o:m t f<;>simp_all[bR,aF]
  |back u f=>exact(ă e).elim
  |over x j f=>simp
  |stk=>simp
def Et(N)(f)(G):∀(k) (d) (e),Ca<|rn N f G k d e
 |0,d,e=>λs=>by simp[rn]
 |k+1,d,e=>by
  have c:=Et N f G k;cases d with
  |v i=>rw[rn];exact .bd .jv λ_=>.bd (c _ _) λ_=>.bd (.lq _ _ _) λ_=>.fe _
  |vs l=>
   cases l with
   |nil=>rw[rn];exact .fe _
   |cons i l=>rw[rn];exact .bd (c _ _) λ_=>.bd (c _ _) λ_=>.fe _
  |b i=>rw[rn];exact .bd (.kr _) λ_=>c _ _
  |ss l=>
   cases l with
   |nil=>rw[rn];exact .fe _
   |cons i l=>rw[rn];exact .bd .jv λ_=>.bd (c _ _) λ_=>c _ _
  |w i=>rw[rn];exact .bd (c _ _) λ_=>.ite (.bd (c _ _) λ_=>c _ _)<|.fe _
  |s i=>
   rw[rn];dsimp only;refine .ite (.bd (c _ _) λ_=>.bd (.ke _ _ _) λ_=>.fe _) ?_;refine .ite (.bd (c _ _) λ_=>.bd (.qj _ _) λ_=>.bd (.ke _ _ _) λ_=>.fe _) ?_;refine .ite (.bd (c _ _) λ_=>.bd (c _ _) λ_=>.bd (Oq _ _ _ _) λ_=>.fe _) ?_;refine .ite (.bd (c _ _) λ_=>.bd (c _ _) λ_=>.bd (c _ _) λ_=>.bd (Oi _ _ _ _) λ_=>.fe _) ?_;refine .ite (.bd (c _ _) λ_=>.bd (λs=>K) λ_=>.fe _) ?_;refine .ite (.bd (c _ _) λ_=>.ite (c _ _)<|.ite (.fe _)<|c _ _) ?_;refine .ite (c _ _) ?_;exact .ite (.bd (c _ _) λ_=>λs=>K)<|.bd (c _ _) λ_=>.fe _
  |e i=>
   rw[rn];dsimp only;refine .ite (.fe _) ?_;refine .ite (.fe _) ?_;refine .ite (.fe _) ?_;refine .ite (.bd (.qj _ _) λ_=>.bd (.so _ _) λ_=>.fe _) ?_;refine .ite (.bd (.made _) λ_=>.bd (.ko _) λ_=>.fe _) ?_;refine .ite (.bd (c _ _) λ_=>.bd (c _ _) λ_=>.bd (.jm _ _ _) λ_=>zm _ _ (λt=>.cat<|.bd (.kr _) λ_=>.bd (QP _ _ _ _) λ_=>c _ _) λ_ _ _ _ h=>Sk h) ?_;refine .ite (.bd (c _ _) λ_=>.bd (Od _ _ _) λ_=>.fe _) ?_;refine .ite (.bd (c _ _) λ_=>.bd (c _ _) λ_=>.bd (BE _ _ _) λ_=>.fe _) ?_;refine .ite (.bd (c _ _) λ_=>.bd (.made _) λ_=>.bd (.ko _) λ_=>.fe _) ?_;refine .ite (.bd (c _ _) λ_=>.bd (.made _) λ_=>.bd (.ko _) λ_=>.fe _) ?_;refine .ite (.bd (c _ _) λ_=>.bd (c _ _) λ_=>.bd (Oy _ _ _ _) λ_=>.fe _) ?_;refine .ite (.bd (c _ _) λ_=>.bd (Om _ _ _) λ_=>.fe _) ?_;exact .ite (c _ _)<|.fe _
end
def Rr.Fu{a}(r:Rr a)(n:Nat):Prop:=match r with
 |.ok _ s=>s.fu<=n
 |.back _ s=>s.fu<=n
 |_=>True
def Ew(N)(p)(G)(k)(g)(j)(s)(n)(o:s.fu<=n):(rn N p G k g j s).Fu n:=by
 refine DZ (G':=G) {R:=λm _=>∀(s:Ms) n,s.fu<=n->(m s).Fu n,stk:=λ_ _ _ _ _ _=>trivial,bd:=?_,cat:=?_,co:=?_,jv:=?_,uj:=λ_ _ _ h=>h,ret:=λ_ _ _ h=>h,lq:=?_} k k g j (vQ _) s n o
 .intro q t m _ k _ b l s n hs;have:=b s n hs;unfold X.bd;cases e:m s with
  |ok a d=>rw[e]at this;exact l a d n this
  |back v d=>rw[e]at this;exact this
  |over r i d=>trivial
  |stk=>trivial
 .intro m _ b s n hs;have:=b s n hs;unfold X.cat;cases e:m s<;>rw[e]at this<;>first|exact this|trivial
 .intro q f s n hs;unfold bR;cases f s.c with
  |ok a c=>exact hs
  |over e i=>trivial
  |stk=>trivial
 .intro s n hs;unfold aU;split
  .trivial
  .show s.fu-1<=n;omega
 .intro i v s n hs;unfold dJ;split
  .exact hs
  .split
   .trivial
   .exact hs
def C4e{N}{c}{G}{k}{i}{f}{s l}{a}(h:rn N c G k (.v i) f s=.ok a l):l.fu<s.fu:=by
 cases k with
 |zero=>grind[rn]
 |succ k=>
  rw[rn]at h;unfold X.bd aU at h;by_cases m:s.fu=0
  .grind
  .simp only[wY m]at h;have:=Ew N c G k (.e i) f {s with fu:=s.fu-1} (s.fu-1)<|vQ _;cases o:rn N c G k (.e i) f {s with fu:=s.fu-1} with
   |stk=>grind
   |over e j d=>grind
   |back v d=>grind
   |ok b d=>
    rw[o]at h this;simp only at h;have p:d.fu<=s.fu-1:=this;unfold dJ at h;cases g:G i with
    |none=>
     rw[g]at h;simp only[aF,bR,Rr.ok.injEq]at h;grind
    |some t=>
     rw[g]at h;simp only at h;by_cases n:bits Õ .i64 (r1 b).g t=0
     .grind
     .rw[wY n]at h;simp only[aF,bR,Rr.ok.injEq]at h;grind
def Nj{c}(m:X c)(s:Ms)(ϊ:c->Ms->Prop)(B:Vl->Ms->Prop):Prop:=match m s with
 |.ok a b=>ϊ a b
 |.back v b=>B v b
 |.over _ _ _=>True
 |.stk=>False
def vI(s:Ms):Prop:=∀p∈s.ev,Pw p.2
def Rr.Ev{a}(r:Rr a):Prop:=match r with
 |.ok _ s=>vI s
 |.back _ s=>vI s
 |.over _ _ s=>vI s
 |.stk=>True
def Nk{a}(m:X a)(s:Ms)(ϊ:a->Ms->Prop)(B:Vl->Ms->Prop):Prop:=Nj m s ϊ B/\(vI s->(m s).Ev)
section
variable{a f:Type}{m:X a}{s:Ms}{ϊ Q':a->Ms->Prop}{B d:Vl->Ms->Prop}
def Nk.mono(h:Nk m s ϊ B)(g:∀c b,ϊ c b->Q' c b)(e:∀v b,B v b->d v b):Nk m s Q' d:=by
 refine⟨?_,h.2⟩;have h:=h.1;grind[Nj]
theorem Nk.bd{k}{R:f->Ms->Prop}(h:Nk m s ϊ B)(l:∀g j,ϊ g j->Nk (k g) j R B):Nk (m.bd k) s R B:=by
 obtain⟨h,i⟩:=h;unfold Nk Nj X.bd at*;cases e:m s with
 |ok g j=>rw[e]at h i;exact⟨(l g j h).1,λhs=>(l g j h).2<|i hs⟩
 |back v j=>rw[e]at h i;exact⟨h,i⟩
 |over g b c=>rw[e]at i;exact⟨trivial,i⟩
 |stk=>grind
theorem Nk.c{b}(h:Nj (bR b) s ϊ B):Nk (bR b) s ϊ B:=by
 refine⟨h,λhs=>?_⟩;unfold bR;cases b s.c with
 |ok g c=>exact hs
 |over e i=>exact hs
 |stk=>trivial
theorem Nk.fe{b}(h:ϊ b s):Nk (aF b) s ϊ B:=Nk.c h
def Nk.jv{ϊ}(h:s.fu≠0->ϊ () {s with fu:=s.fu-1}):Nk aU s ϊ B:=by
 unfold Nk Nj aU;by_cases b:s.fu=0
 .rw[yY b];exact⟨trivial,λx=>x⟩
 .rw[wY b];exact⟨h b,λx=>x⟩
def Nk.lq{G}{i}{v}{ϊ}(g:Pw v.g)(h:∀c,c.c=s.c->c.fu=s.fu->ϊ v c):Nk (dJ G i v) s ϊ B:=by
 unfold Nk Nj dJ;cases G i with
 |none=>exact⟨h s K K,λx=>x⟩
 |some t=>
  simp only;by_cases e:bits Õ .i64 v.g t=0
  .rw[yY e];exact⟨trivial,λx=>x⟩
  .rw[wY e];refine⟨h _ K K,λhs p b=>?_⟩;obtain b|b:=qW.1 b
   .exact hs p b
   grind
end
structure Le(c c':Co):Prop where
 gr:Gr c c'
 sc:∀(j:Nat) (q:Sc),c.S[j]?=C q->∃q':Sc,c'.S[j]?=C q'/\q'.up=q.up/\∀x,(q.o x).isSome->(q'.o x).isSome
theorem Le.refl(c):Le c c:=⟨Gr.refl c,λ_ q h=>⟨q,h,K,λ_ h=>h⟩⟩
theorem Le.trans{a b c}(h:Le a b)(k:Le b c):Le a c:=⟨h.gr.trans k.gr,λj q e=>by
 obtain⟨f,d,g,i⟩:=h.sc j q e;obtain⟨l,k1,k2,k3⟩:=k.sc j f d;grind⟩
theorem Le.same{c a}(h:Gr c a)(b:a.S=c.S):Le c a:=⟨h,λ_ q d=>⟨q,η,K,λ_ h=>h⟩⟩
inductive Ii(S:List Sc)(x:Int):Option Nat->Prop
 |here {j:Nat} {q:Sc}:S[j]?=C q->(q.o x).isSome->Ii S x (C j)
 |up {j:Nat} {q:Sc}:S[j]?=C q->Ii S x q.up->Ii S x (C j)
def Ii.le{c d}(h:Le c d){x}{e}(i:Ii c.S x e):Ii d.S x e:=by
 induction i with
 |here b j=>
  obtain⟨l,a,_,g⟩:=h.sc _ _ b;exact .here a<|g _ j
 |up b _ k=>
  obtain⟨l,a,f,_⟩:=h.sc _ _ b;exact .up a<|f ▸ k
def Ii.qj{S}{x}{a}(f:∀(i) (q:Sc),S[i]?=C q->∀j,q.up=C j->j<i)(h:Ii S x a):∀k,(∀j,a=C j->j<k)->∃j,W9 S x k a=C j:=by
 induction h with
 |@here j q b g=>
  intro k c;obtain⟨k,rfl⟩:∃n,k=n+1:=⟨k-1,η⟩;simp_all[W9]
 |@up j q b _ d=>
  intro k c;obtain⟨k,rfl⟩:∃n,k=n+1:=⟨k-1,η⟩;rw[W9,b];simp only;split
  .simp
  .exact d k λl e=>η
abbrev Aw:=Int->Bool->(Int->Prop)->Prop
def wX(A:Aw)(c:Co)(t:Th):Prop:=∃f a,A t.nd f a/\∀j,a j->Ii c.S j t.sc
structure Inv(N:List Nd)(A:Aw)(c:Co):Prop where
 ok:iE N c
 fn:∀(i:Nat) (t:Th),c.T[i]?=C t->t.k=64->wX A c t
def wX.le{A}{c a}{t}(h:wX A c t)(i:Le c a):wX A a t:=by
 obtain⟨f,b,d,e⟩:=h;exact⟨f,b,d,λj g=>(e j g).le i⟩
def Inv.to{N}{A}{c b}(h:Inv N A c)(j:Le c b)(k:iE N b)(f:∀(i:Nat) (t),b.T[i]?=C t->t.k=64->(∃a,c.T[i]?=C a/\a.k=64/\a.nd=t.nd/\a.sc=t.sc)\/wX A b t):Inv N A b:=
 ⟨k,λi t l g=>(f i t l g).elim (λ⟨a,d,e,m,n⟩=>by
  have:=(h.fn i a d e).le j;grind[wX]) id⟩
def kY(N:List Nd)(x:Int):Prop:=0<=x/\x<Q N/\1<=(aA N x).x/\(aA N x).x<=14
def Su(A:Aw)(x:Int)(f:Bool)(b E:Int->Prop):Prop:=∃a,A x f a/\∀j,a j->b j\/E j
def Nn:Int->Prop:=λ_=>False
structure uX(N:List Nd)(nm:Int->Int)(A:Aw):Prop where
 var:∀{i f ό},A i f ό->(aA N i).x=5\/(aA N i).x=18->ό (nm i)
 a:∀{i f ό},A i f ό->(aA N i).x∈[(7:Int),8,9,12,13,14,18,19,20,21,22,23,24,25]->kY N (aA N i).a/\Su A (aA N i).a f ό Nn
 b:∀{i f ό},A i f ό->(aA N i).x∈[(9:Int),12,19,20]->kY N (aA N i).b/\Su A (aA N i).b f ό Nn
 c:∀{i f ό},A i f ό->(aA N i).x=20->kY N (aA N i).c/\Su A (aA N i).c f ό Nn
 l:∀{i f ό},A i f ό->(aA N i).x=7\/(aA N i).x=11->∀x∈(aA N i).M,kY N x/\Su A x f ό Nn
 o:∀{i f ό},A i f ό->(aA N i).x=10->∀x∈(aA N i).M,kY N (aA N x).a/\Su A (aA N x).a f ό Nn
 ab:∀{i f ό},A i f ό->(aA N i).x=22\/(aA N i).x=23->(aA N (aA N i).b).x=26/\Su A (aA N i).b f ό Nn
 ac:∀{i f ό},A i f ό->(aA N i).x=22->(aA N i).c≠-1->(aA N (aA N i).c).x=26/\Su A (aA N i).c f ό Nn
 fn:∀{i f ό},A i f ό->(aA N i).x=6->(aA N (aA N i).a).x=26/\Su A (aA N i).a τ ό (·∈(aA N i).M)
 blk:∀{i f ό},A i f ό->(aA N i).x=26->∀p x r,(aA N i).M=p++x::r->(17<=(aA N x).x/\(aA N x).x<=25)/\Su A x f ό λj=>j∈p/\(aA N j).x=17
 lt:∀{i f ό},A i f ό->(aA N i).x=17->kY N (aA N i).a/\Su A (aA N i).a f ό λj=>j=i/\(aA N (aA N i).a).x=6
 ret:∀{i f ό},A i f ό->(aA N i).x=24->f=τ
 tx:∀i,Q (aA N i).text<=30
 ls:∀i,Q (aA N i).M<=1200
section
variable{N:List Nd}{a:Int->Int}{G:Int->Option Int}{A:Aw}
def Qv(N:List Nd)(A:Aw)(s:Ms)(c:List Vl)(b:Ms):Prop:=(∃v,c=[v]/\aZ b.c v)/\Le s.c b.c/\Inv N A b.c/\b.fu<=s.fu
def Xz(N:List Nd)(A:Aw)(n:Nat)(s:Ms)(c:List Vl)(b:Ms):Prop:=(Q c=n/\∀v∈c,aZ b.c v)/\Le s.c b.c/\Inv N A b.c/\b.fu<=s.fu
def sJ(N:List Nd)(A:Aw)(s:Ms)(_:List Vl)(b:Ms):Prop:=Le s.c b.c/\Inv N A b.c/\b.fu<=s.fu
def Bk(N:List Nd)(A:Aw)(f:Bool)(s:Ms)(v:Vl)(b:Ms):Prop:=f=τ/\aZ b.c v/\Le s.c b.c/\Inv N A b.c/\b.fu<=s.fu
def Nb:Vl->Ms->Prop:=λ_ _=>False
structure Hr(N:List Nd)(A:Aw)(ό:Int->Prop)(sc:Option Nat)(s:Ms):Prop where
 inv:Inv N A s.c
 jo:iL s.c sc
 m9:∀j,ό j->Ii s.c.S j sc
def Hr.on{c}{e}{s b}(h:Hr N A c e s)(d:Le s.c b.c)(f:Inv N A b.c):Hr N A c e b:=⟨f,h.jo.gr d.gr,λj g=>(h.m9 j g).le d⟩
def Hr.su{b c}{d}{s}(h:Hr N A b d s)(f:∀j,c j->b j\/Nn j):Hr N A c d s:=⟨h.inv,h.jo,λj e=>(f j e).elim (h.m9 j) False.elim⟩
theorem Hr.of{b}{d}{s c}(h:Hr N A b d s)(e:c.c=s.c):Hr N A b d c:=⟨e ▸ h.inv,e ▸ h.jo,λj f=>e ▸ h.m9 j f⟩
def C4f(n):-2147483648<=wr n/\wr n<=2147483647:=by
 grind[wr]
theorem xC(c)(n):aZ c (vN<|wr n):=⟨by simp[vN],C4f n,by simp[vN],by simp[vN]⟩
def zE(c){t}(h:Q t<=4000):aZ c (vT t):=⟨h,by simp[vT],by simp[vT],by simp[vT]⟩
theorem uP(c)(b):aZ c (vB b):=by grind[aZ,vB]
theorem sH(c):aZ c vO:=by grind[aZ,vO]
def aZ.kh{c}{v}(h:aZ c v)(d:16<=v.g):∃j t,v.h=C j/\c.T[j]?=C t/\t.k=v.g:=by
 obtain⟨_,_,_,b⟩:=h;grind
def Nk.jm{i g}{v}{s}{ϊ}{B}(h:v.g=g->ϊ () s):Nk (eO i v g) s ϊ B:=by
 refine Nk.c ?_;unfold Nj bR;by_cases b:v.g=g<;>simp_all
def Nk.kj{v}{s}{ϊ}{B}(c:aZ s.c v)(b:16<=v.g)(h:∀j t,v.h=C j->s.c.T[j]?=C t->t.k=v.g->ϊ t s):Nk (fR v) s ϊ B:=by
 obtain⟨j,t,d,e,f⟩:=c.kh b;refine Nk.c ?_;unfold Nj bR;simp_all
def Qo(s:Ms)(v:Vl)(b:Ms):Prop:=b=s/\aZ s.c v
def Wl{i}{sg}{d b}{s}{B}:Nk (mD i sg d b) s (Qo s) B:=by
 unfold mD;split
 .exact Nk.fe ⟨K,uP _ _⟩
 split
 .exact Nk.bd (Nk.jm (ϊ:=λ_ c=>c=s) λ_=>K) λ_ _ e=>Nk.fe ⟨e,zE _ η⟩
 .refine Nk.bd (Nk.jm (ϊ:=λ_ c=>c=s) λ_=>K) λ_ _ e=>Nk.bd (Nk.jm (ϊ:=λ_ c=>c=s) λ_=>e) λ_ _ e=>Nk.fe ⟨e,?_⟩;grind[xC,uP]
theorem Iz(g):Q (pA g)<=8:=by
 unfold pA;repeat' split
 all_goals simp
def Wc{i}{sg}{v}{s}{B}:Nk (kP i sg v) s (Qo s) B:=by
 unfold kP;split
 .exact Nk.fe ⟨K,uP _ _⟩
 split
 .exact Nk.fe ⟨K,zE _<|by grind[Iz]⟩
 .exact Nk.bd (Nk.jm (ϊ:=λ_ b=>b=s) λ_=>K) λ_ _ e=>Nk.fe ⟨e,xC _ _⟩
def Eb{i}{v}{x}{s}{B}(h:Inv N A s.c)(c:aZ s.c v):Nk (mB i v x) s (Qo s) B:=by
 unfold mB;split
 .rename_i g;exact Nk.bd (Nk.kj (ϊ:=λ_ b=>b=s) c W λ_ _ _ _ _=>K) λ_ _ e=>Nk.fe ⟨e,xC _ _⟩
 .refine Nk.bd (Nk.jm (ϊ:=λ_ b=>b=s/\v.g=16) λe=>⟨K,e⟩) λ_ d e=>?_;obtain⟨rfl,g⟩:=e;refine Nk.bd (Nk.kj (ϊ:=λt b=>b=d/\jP N d.c t) c W λj t _ f _=>⟨K,h.ok.T j t f⟩) λt m e=>?_;obtain⟨rfl,l⟩:=e;refine Nk.fe ⟨K,?_⟩;cases k:t.p x with
  |none=>grind[sH]
  |some u=>exact l.p x u k
def Ds{i}{v c}{s}{B}(h:Inv N A s.c)(l:aZ s.c v):Nk (mY i v c) s (Qo s) B:=by
 unfold mY;refine Nk.bd (Nk.jm (ϊ:=λ_ b=>b=s/\v.g=32) λe=>⟨K,e⟩) λ_ m e=>?_;obtain⟨rfl,n⟩:=e;refine Nk.bd (Nk.jm (ϊ:=λ_ b=>b=m) λ_=>K) λ_ d e=>?_;subst e;refine Nk.bd (Nk.kj (ϊ:=λt b=>b=d/\jP N d.c t) l W λj t _ f _=>⟨K,h.ok.T j t f⟩) λt o e=>?_;obtain⟨rfl,k⟩:=e;refine Nk.fe ⟨K,?_⟩;split
 .rw[lQ];cases g:t.l[c.n.toNat]? with
  |none=>grind[sH]
  |some u=>exact k.l u<|List.mem_of_getElem? g
 grind[sH]
def Qu(N:List Nd)(A:Aw)(s:Ms)(b:Ms):Prop:=Le s.c b.c/\Inv N A b.c/\b.fu<=s.fu
def Hq{c b}{t}(h:jP N c t)(d:Gr c b){p}{l}(g:∀x v,p x=C v->aZ b v)(e:∀v∈l,aZ b v)(f:Q l<=1200+b.th):jP N b {t with p:=p,l:=l}:=⟨h.k,g,e,h.sc.gr d,f,h.nd⟩
def OY{o:Vl}{t}{s f}{j}{B:Vl->Ms->Prop}{p:bZ->Option Vl}{l:List Vl}(h:Qu N A f s)(m:o.h=C j)(c:s.c.T[j]?=C t)(n:∀x v,p x=C v->aZ s.c v)(g:∀v∈l,aZ s.c v)(k:Q l<=1200+s.c.th):Nk (fL o {t with p:=p,l:=l}) s (λ_ r=>Qu N A f r) B:=by
 have b:=tW (c:=s.c) (u:={t with p:=p,l:=l}) c K;have d:Le s.c {s.c with T:=s.c.T.set j {t with p:=p,l:=l}}:=Le.same b K;refine Nk.c ?_;unfold Nj bR;simp only[m,Option.getD_some];refine⟨h.1.trans d,h.2.1.to d (h.2.1.ok.ld c K<|Hq (h.2.1.ok.T j t c) b (λx v e=>(n x v e).gr b) (λv q=>(g v q).gr b) k) λi u y w=>.inl ?_,h.2.2⟩;grind
def Wg{i}{x}{o v}{s}{B:Vl->Ms->Prop}(h:Inv N A s.c)(l:aZ s.c o)(n:aZ s.c v):Nk (mC i x o v) s (λ_ b=>Qu N A s b) B:=by
 unfold mC;refine Nk.bd (Nk.jm (ϊ:=λ_ b=>b=s/\o.g=16) λe=>⟨K,e⟩) λ_ k e=>?_;obtain⟨rfl,m⟩:=e;refine Nk.bd (Nk.kj (ϊ:=λt b=>b=k/\∃j,o.h=C j/\k.c.T[j]?=C t) l W λj t f c _=>⟨K,j,f,c⟩) λt p e=>?_;obtain⟨rfl,j,f,c⟩:=e;have g:=h.ok.T j t c;refine OY (l:=t.l) ⟨Le.refl _,h,vQ _⟩ f c (λy u d=>?_) g.l g.fq;have d:=d;split at d
 .grind
 .exact g.p y u d
def JY{i}{s f}{B:Vl->Ms->Prop}{ϊ:Unit->Ms->Prop}(h:Qu N A f s)(g:s.c.th<2000->Qu N A f {s with c:={s.c with th:=s.c.th+1}}->ϊ () {s with c:={s.c with th:=s.c.th+1}}):Nk (bX i) s ϊ B:=by
 have l:=h.2.1.ok.th;refine Nk.c ?_;unfold Nj bR;by_cases e:s.c.th=2000
 .grind
 .simp only[wY e];have d:Le s.c {s.c with th:=s.c.th+1}:=Le.same ⟨λ_ t b=>⟨t,b,K⟩,vQ _⟩ K;exact g W ⟨h.1.trans d,h.2.1.to d (h.2.1.ok.of d.gr ⟨θ,η⟩ h.2.1.ok.ca (λ_ _ b=>.inl b) λ_ _ k=>.inl k) λ_ t b j=>.inl ⟨t,b,j,K,K⟩,h.2.2⟩
def Vy{i}{o p v}{s}{B:Vl->Ms->Prop}(h:Inv N A s.c)(x:aZ s.c o)(z:aZ s.c v):Nk (lE i o p v) s (λ_ b=>Qu N A s b) B:=by
 unfold lE;refine Nk.bd (Nk.jm (ϊ:=λ_ b=>b=s/\o.g=32) λe=>⟨K,e⟩) λ_ F e=>?_;obtain⟨rfl,H⟩:=e;refine Nk.bd (Nk.jm (ϊ:=λ_ b=>b=F) λ_=>K) λ_ n e=>?_;subst e;refine Nk.bd (Nk.kj (ϊ:=λt b=>b=n/\∃j,o.h=C j/\n.c.T[j]?=C t) x W λj t g f _=>⟨K,j,g,f⟩) λt l e=>?_;obtain⟨rfl,j,g,f⟩:=e;have c:=h.ok.T j t f;split
 .refine OY (p:=t.p) ⟨Le.refl _,h,vQ _⟩ g f c.p (λu d=>?_) (by rw[List.length_set];exact c.fq);obtain e|e:=List.mem_or_eq_of_mem_set d
  .exact c.l u e
  grind
 split
 .refine Nk.bd (JY (ϊ:=λ_ b=>Qu N A l b/\b.c.T[j]?=C t/\b.c.th=l.c.th+1/\Gr l.c b.c) ⟨Le.refl _,h,vQ _⟩ λ_ m=>⟨m,f,K,m.1.gr⟩) λ_ L e=>?_;obtain⟨q,r,w,k⟩:=e;refine OY (p:=t.p) q g r (λy u D=>(c.p y u D).gr k) (λu d=>?_) (by rw[qQ,w];have:=c.fq;grind);rw[qW,zW]at d;obtain d|rfl:=d
  .exact(c.l u d).gr k
  .exact z.gr k
 .exact Nk.c trivial
def OU{t}{s g}{B:Vl->Ms->Prop}{ϊ:Nat->Ms->Prop}(h:Qu N A g s)(m:jP N {s.c with T:=s.c.T++[t]} t)(k:t.k=64->wX A s.c t)(j:∀d,Qu N A g d->d.c.T[Q s.c.T]?=C t->ϊ (Q s.c.T) d):Nk (eL t) s ϊ B:=by
 have c:Le s.c {s.c with T:=s.c.T++[t]}:=Le.same (W8 t) K;refine Nk.c ?_;unfold Nj bR;refine j _ ⟨h.1.trans c,h.2.1.to c (h.2.1.ok.ko m) λi u b l=>?_,h.2.2⟩ θ;obtain f|f:=Nat.lt_or_ge i (Q s.c.T)
 .grind
 .simp only at b;rw[List.getElem?_append_right f]at b;obtain e|e:=Nat.eq_zero_or_pos<|i-Q s.c.T
  .rw[e]at b;simp only[List.getElem?_cons_zero,zQ]at b;subst b;exact .inr<|(k l).le c
  grind
def YJ{u:Option Nat}{s d}{B:Vl->Ms->Prop}{ϊ:Nat->Ms->Prop}(h:Qu N A d s)(i:iL s.c u)(e:∀b,Qu N A d b->Le s.c b.c->b.fu=s.fu->b.c.S[Q s.c.S]?=C ⟨λ_=>none,u⟩->ϊ (Q s.c.S) b):Nk (fM u) s ϊ B:=by
 have c:Le s.c {s.c with S:=s.c.S++[⟨λ_=>none,u⟩]}:=⟨CF u,λj q k=>⟨q,η,K,λ_ h=>h⟩⟩;refine Nk.c ?_;unfold Nj bR;exact e _ ⟨h.1.trans c,h.2.1.to c (h.2.1.ok.kr i) λ_ t g f=>.inl ⟨t,g,f,K,K⟩,h.2.2⟩ c K θ
def JW{c}(j)(x)(v):Le c {c with S:=c.S.modify j λq=>⟨λy=>if y=x then C v else q.o y,q.up⟩}:=⟨vF j _,λi q b=>by
 simp only;rw[List.getElem?_modify,b];simp only[Option.map_eq_map,Option.map_some];split<;>grind⟩
def OV{j}{x}{v}{s c}{B:Vl->Ms->Prop}(h:Qu N A c s)(g:j<Q s.c.S)(f:aZ s.c v):Nk (eY j x v) s (λ_ b=>Qu N A c b/\Ii b.c.S x (C j)/\Le s.c b.c) B:=by
 refine Nk.c ?_;unfold Nj bR;refine⟨⟨h.1.trans<|JW j x v,h.2.1.to (JW j x v) (h.2.1.ok.ke j x f) λ_ t e d=>.inl ⟨t,e,d,K,K⟩,h.2.2⟩,?_,JW j x v⟩;refine Ii.here (q:=⟨λy=>if y=x then C v else (s.c.S[j]).o y,(s.c.S[j]).up⟩) ?_ θ;grind
def Dx{x}{b}{s}{B}{c}(h:Hr N A c b s)(e:c x):Nk (iQ x b) s (λj g=>g=s/\∃q v,s.c.S[j]?=C q/\q.o x=C v) B:=by
 obtain⟨j,d⟩:=(h.m9 x e).qj (λi q f=>(h.inv.ok.S i q f).2) (Q s.c.S) h.jo;refine Nk.c ?_;unfold Nj bR;simp only[d];refine⟨trivial,?_⟩;clear h e;generalize Q s.c.S=k at d;generalize s.c.S=S at*;induction k generalizing b with
 |zero=>grind[W9]
 |succ k l=>
  cases b<;>grind[W9,Option.isSome_iff_exists]
def Nk.ite{e}{c}[Decidable c]{d b}{s}{ϊ:e->Ms->Prop}{B}(h:c->Nk d s ϊ B)(k:¬c->Nk b s ϊ B):Nk (if c then d else b) s ϊ B:=η
theorem Nk.cat{m}{s}{ϊ R}{B i}(h:Nk m s ϊ B)(j:∀f d,ϊ f d->R [vO] d)(k:∀v d,B v d->R [v] d):Nk m.cat s R i:=by
 obtain⟨h,g⟩:=h;unfold Nk Nj X.cat at*;cases e:m s with
 |ok f d=>rw[e]at h g;exact⟨j f d h,g⟩
 |back v d=>rw[e]at h g;exact⟨k v d h,g⟩
 |over f b c=>grind
 |stk=>grind
theorem Qu.refl{s}(h:Inv N A s.c):Qu N A s s:=⟨Le.refl _,h,vQ _⟩
theorem Qu.trans{s b c}(h:Qu N A s b)(k:Qu N A b c):Qu N A s c:=⟨h.1.trans k.1,k.2.1,kQ k.2.2 h.2.2⟩
def Bk.on{f}{s b c}{v}(h:Qu N A s b)(k:Bk N A f b v c):Bk N A f s v c:=⟨k.1,k.2.1,h.1.trans k.2.2.1,k.2.2.2.1,kQ k.2.2.2.2 h.2.2⟩
def Hr.qu{b}{d}{s c}(h:Hr N A b d s)(k:Qu N A s c):Hr N A b d c:=h.on k.1 k.2.1
def ZB{c}{x}(h:Inv N A c)(g:x<=40):Le c {c with ca:=x}/\Inv N A {c with ca:=x}:=by
 have d:Le c {c with ca:=x}:=Le.same ⟨λ_ t b=>⟨t,b,K⟩,vQ _⟩ K;exact⟨d,h.to d (h.ok.of d.gr ⟨vQ _,h.ok.th⟩ g (λ_ _ b=>.inl b) λ_ _ f=>.inl f) λ_ t b e=>.inl ⟨t,b,e,K,K⟩⟩
def Ef{i}{B:Vl->Ms->Prop}:∀(l) (b:List Vl) (j) (s),Qu N A i s->j<Q s.c.S->(∀v∈b,aZ s.c v)->Nk (iG G l b j) s (λ_ c=>Qu N A i c/\Le s.c c.c/\∀p∈l,Ii c.c.S p (C j)) B
 |[],b,j,s,h,_,_=>by
  grind[iG,Nk.fe,Le.refl]
 |p::l,b,j,s,h,q,t=>by
  rw[iG];have o:aZ s.c (b.headD vO):=by
   cases b with
   |nil=>grind[sH]
   |cons F r=>grind
  refine Nk.bd (Nk.lq (ϊ:=λv c=>v=b.headD vO/\c.c=s.c/\c.fu=s.fu) o.pw λc d g=>⟨K,d,g⟩) λv z e=>?_;obtain⟨rfl,d,g⟩:=e;have n:Qu N A i z:=⟨d ▸ h.1,d ▸ h.2.1,g ▸ h.2.2⟩;refine Nk.bd (OV n η η) λ_ D e=>?_;obtain⟨w,y,f⟩:=e;rw[d]at f;refine(Ef l b.tail j D w (yQ q f.gr.S) λv u=>(t v<|List.mem_of_mem_tail u).gr f.gr).mono (λ_ H k=>⟨k.1,f.trans k.2.1,λx m=>?_⟩) λ_ _ h=>h;obtain rfl|m:=jW.1 m
  .exact y.le k.2.1
  grind
def MG:∀(l:List<|bZ×Vl) (f:bZ->Option Vl) (x) (v),l.foldl (λf p y=>if y=p.1 then C p.2 else f y) f x=C v->f x=C v\/∃p∈l,p.2=v
 |[],f,x,v,h=>.inl h
 |p::l,f,x,v,h=>by
  rw[List.foldl_cons]at h;obtain h|⟨q,h1,h2⟩:=MG l _ x v h<;>grind
def PU(N:List Nd)(a:Int->Int)(G:Int->Option Int)(A:Aw)(k:Nat):Prop:=∀i f b c s,A i f b->kY N i->Hr N A b c s->8*s.fu+3<=k->Nk (rn N a G k (.e i) c) s (Qv N A s) Nb
def yK(N:List Nd)(a:Int->Int)(G:Int->Option Int)(A:Aw)(k:Nat):Prop:=∀i f b d s,A i f b->kY N i->Hr N A b d s->8*s.fu+1<=k->Nk (rn N a G k (.v i) d) s (λe c=>Qv N A s e c/\c.fu<s.fu) Nb
def IC(N:List Nd)(a:Int->Int)(G:Int->Option Int)(A:Aw)(k:Nat):Prop:=∀l f b c s,(∀x∈l,kY N x/\Su A x f b Nn)->Hr N A b c s->8*s.fu+2<=k->Nk (rn N a G k (.vs l) c) s (Xz N A (Q l) s) Nb
def CS(N:List Nd)(a:Int->Int)(G:Int->Option Int)(A:Aw)(k:Nat):Prop:=∀i f b c s,A i f b->(aA N i).x=26->Hr N A b c s->8*s.fu+2<=k->Nk (rn N a G k (.b i) c) s (sJ N A s) (Bk N A f s)
def ID(N:List Nd)(a:Int->Int)(G:Int->Option Int)(A:Aw)(k:Nat):Prop:=∀i f b p r j s,A i f b->(aA N i).x=26->(aA N i).M=p++r->Hr N A b (C j) s->(∀x∈p,(aA N x).x=17->Ii s.c.S x (C j))->8*s.fu+1<=k->Nk (rn N a G k (.ss r)<|C j) s (sJ N A s) (Bk N A f s)
def PQ(N:List Nd)(a:Int->Int)(G:Int->Option Int)(A:Aw)(k:Nat):Prop:=∀i f b j s,A i f b->17<=(aA N i).x/\(aA N i).x<=25->Hr N A b (C j) s->8*s.fu+3<=k->Nk (rn N a G k (.s i)<|C j) s (λd c=>sJ N A s d c/\((aA N i).x=17->Ii c.c.S i (C j))) (Bk N A f s)
def IB(N:List Nd)(a:Int->Int)(G:Int->Option Int)(A:Aw)(k:Nat):Prop:=∀i f b c s,A i f b->(aA N i).x=23->Hr N A b c s->8*s.fu+2<=k->Nk (rn N a G k (.w i) c) s (sJ N A s) (Bk N A f s)
def Nb.any{f}{s}(v)(b)(h:Nb v b):Bk N A f s v b:=h.elim
def Lq{k}(p:PU N a G A k):yK N a G A (k+1):=by
 intro i f j w s n o r B;rw[rn];refine Nk.bd (Nk.jv (ϊ:=λ_ b=>b={s with fu:=s.fu-1}/\s.fu≠0) λh=>⟨K,h⟩) λ_ D e=>?_;obtain⟨rfl,y⟩:=e;refine Nk.bd (p i f j w _ n o (r.of K) η) λx g q=>?_;obtain⟨⟨v,rfl,t⟩,l,z,m⟩:=q;simp only at l m;refine Nk.bd (Nk.lq (ϊ:=λu b=>u=v/\b.c=g.c/\b.fu=g.fu) t.pw λb c d=>⟨K,c,d⟩) λu F e=>?_;obtain⟨rfl,c,d⟩:=e;refine Nk.fe ⟨⟨⟨u,K,η⟩,η,η,W⟩,W⟩
def LD{k}(w:yK N a G A k)(hs:IC N a G A k):IC N a G A (k+1):=by
 intro l f m j s d b L;cases l with
 |nil=>
  rw[rn];exact Nk.fe ⟨⟨K,λ_ h=>η⟩,Le.refl _,b.inv,vQ _⟩
 |cons i l=>
  rw[rn];obtain⟨g,n,r,t⟩:=d i θ;refine Nk.bd (w i f n j s r g (b.su t) W) λo z q=>?_;obtain⟨⟨⟨v,rfl,y⟩,c,p,F⟩,H⟩:=q;refine Nk.bd (hs l f m j z (λx g=>d x η) (b.on c p) W) λo M q=>?_;obtain⟨⟨B,D⟩,k1,k2,k3⟩:=q;refine Nk.fe ⟨⟨η,λu e=>?_⟩,c.trans k1,k2,W⟩;obtain rfl|e:=jW.1 e
  .exact y.gr k1.gr
  grind
def Lu{k}(hs:ID N a G A k):CS N a G A (k+1):=by
 intro i f l y s n o d x;rw[rn];refine Nk.bd (YJ (ϊ:=λj c=>Qu N A s c/\Hr N A l (C j) c/\c.fu=s.fu) (Qu.refl d.inv) d.jo λc b g m r=>⟨b,⟨b.2.1,λj e=>?_,λj p=>.up r<|(d.m9 j p).le g⟩,m⟩) λj t q=>?_
 .grind
 .obtain⟨b,g,m⟩:=q;exact(hs i f l [] _ j t n o K g (λ_ h=>η) W).mono (λw u h=>b.trans h) λv u h=>h.on b
def LF(L:uX N a A){k}(F:PQ N a G A k)(hs:ID N a G A k):ID N a G A (k+1):=by
 intro i f w p r j s m n P b t o;cases r with
 |nil=>
  rw[rn];exact Nk.fe<|Qu.refl b.inv
 |cons x r=>
  rw[rn];obtain⟨S,l,H,M⟩:=L.blk m n p x r P;refine Nk.bd (Nk.jv (ϊ:=λ_ T=>T={s with fu:=s.fu-1}/\s.fu≠0) λh=>⟨K,h⟩) λ_ s1 e=>?_;obtain⟨rfl,h0⟩:=e;have u:Qu N A s {s with fu:=s.fu-1}:=⟨Le.refl _,b.inv,θ⟩;have R:Hr N A l (C j) {s with fu:=s.fu-1}:=⟨b.inv,b.jo,λy c=>(M y c).elim (b.m9 y) λ⟨B,D⟩=>t y B D⟩;refine Nk.bd ((F x f l j _ H S R η).mono (λ_ _ h=>h) λv g h=>h.on u) λz g q=>?_;have d:=u.trans q.1;have a2:g.fu<=s.fu-1:=q.1.2.2;refine(hs i f w (p++[x]) r j g m n η (b.qu d) (λy c o=>?_) W).mono (λz Z h=>d.trans h) λv Z h=>h.on d;obtain c|c:=qW.1 c
  .exact(t y c o).le d.1
  grind
def Lp(L:uX N a A){k}(H:yK N a G A k)(D:CS N a G A k)(M:IB N a G A k):IB N a G A (k+1):=by
 intro i f o g s c l e T;rw[rn];obtain⟨P,p,x,z⟩:=L.a c ù;obtain⟨F,r,y,B⟩:=L.ab c<|.inr l;refine Nk.bd ((H _ f p g s x P (e.su z) W).mono (λ_ _ h=>h) Nb.any) λj m q=>?_;obtain⟨⟨_,t,u,w⟩,S⟩:=q;have b:Qu N A s m:=⟨t,u,w⟩;refine Nk.ite (λ_=>?_) λ_=>Nk.fe b;refine Nk.bd ((D _ f r g m y F ((e.qu b).su B) W).mono (λ_ _ h=>h) λv n h=>h.on b) λj n q=>?_;have d:=b.trans q;have:=q.2.2;exact(M i f o g n c l (e.qu d) W).mono (λj R h=>d.trans h) λv R h=>h.on d
def Ls(L:uX N a A){k}(hv:yK N a G A k)(hb:CS N a G A k)(hw:IB N a G A k)(aa:∀i f D j s,A i f D->(aA N i).x=17->(aA N (aA N i).a).x=6->Hr N A D (C j) s->8*s.fu+3<=k+1->Nk ((rn N a G k (.v (aA N i).a)<|C j).bd λac=>(eY j i<|r1 ac).bd λ_=>aF []) s (λg t=>sJ N A s g t/\Ii t.c.S i (C j)) Nb):PQ N a G A (k+1):=by
 intro i f D j s l hK p hk;rw[rn];dsimp only;have hj:=p.jo j K;have u:∀x c,A x f c->kY N x->(∀y,c y->D y\/Nn y)->∀b,Qu N A s b->Nk (rn N a G k (.v x)<|C j) b (λg t=>(∃v,g=[v]/\aZ t.c v)/\Qu N A s t/\Le b.c t.c/\t.fu<s.fu) (Bk N A f s):=λx c T Z h3 b M=>by
  have:=M.2.2;exact(hv x f c (C j) b T Z ((p.qu M).su h3) W).mono (λg t q=>⟨q.1.1,M.trans ⟨q.1.2.1,q.1.2.2.1,q.1.2.2.2⟩,q.1.2.1,W⟩) Nb.any
 have F:∀{b:Ms},Qu N A s b->(aA N i).x≠17->sJ N A s [] b/\((aA N i).x=17->Ii b.c.S i (C j)):=λT Z=>⟨T,λh=>absurd h Z⟩;refine Nk.ite (λo=>?_) λz=>?_
 .by_cases h6:(aA N (aA N i).a).x=6
  .exact(aa i f D j s l o h6 p hk).mono (λg t h=>⟨h.1,λ_=>h.2⟩) Nb.any
  .obtain⟨r,c,m,n⟩:=L.lt l o;refine Nk.bd (u _ c m r (λy hy=>(n y hy).imp id λh=>absurd h.2 h6) s<|Qu.refl p.inv) λg b q=>?_;obtain⟨⟨v,rfl,w⟩,d,P,_⟩:=q;refine Nk.bd (OV d (yQ hj P.gr.S) w) λ_ H e=>Nk.fe ⟨e.1,λ_=>e.2.1⟩
 refine Nk.ite (λo=>?_) λad=>?_
 .obtain⟨r,c,m,n⟩:=L.a l η;refine Nk.bd (u _ c m r n s<|Qu.refl p.inv) λg b q=>?_;obtain⟨⟨v,rfl,w⟩,d,P,_⟩:=q;refine Nk.bd (Dx (p.qu d)<|L.var l<|.inr o) λj' H e=>?_;obtain⟨rfl,q,a4,hq,_⟩:=e;exact Nk.bd (OV d (Î.1 hq).1 w) λ_ B e=>Nk.fe<|F e.1 z
 refine Nk.ite (λo=>?_) λae=>?_
 .obtain⟨r,c,m,n⟩:=L.a l η;obtain⟨a3,S,hA2,a2⟩:=L.b l η;refine Nk.bd (u _ c m r n s<|Qu.refl p.inv) λg b q=>?_;obtain⟨⟨v,rfl,w⟩,d,P,_⟩:=q;refine Nk.bd (u _ S hA2 a3 a2 b d) λg H q=>?_;obtain⟨⟨a4,rfl,hu⟩,R,q4,_⟩:=q;exact Nk.bd (Wg R.2.1 (w.gr q4.gr) hu) λ_ B e=>Nk.fe<|F (R.trans e) z
 refine Nk.ite (λo=>?_) λaf=>?_
 .obtain⟨r,c,m,n⟩:=L.a l ù;obtain⟨a3,S,hA2,a2⟩:=L.b l η;obtain⟨ab,V3,hA3,a6⟩:=L.c l o;refine Nk.bd (u _ c m r n s<|Qu.refl p.inv) λg b q=>?_;obtain⟨⟨v,rfl,w⟩,d,P,_⟩:=q;refine Nk.bd (u _ S hA2 a3 a2 b d) λg H q=>?_;obtain⟨⟨a4,rfl,hu⟩,R,q4,_⟩:=q;refine Nk.bd (u _ V3 hA3 ab a6 H R) λg B q=>?_;obtain⟨⟨y,rfl,hy⟩,q5,q6,_⟩:=q;exact Nk.bd (Vy q5.2.1 ((w.gr q4.gr).gr q6.gr) hy) λ_ s4 e=>Nk.fe<|F (q5.trans e) z
 refine Nk.ite (λo=>?_) λag=>?_
 .obtain⟨r,c,m,n⟩:=L.a l ù;refine Nk.bd (u _ c m r n s<|Qu.refl p.inv) λg b q=>?_;exact Nk.bd (ϊ:=λ_ t=>Qu N A s t) ⟨(show Qu N A s _ from ⟨q.2.1.1,q.2.1.2.1,q.2.1.2.2⟩),λx=>x⟩ λ_ H e=>Nk.fe<|F e z
 refine Nk.ite (λo=>?_) λah=>?_
 .obtain⟨r,c,m,n⟩:=L.a l ù;obtain⟨a8,ύ,hB,hW⟩:=L.ab l<|.inl o;refine Nk.bd (u _ c m r n s<|Qu.refl p.inv) λg b q=>?_;obtain⟨_,d,_,M⟩:=q;refine Nk.ite (λ_=>?_) λ_=>Nk.ite (λ_=>Nk.fe<|F d z) λhc=>?_
  .exact(hb _ f ύ (C j) b hB a8 ((p.qu d).su hW) W).mono (λg B h=>⟨d.trans h,λh=>absurd h z⟩) λv B h=>h.on d
  .obtain⟨a9,W2,a5,a7⟩:=L.ac l o hc;exact(hb _ f W2 (C j) b a5 a9 ((p.qu d).su a7) W).mono (λg B h=>⟨d.trans h,λh=>absurd h z⟩) λv B h=>h.on d
 refine Nk.ite (λo=>?_) λai=>?_
 .exact(hw i f D (C j) s l o p W).mono (λg B h=>⟨h,λh=>absurd h z⟩) λ_ _ h=>h
 refine Nk.ite (λo=>?_) λaj=>?_
 .obtain⟨r,c,m,n⟩:=L.a l ù;refine Nk.bd (u _ c m r n s<|Qu.refl p.inv) λg b q=>?_;obtain⟨⟨v,rfl,w⟩,d,_,_⟩:=q;exact⟨⟨L.ret l o,w,d.1,d.2.1,d.2.2⟩,λx=>x⟩
 .obtain⟨r,c,m,n⟩:=L.a l (by rw[show (aA N i).x=25 by omega];decide);refine Nk.bd (u _ c m r n s<|Qu.refl p.inv) λg b q=>Nk.fe<|F q.2.1 z
def E0e{j}{x}{s}{B}{q}{v}(h:Inv N A s.c)(b:s.c.S[j]?=C q)(c:q.o x=C v):Nk (jA j x) s (Qo s) B:=by
 refine Nk.c ?_;unfold Nj bR;simp only[b,Option.bind_some,c];exact⟨K,(h.ok.S j q b).1 x v c⟩
def zA{c}{t}{j}(h:c.T[j]?=C t)(b:1<=t.k/\t.k<=64/\(t.k=1\/t.k=2\/t.k=4\/t.k=8\/t.k=16\/t.k=32\/t.k=64)):aZ c ⟨t.k,0,[],C j⟩:=⟨θ,θ,b,t,h,K⟩
def ŵ(L:uX N a A){k}(i)(f)(v:Int->Prop)(j)(s)(P:A i f v)(a2:(aA N i).x=17)(M:(aA N (aA N i).a).x=6)(g:Hr N A v (C j) s)(hk:8*s.fu+3<=k+1):
 Nk ((rn N a G k (.v (aA N i).a)<|C j).bd λr=>(eY j i<|r1 r).bd λ_=>aF []) s (λc b=>sJ N A s c b/\Ii b.c.S i (C j)) Nb:=by
 obtain⟨D,F,R,Z⟩:=L.lt P a2;have hj:=g.jo j K;obtain⟨k,rfl⟩:∃n,k=n+1:=⟨k-1,W⟩;by_cases H:s.fu=0
 .simp_all[Nk,Nj,rn,X.bd,aU,Rr.Ev]
 obtain⟨k,rfl⟩:∃n,k=n+1:=⟨k-1,W⟩;generalize (aA N i).a=c at*;have hs:aU s=.ok () {s with fu:=s.fu-1}:=by unfold aU;rw[wY H]
 by_cases d:s.c.th=2000
 .simp_all[Nk,Nj,rn,X.bd,bX,bR,Rr.Ev,vI]
 have a8:=g.inv.ok.th;have z:Le s.c {s.c with th:=s.c.th+1}:=Le.same ⟨λ_ t d=>⟨t,d,K⟩,vQ _⟩ K;have a3:=g.inv.ok.of z.gr ⟨θ,η⟩ g.inv.ok.ca (λ_ _ d=>.inl d) λ_ _ hq=>.inl hq;have B:Le s.c {s.c with th:=s.c.th+1,T:=s.c.T++[⟨64,λ_=>none,[],c,C j⟩]}:=z.trans<|Le.same (W8 _) K;have a5:jP N {s.c with th:=s.c.th+1,T:=s.c.T++[⟨64,λ_=>none,[],c,C j⟩]} ⟨64,λ_=>none,[],c,C j⟩:=⟨.inr<|.inr K,(λ_ _ e=>η),(λ_ e=>η),g.jo.gr B.gr,θ,λ_=>⟨D.1,D.2.1,M⟩⟩;have a4:iE N {s.c with th:=s.c.th+1,T:=s.c.T++[⟨64,λ_=>none,[],c,C j⟩]}:=a3.ko a5;have a7:aZ {s.c with th:=s.c.th+1,T:=s.c.T++[⟨64,λ_=>none,[],c,C j⟩]} ⟨64,0,[],C (Q s.c.T)⟩:=⟨θ,θ,θ,⟨64,λ_=>none,[],c,C j⟩,θ,K⟩;have a6:Nk (rn N a G (k+1+1) (.v c)<|C j) s (λr b=>r=[⟨64,0,[],C (Q s.c.T)⟩]/\b.c={s.c with th:=s.c.th+1,T:=s.c.T++[⟨64,λ_=>none,[],c,C j⟩]}/\b.fu<=s.fu) Nb:=by
  rw[rn];refine Nk.bd (Nk.jv (ϊ:=λ_ b=>b={s with fu:=s.fu-1}) λ_=>K) λ_ s1 e=>?_;subst e;refine Nk.bd (ϊ:=λr b=>r=[⟨64,0,[],C (Q s.c.T)⟩]/\b.c={s.c with th:=s.c.th+1,T:=s.c.T++[⟨64,λ_=>none,[],c,C j⟩]}/\b.fu<=s.fu) ?_ λr p e=>?_
  .rw[rn];unfold Nk Nj;simp_all[X.bd,bX,bR,eL,aF,Rr.Ev,vI]
  .obtain⟨rfl,l,m⟩:=e;refine Nk.bd (Nk.lq (ϊ:=λu b=>u=⟨64,0,[],C (Q s.c.T)⟩/\b.c=p.c/\b.fu=p.fu) (.inr<|.inr<|.inr<|.inr<|.inr<|.inr K) λb l m=>⟨K,l,m⟩) λu s3 e=>?_;grind[Nk.fe]
 refine Nk.bd a6 λr s1 e=>?_;obtain⟨rfl,l,m⟩:=e;refine Nk.bd (ϊ:=λ_ b=>sJ N A s [] b/\Ii b.c.S i (C j)) ?_ λ_ p e=>Nk.fe e;refine Nk.c ?_;unfold Nj bR;have o:=B.trans<|JW j i ⟨64,0,[],C (Q s.c.T)⟩;have w:Ii ({s.c with th:=s.c.th+1,T:=s.c.T++[⟨64,λ_=>none,[],c,C j⟩],S:=s.c.S.modify j λq=>⟨λy=>if y=i then C ⟨64,0,[],C (Q s.c.T)⟩ else q.o y,q.up⟩}:Co).S i (C j):=by
  refine .here (q:=⟨λy=>if y=i then C ⟨64,0,[],C (Q s.c.T)⟩ else (s.c.S[j]).o y,(s.c.S[j]).up⟩) ?_ θ;simp only;rw[List.getElem?_modify,gQ hj];simp
 simp only[l];refine⟨⟨o,g.inv.to o (a4.ke j i a7) λn t d hk=>?_,m⟩,w⟩;simp only at d;obtain x|x:=Nat.lt_or_ge n (Q s.c.T)
 .grind
 .rw[List.getElem?_append_right x]at d;obtain e|e:=Nat.eq_zero_or_pos<|n-Q s.c.T
  .rw[e]at d;simp only[List.getElem?_cons_zero,zQ]at d;subst d;exact .inr ⟨f,F,R,λy hy=>(Z y hy).elim (λh=>(g.m9 y h).le o) λh=>h.1 ▸ w⟩
  grind
def Lt(L:uX N a A){a5}(hv:yK N a G A a5)(hs:IC N a G A a5)(hb:CS N a G A a5):PU N a G A (a5+1):=by
 intro i a3 ό sc s o hX F hk;rw[rn];dsimp only;have T:∀x j,A x a3 j->kY N x->(∀y,j y->ό y\/Nn y)->∀d,Qu N A s d->Nk (rn N a G a5 (.v x) sc) d (λk b=>(∃v,k=[v]/\aZ b.c v)/\Qu N A s b/\Le d.c b.c/\b.fu<s.fu) Nb:=λx j l f h3 d h4=>by
  have:=h4.2.2;exact(hv x a3 j sc d l f ((F.qu h4).su h3) W).mono (λk b q=>⟨q.1.1,h4.trans ⟨q.1.2.1,q.1.2.2.1,q.1.2.2.2⟩,q.1.2.1,W⟩) λ_ _ h=>h
 have R:∀{d:Ms} {v:Vl},Qu N A s d->aZ d.c v->Nk (aF [v]) d (Qv N A s) Nb:=λl f=>Nk.fe ⟨⟨_,K,f⟩,l⟩;have B:=Qu.refl F.inv;refine Nk.ite (λ_=>R B<|xC _ _) λ_=>?_;refine Nk.ite (λ_=>R B<|zE _<|by have:=L.tx i;omega) λ_=>?_;refine Nk.ite (λ_=>R B<|uP _ _) λ_=>?_;refine Nk.ite (λm=>?_) λ_=>?_
 .refine Nk.bd (Dx F<|L.var o<|.inl m) λa2 d e=>?_;obtain⟨rfl,q,v,hq,hv⟩:=e;refine Nk.bd (E0e F.inv hq hv) λu M e=>?_;obtain⟨rfl,hu⟩:=e;grind
 refine Nk.ite (λm=>?_) λ_=>?_
 .refine Nk.bd (JY (ϊ:=λ_ b=>Qu N A s b) B λ_ h=>h) λ_ d g=>?_;refine Nk.bd (OU (ϊ:=λn b=>Qu N A s b/\b.c.T[n]?=C ⟨64,λ_=>none,[],i,sc⟩) g ⟨.inr<|.inr K,(λ_ _ e=>η),(λ_ e=>η),(F.qu g).jo,θ,λ_=>⟨hX.1,hX.2.1,m⟩⟩ (λ_=>⟨a3,ό,o,λy H=>(F.m9 y H).le g.1⟩) λb l f=>⟨l,f⟩) λn M e=>?_;exact R e.1 (zA (t:=⟨64,λ_=>none,[],i,sc⟩) e.2 θ)
 refine Nk.ite (λm=>?_) λ_=>?_
 .obtain⟨r,j,w,z⟩:=L.a o η;refine Nk.bd (T _ j w r z s B) λk d q=>?_;obtain⟨⟨v,rfl,Z⟩,g,q2,aj⟩:=q;refine Nk.bd ((hs _ a3 ό sc d (L.l o<|.inl m) (F.qu g) W).mono (Q':=λk b=>(∀u∈k,aZ b.c u)/\Qu N A s b/\Le d.c b.c/\b.fu<s.fu) (λk b q=>⟨q.1.2,g.trans ⟨q.2.1,q.2.2.1,q.2.2.2⟩,q.2.1,by have:=q.2.2.2;omega⟩) λ_ _ h=>h) λP M q=>?_;obtain⟨a4,q3,q4,ak⟩:=q;refine Nk.bd (Nk.jm (ϊ:=λ_ b=>b=M/\(r1 [v]).g=64) λe=>⟨K,e⟩) λ_ D e=>?_;obtain⟨rfl,hg⟩:=e;have hg:v.g=64:=hg;refine Nk.bd (ϊ:=λ_ b=>Qu N A D b/\b.c.ca<=40/\b.c.T=D.c.T/\b.c.S=D.c.S/\b.fu=D.fu) ?_ λ_ s4 e=>?_
  .refine Nk.c ?_;unfold Nj bR;by_cases hc:D.c.ca=40
   .grind
   .simp only[wY hc];have:=q3.2.1.ok.ca;obtain⟨l,f⟩:=ZB q3.2.1 (x:=D.c.ca+1) W;exact⟨⟨l,f,vQ _⟩,W,trivial,trivial,trivial⟩
  obtain⟨q5,ah,eT,eS,eF⟩:=e;refine Nk.bd (Nk.kj (ϊ:=λt b=>b=s4/\∃a2:Nat,s4.c.T[a2]?=C t/\t.k=64) ((Z.gr q4.gr).gr q5.1.gr) (show 16<=v.g by omega) λa2 t _ f h3=>⟨K,a2,f,h3.trans hg⟩) λt s5 e=>?_;obtain⟨rfl,a2,ht,a8⟩:=e;have a9:=q5.2.1.ok.T a2 t ht;obtain⟨g',Vf,ab,ae⟩:=q5.2.1.fn a2 t ht a8;obtain⟨_,_,ag⟩:=a9.nd a8;obtain⟨af,Vb,aa,ad⟩:=L.fn ab ag;refine Nk.bd (ϊ:=Qv N A s5) ((Nk.cat (ϊ:=sJ N A s5) (B:=Bk N A τ s5) ?_ (λk b h=>⟨⟨vO,K,sH _⟩,h⟩) λu b h=>⟨⟨u,K,h.2.1⟩,h.2.2⟩):Nk _ _ _ Nb) λk S e=>?_
  .refine Nk.bd (YJ (ϊ:=λn b=>Qu N A s5 b/\Le s5.c b.c/\b.c.S[n]?=C ⟨λ_=>none,t.sc⟩/\b.fu=s5.fu) (Qu.refl q5.2.1) a9.sc λb l f h3 h4=>⟨l,f,h4,h3⟩) λn S e=>?_;obtain⟨u1,u2,u3,u4⟩:=e;have hn:=(Î.1 u3).1;refine Nk.bd (Ef _ P n S u1 hn λy H=>(((a4 y H).gr q5.1.gr).gr u2.gr)) λ_ s7 e=>?_;obtain⟨w1,w2,w3⟩:=e;obtain⟨sq,z1,z2,_⟩:=w2.sc n _ u3;have al:=w1.2.2;have ac:Hr N A Vb (C n) s7:=⟨w1.2.1,λy e=>η,λy H=>(ad y H).elim (λh=>.up z1<|by rw[z2];exact((ae y h).le u2).le w2) λh=>w3 y h⟩;exact(hb _ τ Vb (C n) s7 aa af ac W).mono (λk s8 h=>w1.trans h) λv s8 h=>h.on w1
  .obtain⟨⟨u,rfl,hu⟩,e1,e2,e3⟩:=e;have ai:=e2.ok.ca;obtain⟨l,f⟩:=ZB e2 (x:=S.c.ca-1) W;refine Nk.bd (ϊ:=λ_ b=>Qu N A S b) (Nk.c (show Qu N A S {S with c:={S.c with ca:=S.c.ca-1}} from ⟨l,f,vQ _⟩)) λ_ s7 e=>?_;exact R (((q3.trans q5).trans ⟨e1,e2,e3⟩).trans e)<|hu.gr e.1.gr
 refine Nk.ite (λm=>?_) λ_=>?_
 .obtain⟨r,j,w,z⟩:=L.a o η;refine Nk.bd (T _ j w r z s B) λk d q=>?_;obtain⟨⟨v,rfl,Z⟩,g,q2,_⟩:=q;refine Nk.bd (Eb g.2.1 Z) λu M e=>?_;obtain⟨rfl,hu⟩:=e;grind
 refine Nk.ite (λm=>?_) λ_=>?_
 .obtain⟨r,j,w,z⟩:=L.a o η;obtain⟨a7,V2,hA2,a6⟩:=L.b o η;refine Nk.bd (T _ j w r z s B) λk d q=>?_;obtain⟨⟨v,rfl,Z⟩,g,q2,_⟩:=q;refine Nk.bd (T _ V2 hA2 a7 a6 d g) λk M q=>?_;obtain⟨⟨y,rfl,H⟩,q3,q4,_⟩:=q;refine Nk.bd (Ds q3.2.1<|Z.gr q4.gr) λu D e=>?_;obtain⟨rfl,hu⟩:=e;grind
 refine Nk.ite (λm=>?_) λ_=>?_
 .refine Nk.bd (hs _ a3 ό sc s (λx r=>?_) F W) λP d q=>?_
  .obtain⟨y,H,rfl⟩:=kZ.1 r;exact L.o o m y H
  .obtain⟨⟨hl,a4⟩,g⟩:=q;refine Nk.bd (JY (ϊ:=λ_ b=>Qu N A s b/\Gr d.c b.c) g λ_ h=>⟨h,⟨λ_ t ht=>⟨t,ht,K⟩,vQ _⟩⟩) λ_ M e=>?_;refine Nk.bd (OU (t:=⟨16,parts ((aA N i).M.map λx=>(aA N x).text) P,[],0,none⟩) (ϊ:=λn b=>Qu N A s b/\b.c.T[n]?=C ⟨16,parts ((aA N i).M.map λx=>(aA N x).text) P,[],0,none⟩) e.1 ⟨.inl K,(λx v h=>?_),(λ_ e=>η),(λ_ e=>η),θ,λh=>absurd (show (16:Int)=64 from h) ζ⟩ (λh=>absurd (show (16:Int)=64 from h) ζ) λb l f=>⟨l,f⟩) λn D e=>?_
   .obtain h|⟨p,hp,rfl⟩:=MG _ _ x v h
    .grind
    .exact((a4 _ (List.of_mem_zip (a:=p.1) (b:=p.2) hp).2).gr e.2).gr<|W8 _
   .exact R e.1 (zA (t:=⟨16,parts ((aA N i).M.map λx=>(aA N x).text) P,[],0,none⟩) e.2 θ)
 refine Nk.ite (λm=>?_) λ_=>?_
 .refine Nk.bd (hs _ a3 ό sc s (L.l o<|.inr m) F W) λP d q=>?_;obtain⟨⟨hl,a4⟩,g⟩:=q;have am:=L.ls i;refine Nk.bd (JY (ϊ:=λ_ b=>Qu N A s b/\Gr d.c b.c) g λ_ h=>⟨h,⟨λ_ t ht=>⟨t,ht,K⟩,vQ _⟩⟩) λ_ M e=>?_;refine Nk.bd (OU (t:=⟨32,λ_=>none,P,0,none⟩) (ϊ:=λn b=>Qu N A s b/\b.c.T[n]?=C ⟨32,λ_=>none,P,0,none⟩) e.1 ⟨.inr<|.inl K,(λ_ _ h=>η),(λv h=>((a4 v h).gr e.2).gr<|W8 _),(λ_ e=>η),η,λh=>absurd (show (32:Int)=64 from h) ζ⟩ (λh=>absurd (show (32:Int)=64 from h) ζ) λb l f=>⟨l,f⟩) λn D e=>?_;exact R e.1 (zA (t:=⟨32,λ_=>none,P,0,none⟩) e.2 θ)
 refine Nk.ite (λm=>?_) λ_=>?_
 .obtain⟨r,j,w,z⟩:=L.a o η;obtain⟨a7,V2,hA2,a6⟩:=L.b o η;refine Nk.bd (T _ j w r z s B) λk d q=>?_;obtain⟨⟨v,rfl,Z⟩,g,q2,_⟩:=q;refine Nk.bd (T _ V2 hA2 a7 a6 d g) λk M q=>?_;obtain⟨⟨y,rfl,H⟩,q3,q4,_⟩:=q;refine Nk.bd Wl λu D e=>?_;obtain⟨rfl,hu⟩:=e;grind
 refine Nk.ite (λm=>?_) λ_=>?_
 .obtain⟨r,j,w,z⟩:=L.a o η;refine Nk.bd (T _ j w r z s B) λk d q=>?_;obtain⟨⟨v,rfl,Z⟩,g,q2,_⟩:=q;refine Nk.bd Wc λu M e=>?_;obtain⟨rfl,hu⟩:=e;grind
 refine Nk.ite (λm=>?_) λ_=>R B<|sH _;obtain⟨r,j,w,z⟩:=L.a o η;exact(T _ j w r z s B).mono (λk d q=>⟨q.1,q.2.1⟩) λ_ _ h=>h
def Du(L:uX N a A):∀k,PU N a G A k/\yK N a G A k/\IC N a G A k/\CS N a G A k/\ID N a G A k/\PQ N a G A k/\IB N a G A k
 |0=>⟨λ_ _ _ _ _ _ _ _ h=>W,λ_ _ _ _ _ _ _ _ h=>W,λ_ _ _ _ _ _ _ h=>W,λ_ _ _ _ _ _ _ _ h=>W,λ_ _ _ _ _ _ _ _ _ _ _ _ h=>W,λ_ _ _ _ _ _ _ _ h=>W,λ_ _ _ _ _ _ _ _ h=>W⟩
 |k+1=>by
  obtain⟨o,b,hs,d,e,c,g⟩:=Du L k;exact⟨Lt L b hs d,Lq o,LD b hs,Lu e,LF L c e,Ls L b d g λi f l j s n c m q p=>ŵ L i f l j s n c m q p,Lp L b d g⟩
def C6e(L:uX N a A)(b){i}(g:A i κ λ_=>False)(j:(aA N i).x=26):rn N a G (8*b+20) (.b i) none (eK b)≠.stk/\(∀v c,rn N a G (8*b+20) (.b i) none (eK b)≠.back v c)/\(rn N a G (8*b+20) (.b i) none<|eK b).Ev:=by
 have d:Inv N A (eK b).c:=⟨⟨(λi t h=>by grind[eK]),(λi q h=>by grind[eK]),by simp[eK],by simp[eK]⟩,λi t h=>by grind[eK]⟩;have h:=(Du (G:=G) L<|8*b+20).2.2.2.1 i κ (λ_=>False) none (eK b) g j ⟨d,(λ_ e=>η),λ_ h=>h.elim⟩ (by grind[eK]);obtain⟨h,f⟩:=h;unfold Nj at h;refine⟨λe=>η,λv c e=>?_,f λp k=>by cases k⟩;rw[e]at h;exact absurd h.1 θ
end
def Vs(a:List Fr)(j:Int):Prop:=∃f∈a,∃y,f y=C j
theorem OH{x}{j}:∀{a},bM x a=C j->Vs a j
 |[],h=>by grind[bM]
 |f::r,h=>by
  rw[bM]at h;cases e:bM x r with
  |some i=>
   rw[e]at h;cases h;obtain⟨b,d,c⟩:=OH e;exact⟨b,η,c⟩
  |none=>
   rw[e]at h;exact⟨f,θ,x,h⟩
def gD(E:Int->Prop)(c d:List Fr):Prop:=∀b f,c=b++[f]->∃a,d=b++[a]/\∀y j,a y=C j->f y=C j\/E j
theorem gD.refl(E)(a):gD E a a:=λ_ f e=>⟨f,e,λ_ _ h=>.inl h⟩
theorem gD.trans{E F}{a b c}(h:gD E a b)(k:gD F b c):gD (λj=>E j\/F j) a c:=λd f e=>by
 obtain⟨f1,rfl,g⟩:=h d f e;obtain⟨f2,rfl,i⟩:=k d f1 K;grind
def gD.mono{E F}{a b}(h:gD E a b)(i:∀j,E j->F j):gD F a b:=λc f e=>by
 obtain⟨f1,d,g⟩:=h c f e;grind
theorem gD.set(a:List Fr)(x)(i):gD (·=i) a (I2 a x i):=λb f e=>by
 subst e;refine⟨f.set x i,by grind[I2,kG],λy j c=>?_⟩;grind[Fr.set]
def gD.vs{E}{b c d}{f}(h:gD E b c)(e:b=d++[f]){j}(l:Vs c j):Vs b j\/E j:=by
 obtain⟨f1,rfl,k⟩:=h d f e;subst e;obtain⟨i,a,y,g⟩:=l;obtain a|a:=qW.1 a
 .exact .inl ⟨i,η,y,g⟩
 .rw[zW]at a;subst a;exact(k y j g).imp (λh=>⟨f,θ,y,h⟩) id
def lk(b:Nat):List Nt->uZ
 |[]=>[]
 |p::r=>(if p.k=16\/p.k=17 then [((b+nN p):Int)-1] else [])++lk (b+nN p) r
theorem zB:∀(a) (b),(∀p∈a,p.k≠16/\p.k≠17)->lk b a=[]
 |[],_,_=>K
 |p::r,b,h=>by
  have:=h p θ;rw[lk,wY W,zB r _ λq c=>h q η];rfl
theorem VV{k}{f}{n}{a}(h:Wn<|.nd k f n a)(i:k≠6)(g:k≠26):∀p∈a,p.k≠16/\p.k≠17:=by
 have b:=Y7 _ h;rw[Gd]at b;have hs:=b.1;intro p d;have c:p.k∈a.map õ:=List.mem_map_of_mem d;generalize a.map õ=j at hs c;unfold bO aP jM at hs;obtain⟨_,hs⟩|⟨_,hs⟩:=G8 hs
 .grind
 obtain⟨e,hs⟩|⟨_,hs⟩:=G8 hs
 .omega
 obtain⟨_,hs⟩|⟨_,hs⟩:=G8 hs
 .grind
 obtain⟨_,hs⟩|⟨_,hs⟩:=G8 hs
 .grind
 obtain⟨_,hs⟩|⟨_,hs⟩:=G8 hs
 .grind
 obtain⟨_,hs⟩|⟨_,hs⟩:=G8 hs<;>grind
theorem Br.jn{r:Br}{k}{b}{d}(h:r.and k=.ok b d):∃f1 a c,r=.ok f1 a/\k f1=.ok b c/\d=a++c:=by
 cases r with
 |bad e i=>grind[Br.and]
 |ok f1 a=>
  grind[Br.jf]
def Br.jw{r:Br}{a}{b}(h:r.pop=.ok a b):∃f1,r=.ok f1 b/\a=f1.dropLast:=by
 cases r with
 |bad e i=>grind[Br.pop]
 |ok f1 c=>
  grind[Br.pop]
def Br.kt{r:Br}{x}{j}{a}{b}(h:r.jk x j=.ok a b):∃f1,r=.ok f1 b/\a=I2 f1 x j:=by
 cases r with
 |bad e i=>grind[Br.jk]
 |ok f1 c=>
  grind[Br.jk]
mutual
theorem QO:∀(t:Nt) (a:List Fr) (b:Nat) (c:List Fr) (d:List<|Nat×Int),Wn t->dU a b t=.ok c d->gD (λj=>(t.k=16\/t.k=17)/\j=((b+nN t:Nat):Int)-1) a c
 |.ty _,a,b,c,d,_,h=>by
  grind[dU,gD.refl]
 |.nd k p n e,a,b,c,d,g,h=>by
  have q:dP e:=by rw[Wn]at g;exact g.2.2
  have L:=VV g;have B:((b+nN (.nd k p n e):Nat):Int)-1=((b+aB e:Nat):Int):=by rw[nN];omega
  rw[dU]at h;rw[B];show gD (λj=>(k=16\/k=17)/\j=_) a c;split at h
  .grind[gD.refl]
  split at h
  .split at h
   .grind
   .rename_i F j _;obtain⟨f1,u,v,f,s,rfl⟩:=Br.jn h;cases f;refine(uW e κ a b c v q s).mono λj l=>?_;grind[zB]
  split at h
  .rename_i D;split at h
   .grind
   .obtain⟨f1,f,rfl⟩:=Br.kt h;have w:=uW e κ _ b f1 d q f;grind[zB,gD,aB,vS,I2,gD.set,gD.refl,trans]
  split at h
  .grind[gD.set]
  split at h
  .obtain⟨f1,f,rfl⟩:=Br.jw h;obtain⟨y,rfl,_⟩:=uW e τ _ b f1 d q f a Fr.no K;grind[List.dropLast_concat,gD.refl]
  split at h
  .obtain⟨f1,f,rfl⟩:=Br.jw h;obtain⟨y,rfl,_⟩:=uW e κ _ b f1 d q f a Fr.no K;grind[List.dropLast_concat,gD.refl]
  .refine(uW e κ a b c d q h).mono λj l=>?_;grind[zB]
theorem uW:∀(e:List Nt) (i:Bool) (a:List Fr) (b:Nat) (c:List Fr) (d:List<|Nat×Int),dP e->bE i a b e=.ok c d->gD (λj=>j∈lk b e\/i=τ) a c
 |[],i,a,b,c,d,_,h=>by
  grind[bE,gD.refl]
 |.ty o::r,i,a,b,c,d,g,h=>by
  rw[bE]at h;refine(uW r i a b c d g.2 h).mono λj l=>?_;grind[lk,nN,id]
 |.nd k p n m::r,i,a,b,c,d,g,h=>by
  rw[bE]at h;obtain⟨f1,u,v,f,s,rfl⟩:=Br.jn h;have z:=uW r i f1 _ c v g.2 s;have w:gD (λj=>((k=16\/k=17)/\j=((b+nN (.nd k p n m):Nat):Int)-1)\/i=τ) a f1:=by
   split at f
   .rename_i H;have A:dP m:=by have:=g.1;rw[Wn]at this;exact this.2.2
    refine(uW m κ a b f1 u A f).mono λj _=>.inr ?_;grind
   .exact(QO (.nd k p n m) a b f1 u g.1 f).mono λj l=>.inl l
  refine(w.trans z).mono λj l=>?_;rw[lk];obtain (⟨x,G⟩|h)|(h|h):=l
  .have x:(Nt.nd k p n m).k=16\/(Nt.nd k p n m).k=17:=x;grind
  .grind
  .grind
  grind
end
mutual
def mO:Nt->Prop
 |.ty _=>True
 |.nd k _ _ a=>k=6\/(k≠24/\qJ a)
def qJ:List Nt->Prop
 |[]=>True
 |p::r=>mO p/\qJ r
end
theorem JZ:∀{b},qJ b->∀p∈b,mO p
 |[],_,p,a=>η
 |q::r,h,p,a=>by
  rw[qJ]at h;obtain rfl|a:=jW.1 a
  .grind
  .exact JZ h.2 p a
theorem JI{a}{x y}(e:a.map õ=[x,y]):∃t u,a=[t,u]/\t.k=x/\u.k=y:=by
 obtain⟨t,r,rfl,rfl,b⟩:=List.map_eq_cons_iff.1 e;obtain⟨u,q,rfl,rfl,c⟩:=List.map_eq_cons_iff.1 b;grind[List.map_eq_nil_iff]
theorem Hv{a}{x y z}(e:a.map õ=[x,y,z]):∃t u v,a=[t,u,v]/\t.k=x/\u.k=y/\v.k=z:=by
 obtain⟨t,r,rfl,rfl,b⟩:=List.map_eq_cons_iff.1 e;grind[JI]
def D7f{k}{f}{n}{a}(h:Wn<|.nd k f n a)(d:k∈[7,8,9,12,13,14,15,18,19,20,21,22,23,24,25]):∃t r,a=t::r/\aP t.k:=by
 have c:=Y7 _ h;rw[Gd]at c;have hs:=c.1;obtain⟨x,b,e,g⟩:∃x b,a.map õ=x::b/\aP x:=by
  simp at d;obtain rfl|rfl|rfl|rfl|rfl|rfl|rfl|rfl|rfl|rfl|rfl|rfl|rfl|rfl|rfl:=d<;>simp only[bO,Ö,or_self,or_false,or_true,if_true,if_false]at hs;all_goals first
   |(obtain⟨x,b,e,h,_⟩:=hs;exact⟨x,_,e,h⟩)
   |(obtain⟨x,e,h⟩:=hs;exact⟨x,_,e,h⟩)
   |grind
 cases a<;>grind
def D6f{k}{f}{n}{a}(h:Wn<|.nd k f n a)(c:k∈[9,12,19,20]):∃t u r,a=t::u::r/\aP t.k/\aP u.k:=by
 have b:=Y7 _ h;rw[Gd]at b;have hs:=b.1;obtain⟨x,y,d,e,i,j⟩:∃x y d,a.map õ=x::y::d/\aP x/\aP y:=by
  simp at c;obtain rfl|rfl|rfl|rfl:=c<;>simp only[bO,Ö,or_self,or_false,or_true,if_true,if_false]at hs<;>grind
 obtain⟨t,r,rfl,rfl,g⟩:=List.map_eq_cons_iff.1 e;grind[List.map_eq_cons_iff]
def Xv{c}{n}{b}(h:Wn<|.nd 20 c n b):∃t u v,b=[t,u,v]/\aP t.k/\aP u.k/\aP v.k:=by
 have a:=Y7 _ h;rw[Gd]at a;have hs:=a.1;simp only[bO,Ö,or_self,if_true,if_false]at hs;grind[Hv]
theorem Hb{c}{n}{b}(h:Wn<|.nd 22 c n b):∃t u v,b=[t,u,v]/\aP t.k/\u.k=26/\(v.k=26\/v.k=-1):=by
 have a:=Y7 _ h;rw[Gd]at a;have hs:=a.1;simp only[bO,Ö,or_self,if_true,if_false]at hs;grind[Hv]
theorem Xx{c}{n}{b}(h:Wn<|.nd 23 c n b):∃t u,b=[t,u]/\aP t.k/\u.k=26:=by
 have a:=Y7 _ h;rw[Gd]at a;have hs:=a.1;simp only[bO,Ö,or_self,if_true,if_false]at hs;grind[JI]
def Xu{c}{n}{b}(h:Wn<|.nd 17 c n b):∃t u,b=[t,u]/\jM t.k/\aP u.k:=by
 have a:=Y7 _ h;rw[Gd]at a;have hs:=a.1;simp only[bO,Ö,or_self,if_true,if_false]at hs;grind[JI]
def D8f{d}{n}{b}(h:Wn<|.nd 6 d n b):∃q t u,b=q++[t,u]/\(∀p∈q,p.k=16)/\jM t.k/\u.k=26:=by
 have a:=Y7 _ h;rw[Gd]at a;have hs:=a.1;simp only[bO,Ö,or_self,if_true,if_false]at hs;obtain⟨l,r,e,i,j⟩:=hs;obtain⟨q,s,rfl,f,c⟩:=List.map_eq_append_iff.1 e;obtain⟨t,u,rfl,rfl,g⟩:=JI c;grind[List.mem_map_of_mem]
section
variable{N:List Nd}{d:Int->Int}
def hJ(N:List Nd)(d:Int->Int):Aw:=λi f l=>∃k c n a b o g e m h,Em N b o (.nd k c n a)/\Wn (.nd k c n a)/\i=((b+aB a:Nat))/\(if k=26 then bE κ (g++[e]) b a else dU (g++[e]) b<|.nd k c n a)=.ok m h/\(∀p∈h,d p.1=p.2)/\(∀j,Vs (g++[e]) j->l j)/\(f=κ->mO (.nd k c n a))
def LJ{t}{b c}{f1 f2 i}{h}{e}{f}{g E}(m:Em N b c t)(v:Wn t)(D:1<=t.k)(l:dU f1 b t=.ok f2 e)(F:f1=i++[h])(r:∀p∈e,d p.1=p.2)(u:∀j,Vs f1 j->g j\/E j)(s:f=κ->mO t):Su (hJ N d) (bW b c t) f g E:=by
 cases t with
 |ty o=>cases o<;>simp[õ]at D
 |nd k z n x=>
  rw[Em.ix];by_cases B:k=26
  .subst B;rw[dU,wY ζ,wY ζ,wY ζ,wY ζ,wY ζ,yY K]at l;obtain⟨f3,G,-⟩:=Br.jw l;refine⟨Vs f1,⟨26,z,n,x,b,c,f1,Fr.no,f3,e,m,v,K,η,r,λj q=>?_,s⟩,u⟩;obtain⟨A,a,y,w⟩:=q;obtain a|a:=qW.1 a
   .exact⟨A,a,y,w⟩
   .rw[zW]at a;subst a;cases w
  .exact⟨Vs f1,⟨k,z,n,x,b,c,i,h,f2,e,m,v,K,η,r,λj q=>η,s⟩,u⟩
theorem cJ{i}(h:i<Q N):aA N i=N[i]:=by
 unfold aA;grind
theorem DP{t}{b g}(h:Em N b g t)(a:aP t.k):kY N (bW b g t):=by
 obtain⟨j,e,_,_,c,f,_⟩:=h.kd a.1;rw[e];refine⟨W,W,?_,?_⟩
 .rw[cJ c,f];exact a.1
 .rw[cJ c,f];exact a.2
theorem wW{t}{b a}(c:Em N b a t)(f:1<=t.k):(aA N<|bW b a t).x=t.k:=by
 obtain⟨j,e,_,_,g,h,_⟩:=c.kd f;grind[cJ]
def DB:∀(c:List Nt) (t:Nt) (g:List Nt) (e) (f l:List Fr) (b i) (m:List<|Nat×Int),(∀p∈c,p.k≠26\/e=κ)->(t.k≠26\/e=κ)->dP (c++t::g)->dM N b i (c++t::g)->1<=t.k->bE e f b (c++t::g)=.ok l m->
 ∃f1 f2 q,dU f1 (b+aB c) t=.ok f2 q/\(∀p∈q,p∈m)/\gD (·∈lk b c) f f1/\Em N (b+aB c) (i+cK c) t
 |[],t,g,e,f,l,b,i,m,_,a,v,s,u,h=>by
  cases t with
  |ty o=>cases o<;>simp[õ]at u
  |nd k x n w=>
   rw[uY,bE]at h;obtain⟨f1,D,L,r,F,rfl⟩:=Br.jn h;have A:(e&&k==26)=κ:=by
    obtain a|a:=a
    .have a:k≠26:=a;grind
    .grind
   rw[A]at r;exact⟨f,f1,D,r,λp B=>η,gD.refl _ _,s.head.1⟩
 |.ty o::c,t,g,e,f,l,b,i,m,y,a,v,s,u,h=>by
  rw[jZ,bE]at h;obtain⟨f1,f2,q,M,H,z,P⟩:=DB c t g e f l b (i+nT (.ty o)) m (λp B=>y p η) a v.2 (by have:=s.head.2;simp_all[nN,Ð]) u h;refine⟨f1,f2,q,by simp_all[aB,nN,Þ],H,z.mono λj R=>by grind[lk,nN],by simp_all[aB,nN,Þ,cK,þ]⟩
 |.nd k x n w::c,t,g,e,f,l,b,i,m,y,a,v,s,u,h=>by
  rw[jZ,bE]at h;obtain⟨G,D,L,r,F,rfl⟩:=Br.jn h;have A:(e&&k==26)=κ:=by
   obtain a|a:=y (.nd k x n w) θ
   .have a:k≠26:=a;grind
   .grind
  rw[A]at r;have S:=QO (.nd k x n w) f b G D v.1 r;obtain⟨f1,f2,q,M,H,z,P⟩:=DB c t g e G l (b+nN (.nd k x n w)) (i+nT (.nd k x n w)) L (λp B=>y p η) a v.2 s.head.2 u F;refine⟨f1,f2,q,by grind[aB,þ],λp B=>η,(S.trans z).mono λj R=>?_,by grind[aB,cK,þ]⟩;rw[lk];grind
def MV:∀(a:List Nt) (e) (n) (c:List Nt) (f i:List Fr) (b g) (l:List<|Nat×Int),(∀p∈a,p.k≠26)->dP (a++[.nd 26 e n c])->dM N b g (a++[.nd 26 e n c])->bE τ f b (a++[.nd 26 e n c])=.ok i l->
 ∃f1 f2 m,bE κ f1 (b+aB a) c=.ok f2 m/\(∀p∈m,p∈l)/\gD (·∈lk b a) f f1/\Em N (b+aB a) (g+cK a) (.nd 26 e n c)
 |[],e,n,c,f,i,b,g,l,_,r,q,h=>by
  rw[uY,bE]at h;obtain⟨f1,z,F,s,A,rfl⟩:=Br.jn h;exact⟨f,f1,z,s,λp y=>η,gD.refl _ _,q.head.1⟩
 |.ty o::a,e,n,c,f,i,b,g,l,t,r,q,h=>by
  rw[jZ,bE]at h;obtain⟨f1,f2,m,G,D,x,H⟩:=MV a e n c f i b (g+nT (.ty o)) l (λp y=>t p η) r.2 (by have:=q.head.2;simp_all[nN,Ð]) h;refine⟨f1,f2,m,by simp_all[aB,nN,Þ],D,x.mono λj L=>by grind[lk,nN],by simp_all[aB,nN,Þ,cK,þ]⟩
 |.nd k w u v::a,e,n,c,f,i,b,g,l,t,r,q,h=>by
  rw[jZ,bE]at h;obtain⟨B,z,F,s,A,rfl⟩:=Br.jn h;have P:k≠26:=t (.nd k w u v) θ;rw[show (τ&&k==26)=κ by grind]at s;have M:=QO (.nd k w u v) f b B z r.1 s;obtain⟨f1,f2,m,G,D,x,H⟩:=MV a e n c B i (b+nN (.nd k w u v)) (g+nT (.nd k w u v)) F (λp y=>t p η) r.2 q.head.2 A;refine⟨f1,f2,m,by grind[aB,þ],λp y=>η,(M.trans x).mono λj L=>?_,by grind[aB,cK,þ]⟩;rw[lk];grind
theorem Ś{k}{b}{n x}{l:uZ}(a:k∈[7,8,9,12,13,14,15,18,19,20,21,22,23,24,25]):(bV k b n<|x::l).a=x:=by
 simp at a;obtain rfl|rfl|rfl|rfl|rfl|rfl|rfl|rfl|rfl|rfl|rfl|rfl|rfl|rfl|rfl:=a<;>rfl
theorem Dq{k}{b}{n x y}{l:uZ}(a:k∈[9,12,19,20,22,23]):(bV k b n<|x::y::l).b=y:=by
 simp at a;obtain rfl|rfl|rfl|rfl|rfl|rfl:=a<;>rfl
theorem ME:∀(a) (b e) (p) (x) (r:uZ),bD b e a=p++x::r->∃c t f,a=c++t::f/\bD b e c=p/\x=bW (b+aB c) (e+cK c) t
 |[],b,e,p,x,r,h=>by simp_all[bD]
 |t::a,b,e,[],x,r,h=>by
  rw[bD,uY,List.cons.injEq]at h;exact⟨[],t,a,K,K,by grind[aB,cK]⟩
 |t::a,b,e,y::p,x,r,h=>by
  rw[bD,jZ,List.cons.injEq]at h;obtain⟨c,u,f,rfl,g,i⟩:=ME a _ _ p x r h.2;exact⟨t::c,u,f,K,by grind[bD],by grind[aB,cK,þ]⟩
def NV{c}{b f}{x}(h:x∈bD b f c):∃a t g,c=a++t::g/\x=bW (b+aB a) (f+cK a) t:=by
 obtain⟨p,r,e⟩:=List.append_of_mem h;grind[ME]
def PZ:∀(q) (b c) (j),j∈lk b q->∃a t e,q=a++t::e/\(t.k=16\/t.k=17)/\j=bW (b+aB a) (c+cK a) t
 |[],b,c,j,h=>by grind[lk]
 |p::q,b,c,j,h=>by
  rw[lk,qW]at h;obtain h|h:=h
  .split at h
   .rename_i f;rw[zW]at h;refine⟨[],p,q,K,f,?_⟩;cases p with
    |ty o=>cases o<;>simp[õ]at f
    |nd k m n l=>rw[h];rfl
   grind
  .obtain⟨a,t,e,rfl,g,i⟩:=PZ q (b+nN p) (c+nT p) j h;exact⟨p::a,t,e,K,g,by grind[aB,cK,þ]⟩
theorem dM.part{a e}{t}{b c}(h:dM N b c<|a++t::e):Em N (b+aB a) (c+cK a) t:=by
 have:=dM.at h (Q a) θ;grind
def ZF{a e}{t}{b c}:bW (b+aB a) (c+cK a) t∈bD b c (a++t::e):=by
 grind[vG,bD]
def hJ.view{i}{f}{r}(h:hJ N d i f r):∃k c n a b g m l q o,Em N b g (.nd k c n a)/\Wn (.nd k c n a)/\dP a/\dM N b g a/\i=((b+aB a:Nat))/\(aA N i).fl=bV k c n (bD b g a)/\(aA N i).x=k/\(if k=26 then bE κ (m++[l]) b a else dU (m++[l]) b<|.nd k c n a)=.ok q o/\(∀p∈o,d p.1=p.2)/\(∀j,Vs (m++[l]) j->r j)/\(f=κ->mO (.nd k c n a)):=by
 obtain⟨k,c,n,a,b,g,m,l,q,o,s,u,t,v,w,x,y⟩:=h;obtain⟨p1,z,p2⟩:=s.parts;have e:(aA N i).fl=bV k c n (bD b g a):=by rw[t,cJ z];exact p2
 exact⟨k,c,n,a,b,g,m,l,q,o,s,u,by grind[Wn],p1,t,e,(congrArg Nd.x e).trans<|J7 _ _ _ _,v,w,x,y⟩
def C7d{k}{j}{n}{e}{a c}{b}{f}(i:k≠5)(l:k≠16)(m:k≠17)(q:k≠6)(o:k≠26)(h:dU a b (.nd k j n e)=.ok c f):∃g,bE κ a b e=.ok c g/\∀p∈g,p∈f:=by
 rw[dU,wY i]at h;grind[Br.jn]
def wV{k}{o}{n}{q1 a}{t}{b i}{g z}{c}{y}{f}{q}(T:Wn<|.nd k o n<|q1++t::a)(x:dP<|q1++t::a)(M:dM N b i<|q1++t::a)(L:k≠5)(B:k≠16)(D:k≠17)(r:k≠6)(l:k≠26)
 (u:(if k=26 then bE κ (g++[c]) b (q1++t::a) else dU (g++[c]) b<|.nd k o n<|q1++t::a)=.ok z y) (R:∀p∈y,d p.1=p.2) (S:∀j,Vs (g++[c]) j->q j) (a2:f=κ->mO (.nd k o n<|q1++t::a)) (v:1<=t.k):Em N (b+aB q1) (i+cK q1) t/\Su (hJ N d) (bW (b+aB q1) (i+cK q1) t) f q Nn:=by
 rw[wY l]at u;obtain⟨a3,A,F⟩:=C7d L B D r l u;obtain⟨f1,f2,a4,G,H,m,s⟩:=DB q1 t a κ _ _ b i _ (λ_ _=>.inr K) (.inr K) x M v A;rw[zB q1 b λp w=>VV T r l p η]at m;obtain⟨Z,e,_⟩:=m g c K;refine⟨s,LJ s ((T7 _).1 x t θ) v G e (λp w=>R p<|F p<|H p w) (λj P=>.inl<|S j ?_) λhf=>?_⟩
 .obtain h|h:=m.vs K P<;>grind
 grind[mO,absurd,JZ]
def Dl{i}{f}{a}(u:hJ N d i f a)(e:(aA N i).x∈[7,8,9,12,13,14,15,18,19,20,21,22,23,24,25]):kY N (aA N i).a/\Su (hJ N d) (aA N i).a f a Nn:=by
 obtain⟨k,Z,n,S,b,F,M,H,L,T,P,c,m,o,R,p,rfl,q,s,j,l⟩:=u.view;obtain⟨t,r,rfl,w⟩:=D7f c e;have v:∀x∈[(7:Int),8,9,12,13,14,15,18,19,20,21,22,23,24,25],x≠5/\x≠16/\x≠17/\x≠6/\x≠26:=ζ;obtain⟨B,y,z,D,A⟩:=v _ e;obtain⟨g,h⟩:=wV (q1:=[]) c m o B y z D A q s j l w.1;simp only[aB,cK,Ð]at g h;have G:(aA N i).a=bW b F t:=(congrArg Nd.a p).trans (by grind[bD,Ś]);grind[DP]
def Ŀ{i}{f}{a}(s:hJ N d i f a)(e:(aA N i).x∈[9,12,19,20]):kY N (aA N i).b/\Su (hJ N d) (aA N i).b f a Nn:=by
 obtain⟨k,tx,n,Z,b,F,M,H,L,a3,P,c,m,o,R,p,rfl,q,r,j,l⟩:=s.view;obtain⟨t,u,a2,rfl,T,w⟩:=D6f c e;have v:∀x∈[9,12,19,20],x≠5/\x≠16/\x≠17/\x≠6/\x≠26/\x∈[(9:Int),12,19,20,22,23]:=ζ;obtain⟨B,y,z,D,A,S⟩:=v _ e;obtain⟨g,h⟩:=wV (q1:=[t]) c m o B y z D A q r j l w.1;simp only[aB,cK,Ð]at g h;have G:(aA N i).b=bW (b+nN t) (F+nT t) u:=(congrArg Nd.b p).trans (by grind[bD,Dq]);grind[DP]
def Ł{i}{f}{a}(s:hJ N d i f a)(w:(aA N i).x=20):kY N (aA N i).c/\Su (hJ N d) (aA N i).c f a Nn:=by
 obtain⟨k,R,n,M,b,y,D,A,B,P,F,c,m,o,G,p,e,q,r,j,l⟩:=s.view;rw[w]at e;subst e;obtain⟨t,u,v,rfl,H,L,x⟩:=Xv c;obtain⟨g,h⟩:=wV (q1:=[t,u]) c m o ζ ζ ζ ζ ζ q r j l x.1;simp only[aB,cK,Ð,<-þ]at g h;have z:(aA N i).c=bW (b+nN t+nN u) (y+nT t+nT u) v:=(congrArg Nd.c p).trans Ω;grind[DP]
def Tz{i}{f}{c}(w:hJ N d i f c)(a:(aA N i).x=22\/(aA N i).x=23):(aA N (aA N i).b).x=26/\Su (hJ N d) (aA N i).b f c Nn:=by
 obtain⟨k,P,n,x,b,y,D,A,B,M,F,l,m,o,G,p,q,s,v,h,j⟩:=w.view;obtain⟨t,u,r,rfl,L⟩:∃t u r,x=t::u::r/\u.k=26:=by
  obtain a|a:=a
  .grind[Hb]
  grind[Xx]
 have H:k=22\/k=23:=by rw[<-q];exact a
 obtain⟨e,g⟩:=wV (q1:=[t]) l m o W W W W W s v h j W;simp only[aB,cK,Ð]at e g;have z:(aA N i).b=bW (b+nN t) (y+nT t) u:=(congrArg Nd.b p).trans (by simp_all[bD,Dq]);grind[wW,trans]
def Ub{i}{f}{c}(w:hJ N d i f c)(y:(aA N i).x=22)(x:(aA N i).c≠-1):(aA N (aA N i).c).x=26/\Su (hJ N d) (aA N i).c f c Nn:=by
 obtain⟨k,T,n,R,b,z,G,D,F,S,H,e,g,p,L,q,h,r,s,l,m⟩:=w.view;rw[y]at h;subst h;obtain⟨t,u,v,rfl,M,P,a⟩:=Hb e;have j:(aA N i).c=bW (b+nN t+nN u) (z+nT t+nT u) v:=(congrArg Nd.c q).trans Ω;obtain a|a:=a
 .obtain⟨A,B⟩:=wV (q1:=[t,u]) e g p ζ ζ ζ ζ ζ r s l m W;simp_all[aB,cK,Ð,þ,wW,trans]
 .exfalso;apply x;rw[j];obtain⟨o,rfl⟩:=uA ((T7 _).1 g v θ)<|.inl a;cases o with
  |none=>rfl
  |some t=>grind[õ]
def ń{i}{f}{g}(z:hJ N d i f g)(B:(aA N i).x=7\/(aA N i).x=11):∀x∈(aA N i).M,kY N x/\Su (hJ N d) x f g Nn:=by
 obtain⟨k,G,n,c,b,m,R,M,P,a2,S,h,r,s,T,u,v,w,y,o,q⟩:=z.view;have l:k=7\/k=11:=by rw[<-v];exact B
 have A:∀p∈c,aP p.k:=by
  have j:=Y7 _ h;rw[Gd]at j;have hs:=j.1;intro p Z;obtain rfl|rfl:=l<;>simp only[bO,Ö,or_self,if_true,if_false]at hs
  .grind
  .grind
 have D:∀x∈(aA N i).M,x∈bD b m c:=λx a=>by
  have e:((aA N i).fl).M=(bV k G n<|bD b m c).M:=by rw[u]
  change (aA N i).M=_ at e;rw[e]at a;obtain rfl|rfl:=l
  .exact List.mem_of_mem_tail a
  .exact a
 intro x a;obtain⟨q1,t,q2,rfl,rfl⟩:=NV<|D x a;have F:=A t θ;obtain⟨H,L⟩:=wV h r s W W W W W w y o q F.1;grind[DP]
def ň{i}{f}{g}(A:hJ N d i f g)(F:(aA N i).x=10):∀x∈(aA N i).M,kY N (aA N x).a/\Su (hJ N d) (aA N x).a f g Nn:=by
 obtain⟨a2,tx,a3,c,b,m,R,M,P,a4,S,h,u,v,T,w,k,y,z,r,s⟩:=A.view;rw[F]at k;subst k;have B:∀p∈c,p.k=15:=by
  have l:=Y7 _ h;rw[Gd]at l;have hs:=l.1;simp only[bO,Ö,or_self,if_true,if_false]at hs;exact λp G=>hs _<|List.mem_map_of_mem G
 intro x a;have a:x∈bD b m c:=by
  have e:(aA N i).M=bD b m c:=congrArg Nd.M w;rw[e]at a;exact a
 obtain⟨q1,t,q2,rfl,rfl⟩:=NV a;have Z:=B t θ;obtain⟨L,H,o,q⟩:=wV h u v ζ ζ ζ ζ ζ y z r s W;obtain⟨k1,n,k2,k3⟩:=Dl o (by grind[wW]);exact⟨k1,n,k2,λj D=>(k3 j D).elim (q j) .inr⟩
def Ŕ{i}{f}{c}(p:hJ N d i f c)(r:(aA N i).x=5\/(aA N i).x=18):c (d i):=by
 obtain⟨k,R,n,h,b,M,x,v,w,P,y,m,B,D,F,G,o,a,e,z,A⟩:=p.view;have s:k=5\/k=18:=by rw[<-o];exact r
 rw[wY W,dU]at a;obtain rfl|rfl:=s
 .rw[yY K]at a;have t:h=[]:=by
   have g:=Y7 _ m;rw[Gd]at g;have hs:=g.1;simp only[bO,Ö,or_true,if_true]at hs;exact List.map_eq_nil_iff.1 hs
  subst t;split at a
  .grind
  .rename_i j q;cases a;have:=e (b,j) θ;grind[aB,OH]
 .rw[wY ζ,yY K]at a;split at a
  .grind
  .rename_i j q;obtain⟨f1,H,L,l,u,rfl⟩:=Br.jn a;cases l;have:=e (b+aB h,j) θ;grind[OH]
def Œ{i}{f}{a}(c:hJ N d i f a)(w:(aA N i).x=24):f=τ:=by
 obtain⟨k,A,n,x,b,y,h,e,g,z,j,o,p,q,r,s,t,u,v,l,m⟩:=c.view;grind[mO]
def Ŏ{i}{f}{m}(L:hJ N d i f m)(R:(aA N i).x=26):∀p x r,(aA N i).M=p++x::r->(17<=(aA N x).x/\(aA N x).x<=25)/\Su (hJ N d) x f m λj=>j∈p/\(aA N j).x=17:=by
 obtain⟨a6,Z,n,g,b,a,D,B,a2,a7,h1,F,o,q,h5,G,s,v,H,a3,a4⟩:=L.view;rw[R]at s;subst s;rw[yY K]at v;intro p x r z;have e:((aA N i).fl).M=(bV 26 Z n<|bD b a g).M:=by rw[G]
 change (aA N i).M=bD b a g at e;rw[e]at z;obtain⟨k,t,l,rfl,rfl,rfl⟩:=ME g b a p x r z;have w:∀p∈k++t::l,17<=p.k/\p.k<=25:=by
  have y:=Y7 _ F;rw[Gd]at y;have hs:=y.1;simp only[bO,Ö,or_self,if_true,if_false]at hs;exact λp c=>hs _<|List.mem_map_of_mem c
 have ht:=w t θ;obtain⟨f1,f2,a8,k1,k2,k3,S⟩:=DB k t l κ _ _ b a _ (λ_ _=>.inr K) (.inr K) o q W v;obtain⟨f',A,_⟩:=k3 D B K;refine⟨by grind[wW],LJ S ((T7 _).1 o t θ) W k1 A (λp c=>H p<|k2 p c) (λj P=>?_) λhf=>?_⟩
 .obtain h|h:=k3.vs K P
  .grind
  .refine .inr ?_;obtain⟨r1,u,T,rfl,hu,rfl⟩:=PZ k b a j h;have a5:=w u θ;have M:dM N b a (r1++u::(T++t::l)):=by simpa using q
   exact⟨ZF,by rw[wW M.part W];omega⟩
 grind[mO,absurd,JZ]
def Ue{i}{f}{m}(G:hJ N d i f m)(L:(aA N i).x=17):kY N (aA N i).a/\Su (hJ N d) (aA N i).a f m λj=>j=i/\(aA N (aA N i).a).x=6:=by
 obtain⟨a4,P,a5,ps,b,v,a,c,T,a6,Z,z,o,A,B,D,q,g,F,a2,a3⟩:=G.view;rw[L]at q;subst q;rw[wY ζ,dU,wY ζ,wY ζ,yY K]at g;obtain⟨t,u,rfl,M,l⟩:=Xu z;split at g
 .grind
 obtain⟨R,w,-⟩:=Br.kt g;obtain⟨f1,f2,a7,k1,k2,k3,s⟩:=DB [t] u [] κ _ _ b v _ (λ_ _=>.inr K) (.inr K) o A l.1 w;rw[zB [t] b λp e=>by rw[zW]at e;subst e;obtain h|h:=M<;>omega]at k3;have y:(aA N i).a=bW (b+aB [t]) (v+cK [t]) u:=(congrArg Nd.a D).trans Ω;have r:gD (λj=>j=i/\u.k=6) (a++[c]) (if vS [t,u] then I2 (a++[c]) P ((b+aB [t,u]:Nat):Int) else a++[c]):=by
  split
  .rename_i H;refine(gD.set _ _ _).mono λj k=>⟨k.trans B.symm,?_⟩;cases u<;>simp_all[aP,õ,vS,beq_iff_eq]
  .grind[gD.refl]
 obtain⟨f3,n,_⟩:=r a c K;rw[n]at k3;obtain⟨S,x,_⟩:=k3 a f3 K;rw[y];refine⟨DP s l,LJ s ((T7 _).1 o u θ) l.1 k1 x (λp e=>F p<|k2 p e) (λj k=>?_) λH=>?_⟩
 .obtain h|h:=k3.vs K k
  .rw[<-n]at h;obtain h|h:=r.vs K h<;>grind[wW,trans]
  grind
 grind[mO,absurd,JZ]
def Ud{i}{f}{s:Int->Prop}(hA:hJ N d i f s)(hk:(aA N i).x=6):(aA N (aA N i).a).x=26/\Su (hJ N d) (aA N i).a τ s (·∈(aA N i).M):=by
 obtain⟨a9,P,n,ps,b,c,y,x,a7,aa,h1,h2,r,A,h5,B,D,F,h9,a2,a8⟩:=hA.view;rw[hk]at D;subst D;rw[wY ζ,dU,wY ζ,wY ζ,wY ζ,wY ζ,yY K]at F;obtain⟨q,t,a5,rfl,hq,L,m⟩:=D8f h2;obtain⟨f0,u,-⟩:=Br.jw F;cases a5 with
 |ty o=>cases o<;>simp[õ]at m
 |nd k2 g n2 a=>
  have m:=m;subst m;have H:q++[t,.nd 26 g n2 a]=(q++[t])++[.nd 26 g n2 a]:=θ;rw[H]at u r A;obtain⟨f1,f2,a4,k1,k2,k3,k4⟩:=MV (q++[t]) g n2 a _ _ b c _ (λp k=>by
   obtain k|k:=qW.1 k
   .grind
   .rw[zW]at k;subst k;obtain h|h:=L<;>omega) r A u;obtain⟨T,e1,_⟩:=k3 (y++[x]) Fr.no K;have a3:(aA N i).M=bD b c q:=by
   have e:((aA N i).fl).M=(bV 6 P n<|bD b c<|q++[t,.nd 26 g n2 a]).M:=by rw[B]
   change (aA N i).M=(bD b c<|q++[t,.nd 26 g n2 a]).dropLast.dropLast at e;rw[e,vG,bD,bD,bD];simp[List.dropLast_append_of_ne_nil]
  have S:(aA N i).a=bW (b+aB (q++[t])) (c+cK (q++[t])) (.nd 26 g n2 a):=by
   have e:((aA N i).fl).a=(bV 6 P n<|bD b c<|q++[t,.nd 26 g n2 a]).a:=by rw[B]
   change (aA N i).a=(bD b c<|q++[t,.nd 26 g n2 a]).getLastD 0 at e;rw[e,H,vG<|q++[t]];simp[bD]
  refine⟨by grind[wW,õ],?_⟩;rw[S,Em.ix];refine⟨Vs f1,⟨26,g,n2,a,b+aB (q++[t]),c+cK (q++[t]),y++[x],T,f2,a4,k4,(T7 _).1 r _ θ,K,η,λp k=>h9 p<|k2 p k,λj G=>η,λh=>η⟩,λj G=>?_⟩;obtain h|h:=k3.vs K G
  .obtain⟨Z,l,a6,M⟩:=h;obtain l|l:=qW.1 l
   .exact .inl<|a2 j ⟨Z,l,a6,M⟩
   .rw[zW]at l;subst l;cases M
  .refine .inr ?_;rw[a3];obtain⟨r1,v,r2,w,hv,rfl⟩:=PZ (q++[t]) b c j h;obtain rfl|⟨r3,z,rfl⟩:=List.eq_nil_or_concat r2
   .have:=List.append_inj_right' (s₁:=q) (t₁:=[t]) (s₂:=r1) (t₂:=[v]) w K;simp at this;subst this;obtain h|h:=L<;>omega
   .have R:q++[t]=(r1++v::r3)++[z]:=by rw[w];simp
    obtain⟨rfl,_⟩:=List.append_inj' R K;exact ZF
def Ŋ(f:∀i,Q (aA N i).text<=30)(e:∀i,Q (aA N i).M<=1200):uX N d (hJ N d) where
 var:=Ŕ;a h hk:=Dl h (by grind[aA]);b:=Ŀ;c:=Ł;l:=ń;o:=ň;ab:=Tz;ac:=Ub;fn:=Ud;blk:=Ŏ;lt:=Ue;ret:=Œ;tx:=f;ls:=e
end
def Kr(a b:Nat)(l:List<|Nat×Int):Prop:=(∀p∈l,a<=p.1/\p.1<b)/\(l.map Prod.fst).Nodup
theorem Kr.nil(a b):Kr a b []:=⟨(λ_ h=>η),θ⟩
def Kr.more{a b c d}{l}(h:Kr a b l)(f:c<=a)(g:b<=d):Kr c d l:=⟨λp e=>by have:=h.1 p e;omega,h.2⟩
theorem Kr.app{a b c}{l k}(h:Kr a b l)(f:Kr b c k)(r:a<=b)(s:b<=c):Kr a c (l++k):=by
 refine⟨λp d=>?_,?_⟩
 .obtain d|d:=qW.1 d
  .have:=h.1 p d;omega
  .have:=f.1 p d;omega
 .rw[zY,List.nodup_append];refine⟨h.2,f.2,λx i y j e=>?_⟩;obtain⟨p,d,rfl⟩:=kZ.1 i;obtain⟨q,g,m⟩:=kZ.1 j;have n:=h.1 p d;have o:=f.1 q g;omega
def Kr.s9{a b c}{l k}(h:Kr b c l)(f:Kr a b k)(r:a<=b)(s:b<=c):Kr a c (l++k):=by
 refine⟨λp d=>?_,?_⟩
 .obtain d|d:=qW.1 d
  .have:=h.1 p d;omega
  .have:=f.1 p d;omega
 .rw[zY,List.nodup_append];refine⟨h.2,f.2,λx i y j e=>?_⟩;obtain⟨p,d,rfl⟩:=kZ.1 i;obtain⟨q,g,m⟩:=kZ.1 j;have n:=h.1 p d;have o:=f.1 q g;omega
theorem Kr.one(a b)(j)(h:a<b):Kr a b [(a,j)]:=⟨λp c=>η,θ⟩
mutual
theorem WK:∀(t:Nt) (c:List Fr) (b:Nat) (d:List Fr) (a:List<|Nat×Int),dU c b t=.ok d a->Kr b (b+nN t) a
 |.ty _,c,b,d,a,h=>by
  grind[dU,Kr.nil]
 |.nd k q n f,c,b,d,a,h=>by
  rw[dU]at h;rw[nN];split at h
  .grind[Kr.one]
  split at h
  .split at h
   .grind
   .obtain⟨f1,i,p,e,j,rfl⟩:=Br.jn h;cases e;have l:=uV f κ c b d p j;exact Kr.s9 (Kr.one (b+aB f) (b+(aB f+1)) _ W) l W W
  split at h
  .split at h
   .grind
   .obtain⟨f1,e,rfl⟩:=Br.kt h;exact(uV f κ _ b f1 a e).more (vQ _) W
  split at h
  .grind[Kr.nil]
  split at h
  .obtain⟨f1,e,rfl⟩:=Br.jw h;exact(uV f τ _ b f1 a e).more (vQ _) W
  split at h
  .obtain⟨f1,e,rfl⟩:=Br.jw h;exact(uV f κ _ b f1 a e).more (vQ _) W
  .exact(uV f κ c b d a h).more (vQ _) W
theorem uV:∀(f:List Nt) (g:Bool) (c:List Fr) (b:Nat) (d:List Fr) (a:List<|Nat×Int),bE g c b f=.ok d a->Kr b (b+aB f) a
 |[],g,c,b,d,a,h=>by
  grind[bE,Kr.nil]
 |.ty o::r,g,c,b,d,a,h=>by
  rw[bE]at h;rw[aB,nN,Þ];exact uV r g c b d a h
 |.nd k q n m::r,g,c,b,d,a,h=>by
  rw[bE]at h;obtain⟨f1,i,p,e,j,rfl⟩:=Br.jn h;have s:=uV r g f1 _ d p j;have l:Kr b (b+nN (.nd k q n m)) i:=by
   split at e
   .exact(uV m κ c b f1 i e).more (vQ _) (by grind[nN])
   .exact WK (.nd k q n m) c b f1 i e
  rw[aB,<-þ];exact l.app s W W
end
theorem Gl{i}:∀(l) (a),(∀p∈l,p.1≠i)->(dG a l).getD i 0=a.getD i 0
 |[],a,_=>K
 |p::l,a,h=>by
  show (dG (a.set p.1 p.2) l).getD i 0=_;rw[Gl l _ λq b=>h q η,lQ,lQ,List.getElem?_set_ne<|h p θ]
def ZW:∀(l) (b),(l.map Prod.fst).Nodup->(∀p∈l,p.1<Q b)->∀p∈l,(dG b l).getD p.1 0=p.2
 |[],_,_,_,p,a=>η
 |q::l,b,c,d,p,a=>by
  show (dG (b.set q.1 q.2) l).getD p.1 0=_;rw[bY,List.nodup_cons]at c;obtain rfl|a:=jW.1 a
  .grind[Gl,List.mem_map_of_mem,lQ,List.getElem?_set_self]
  .exact ZW l _ c.2 (λr e=>η) p a
def C3e{N:List Nd}{T:List Ty}{a:List Nt}{h:Int->Int}(b:bJ N T a){k:List Fr}{l:List (Nat×Int)}(c:dU [] 0 (.nd 26 [] 0 a)=.ok k l)(v:∀i:Nat,(dG (ó (Q N)<|-1) l).getD i 0≠-1->h (i:Int)=(dG (ó (Q N)<|-1) l).getD i 0)(w:∀p∈l,p.2≠-1)(x:qJ a):hJ N h ((Q N:Int)-1) κ λ_=>False:=by
 have d:=WK _ _ _ _ _ c;rw[dU,wY ζ,wY ζ,wY ζ,wY ζ,wY ζ,yY K]at c;obtain⟨f1,s,-⟩:=Br.jw c;have u:Q N=aB a+1:=by
  have:=congrArg Q b.ey;rw[lZ,R6,nN]at this;exact this
 refine⟨26,[],0,a,0,0,[],Fr.no,f1,l,⟨[],[],by simp[b.ey],K⟩,mM b.wn,W,η,λp g=>?_,λj m=>?_,λ_=>?_⟩
 .have o:=d.1 p g;rw[nN]at o;have t:=ZW l (ó (Q N)<|-1) d.2 (λq n=>by have:=d.1 q n;grind[nN]) p g;grind
 .obtain⟨f,e,y,r⟩:=m;simp at e;subst e;cases r
 grind[mO]
structure Es where
 kn:Gm
 lf:List<|Int×Int
def eX(a:Gm)(x:Int):Int:=(a x).getD 127
def bN(b:uZ)(a:Gm)(x v:Int):Gm:=if x∈b then a else vR a x v
def kX(a:Gm)(x:Int):Gm:=λu=>if u=x then none else a u
def eH(c:Cx)(i:Int):Int:=c.ts.getD i.toNat 0
def fY(c:Cx)(i:Nat):Int:=if (aA c.N i).x=16 then i else if (aA c.N i).x=5 then eH c i else-1
def pC(s:bZ):Int:=
 if s=[61,61]\/s=[60]\/s=[33] then 2 else if s=[45]\/s=[42] then 1 else if s=[116,121,112,101,111,102] then 4 else 0
def hY(n:Nd):Int:=
 if n.x=1 then 1 else if n.x=2 then 4 else if n.x=3 then 2 else if n.x=4 then 8 else if n.x=6 then 64
 else if n.x=10 then 16 else if n.x=11 then 32 else if n.x=12\/n.x=13 then pC n.text else 0
def kM(c:Cx)(g a:Gm)(i:Int):Int:=
 if (aA c.N i).x=5 then eX a (eH c i) else if hY (aA c.N i)≠0 then hY (aA c.N i) else (g i).getD 127
def dH(c:Cx)(g:Gm)(a:uZ)(i:Nat)(s:Es):Es:=
 match g i with
 |none=>s
 |C t=>⟨if fY c i=-1 then s.kn else bN a s.kn (fY c i)<|bits .and .i64 (eX s.kn<|fY c i) t,
  if (aA c.N i).x≠5\/bits .andNot .i64 (eX s.kn<|fY c i) t≠0 then s.lf++[((i:Int),t)] else s.lf⟩
def kR(c:Cx):Nat->Int->Gm->Gm
 |0,_,a=>a
 |f+1,i,a=>
  if (aA c.N i).x=6 then a
  else (aD<|aA c.N i).foldl (λk x=>kR c f x k)<|if (aA c.N i).x=18 then kX a (eH c i) else a
def gP(c:Cx)(f:Nat)(l:uZ)(a:Gm):Gm:=l.foldl (λk x=>kR c f x k) a
def cP(c:Cx)(g:Gm)(a:uZ)(i:Nat)(s:Es):Es:=
 if (aA c.N i).x=17 then ⟨bN a s.kn i<|kM c g s.kn (aA c.N i).a,s.lf⟩
 else if (aA c.N i).x=18 then ⟨bN a s.kn (eH c i)<|kM c g s.kn (aA c.N i).a,s.lf⟩
 else dH c g a i s
def bH(c:Cx)(g:Gm)(a:uZ):Nat->Int->Es->Es
 |0,_,s=>s
 |f+1,i,s=>cP c g a i.toNat (
  if (aA c.N i).x=6 then ⟨s.kn,((aD<|aA c.N i).foldl (λs x=>bH c g a f x s) ⟨λ_=>none,s.lf⟩).lf⟩
  else if (aA c.N i).x=22 then
   ⟨gP c f (aD<|aA c.N i).tail (bH c g a f (aA c.N i).a s).kn,
    (aD<|aA c.N i).tail.foldl (λl x=>(bH c g a f x ⟨(bH c g a f (aA c.N i).a s).kn,l⟩).lf) (bH c g a f (aA c.N i).a s).lf⟩
  else if (aA c.N i).x=23 then
   ⟨gP c f [(aA c.N i).a,(aA c.N i).b] s.kn,([(aA c.N i).a,(aA c.N i).b].foldl (λs x=>bH c g a f x s) ⟨gP c f [(aA c.N i).a,(aA c.N i).b] s.kn,s.lf⟩).lf⟩
  else (aD<|aA c.N i).foldl (λs x=>bH c g a f x s) s)
def gB(c:Cx)(g:Gm)(a:uZ)(f:Nat)(l:uZ)(s:Es):Es:=l.foldl (λs x=>bH c g a f x s) s
def qL(c:Cx)(g:Gm)(a:uZ)(f:Nat)(b:Gm)(l:uZ)(d:List<|Int×Int):List (Int×Int):=l.foldl (λl x=>(bH c g a f x ⟨b,l⟩).lf) d
def iW(c:Cx):Nat->Int->Nat
 |0,_=>0
 |f+1,i=>2+((aD<|aA c.N i).map<|iW c f).sum
def T8(c:Cx)(f:Nat)(l:uZ):Nat:=(l.map<|iW c f).sum
def gM(c:Cx)(g:Gm)(b:uZ)(f:Nat)(s:Es)(a:Nd):Es:=
 if a.x=6 then ⟨s.kn,(gB c g b f (aD a) ⟨λ_=>none,s.lf⟩).lf⟩
 else if a.x=22 then ⟨gP c f (aD a).tail (bH c g b f a.a s).kn,qL c g b f (bH c g b f a.a s).kn (aD a).tail (bH c g b f a.a s).lf⟩
 else if a.x=23 then ⟨gP c f [a.a,a.b] s.kn,(gB c g b f [a.a,a.b] ⟨gP c f [a.a,a.b] s.kn,s.lf⟩).lf⟩
 else gB c g b f (aD a) s
theorem qN(c)(g)(a)(f i:Nat)(s)(b)(d:aA c.N i=b):bH c g a (f+1) i s=cP c g a i (gM c g a f s b):=by
 subst d;rfl
def bP(g:Gm):Prop:=∀x v,g x=C v->0<=v/\v<128
def bP.lu{g}(h:bP g)(x):0<=eX g x/\eX g x<128:=by
 unfold eX;cases e:g x with
 |none=>simp
 |some v=>exact h x v e
theorem bP.set{g}(h:bP g)(x){v}(a:0<=v/\v<128):bP (vR g x v):=by
 intro y u e;unfold vR at e;split at e
 .grind
 .exact h y u e
def bP.lp{g}(h:bP g)(a)(x){v}(b:0<=v/\v<128):bP (bN a g x v):=by
 unfold bN;split
 .omega
 .exact h.set x b
def bP.del{g}(h:bP g)(x):bP (kX g x):=by
 intro y u e;unfold kX at e;split at e
 .grind
 .exact h y u e
theorem bP.no:bP λ_=>none:=λ_ _ e=>η
def bP.fg{c}:∀(f) (i) {a},bP a->bP (kR c f i a)
 |0,_,a,h=>h
 |f+1,i,a,h=>by
  rw[kR];split
  .exact h
  .have b:bP (if (aA c.N i).x=18 then kX a (eH c i) else a):=by
    split
    .exact h.del _
    .exact h
   generalize (if (aA c.N i).x=18 then kX a (eH c i) else a)=k at*;generalize aD (aA c.N i)=l;induction l generalizing k with
   |nil=>exact b
   |cons x r d=>exact d _<|bP.fg f x b
theorem bP.ob{c}(f):∀(l) {a},bP a->bP (gP c f l a)
 |[],_,h=>h
 |x::r,_,h=>bP.ob f r<|bP.fg f x h
def Jf(a b)(c:0<=a/\a<128)(d:0<=b/\b<128):0<=bits Õ IntKind.i64 a b/\bits Õ IntKind.i64 a b<128:=by
 obtain⟨a,rfl⟩:=È c.1;obtain⟨b,rfl⟩:=È d.1;have h:a&&&b<=a:=Nat.and_le_left;have e:(BitVec.ofNat IntKind.i64.bits a&&&BitVec.ofNat IntKind.i64.bits b).toNat=a&&&b:=by
  rw[BitVec.toNat_and,BitVec.toNat_ofNat,BitVec.toNat_ofNat,Nat.mod_eq_of_lt<|by grind[IntKind.bits],Nat.mod_eq_of_lt<|by grind[IntKind.bits]]
 grind[bits,IntKind.wrap,IntKind.bits,IntKind.signed]
def D4e(n):0<=hY n/\hY n<128:=by
 unfold hY pC;omega
def QI(c){g a}(b:bP g)(d:bP a)(i):0<=kM c g a i/\kM c g a i<128:=by
 unfold kM;split
 .exact d.lu _
 split
 .exact D4e _
 .exact b.lu i
def bP.ua{c}{g}{a}{i}{s}(b:bP g)(h:bP s.kn):bP (dH c g a i s).kn:=by
 unfold dH;cases e:g i with
 |none=>omega
 |some t=>
  simp only;split
  .omega
  .exact h.lp _ _<|Jf _ _ (h.lu _)<|b _ _ e
def bP.sy{c}{g}{b}{i}{s}(a:bP g)(h:bP s.kn):bP (cP c g b i s).kn:=by
 unfold cP;split
 .exact h.lp _ _<|QI c a h _
 split
 .exact h.lp _ _<|QI c a h _
 .exact a.ua h
def bP.el{c}{g}{b}(a:bP g):∀(f) (i) {s},bP s.kn->bP (bH c g b f i s).kn
 |0,_,s,h=>h
 |f+1,i,s,h=>by
  have key:∀(l:uZ) (s:Es),bP s.kn->bP (l.foldl (λs x=>bH c g b f x s) s).kn:=λl=>by
   induction l with
   |nil=>exact λs h=>h
   |cons x r d=>exact λs h=>d _<|bP.el a f x h
  rw[bH];refine bP.sy a ?_;split
  .exact h
  split
  .exact bP.ob f _<|bP.el a f _ h
  split
  .exact bP.ob f _ h
  .exact key _ _ h
def bP.qk{c}{g}{ct}(a:bP g)(f):∀(l) {s},bP s.kn->bP (gB c g ct f l s).kn
 |[],_,h=>h
 |x::r,_,h=>bP.qk a f r<|bP.el a f x h
theorem Z9{b}(a){p}{r}(h:1<=p.k):px b (p::r)=bW b a p::px (b+nN p) r:=by
 cases p with
 |ty o=>cases o<;>simp[õ]at h
 |nd k d n c=>rw[px,Em.ix]
theorem GY(n):aD n.fl=aD n:=rfl
theorem IE{b f}{k}{m}{n}{i}(y:Wn<|.nd k m n i):aD (bV k m n<|bD b f i)=px b i:=by
 have hs:=M7 y;clear y;cases hs with
 |n1 n h=>rfl
 |n2 m h=>rfl
 |n3 n h=>rfl
 |n4=>rfl
 |n5 m h=>rfl
 |n6 i a c j g q l v s=>
  obtain⟨o,rfl⟩:=uA q l;have w:bD b f (i++[.ty o,c])=bD b f i++[bW (b+aB i) (f+cK i)<|.ty o,bW (b+aB i+nN (.ty o)) (f+cK i+nT (.ty o)) c]:=by rw[vG];rfl
  have z:(bD b f<|i++[.ty o,c]).dropLast.dropLast=bD b f i:=by rw[w];simp
  have A:(bD b f<|i++[.ty o,c]).getLastD 0=bW (b+aB i+nN (.ty o)) (f+cK i+nT (.ty o)) c:=by rw[w];simp[List.getLastD_eq_getLast?]
  have e:aD (bV 6 [] 0<|bD b f<|i++[.ty o,c])=(bD b f<|i++[.ty o,c]).dropLast.dropLast++[(bD b f<|i++[.ty o,c]).getLastD 0]:=K;rw[e,z,A,SD,X9 _ _ _ λp u=>η,px,Z9 (f+cK i+nT (.ty o)) W];rfl
 |n7 a i j g q=>
  rw[Z9 f g.1,<-X9 _ (f+nT a) _ λp u=>(q p u).2.1];rfl
 |n8 m a r j g=>rw[Z9 f g.1];rfl
 |n9 a c j g q l=>rw[Z9 f g.1,Z9 (f+nT a) l.1];rfl
 |n10 i j g=>
  rw[<-X9 _ f _ λp u=>η];rfl
 |n11 i j=>
  rw[<-X9 _ f _ λp u=>(j p u).2.1];rfl
 |n12 m a c r j g q l=>rw[Z9 f g.1,Z9 (f+nT a) l.1];rfl
 |n13 m a r j g=>rw[Z9 f g.1];rfl
 |n14 a t j g q=>rw[Z9 f g.1];rfl
 |n15 m a r j g=>rw[Z9 f g.1];rfl
 |n16 m a r j g=>
  obtain⟨o,rfl⟩:=uA j g;rfl
 |n17 m a c r j g q l=>
  obtain⟨o,rfl⟩:=uA j g;rw[px,Z9 (f+nT (.ty o)) l.1];rfl
 |n18 m a r j g=>rw[Z9 f g.1];rfl
 |n19 m a c r j g q l=>rw[Z9 f g.1,Z9 (f+nT a) l.1];rfl
 |n20 a c d j g q l v s=>rw[Z9 f g.1,Z9 (f+nT a) l.1,Z9 (f+nT a+nT c) s.1];rfl
 |n21 a j g=>rw[Z9 f g.1];rfl
 |n22 a c d j g q l v s=>
  rw[Z9 f g.1,Z9 (f+nT a) W];obtain s|s:=s
  .have x:1<=d.k:=W;rw[Z9 (f+nT a+nT c) x];have B:bW (b+nN a+nN c) (f+nT a+nT c) d≠-1:=by
    cases d with
    |ty o=>cases o<;>simp[õ]at x
    |nd k m n i=>grind[Em.ix]
   exact wY B
  .obtain⟨o,rfl⟩:=uA v<|.inl s;cases o with
   |none=>rfl
   |some t=>grind[õ]
 |n23 a c j g q l=>rw[Z9 f g.1,Z9 (f+nT a) W];rfl
 |n24 a j g=>rw[Z9 f g.1];rfl
 |n25 a j g=>rw[Z9 f g.1];rfl
 |n26 i j=>
  rw[<-X9 _ f _ λp u=>η];rfl
section
variable{c:Cx}{g:Gm}{ct:uZ}
def XF{b d}{k}{e}{n}{a}(l:Wn<|.nd k e n a)(i:Em c.N b d<|.nd k e n a):aD (aA c.N<|bW b d<|.nd k e n a)=px b a/\(aA c.N<|bW b d<|.nd k e n a).x=k/\dM c.N b d a:=by
 obtain⟨h,j,f⟩:=i.parts;rw[Em.ix,B7 j,<-GY,f,IE l];exact⟨K,(congrArg Nd.x f).trans<|J7 _ _ _ _,h⟩
def Il:∀(f) (t) (b d),Wn t->1<=t.k->Em c.N b d t->iW c f (bW b d t)<=2*nN t
 |0,_,_,_,_,_,_=>wQ _
 |f+1,.ty o,_,_,_,h,_=>by cases o<;>simp[õ]at h
 |f+1,.nd k s n e,b,d,a,_,i=>by
  obtain⟨j,_,u⟩:=XF a i;rw[iW,j,nN];rw[Wn]at a;have w:=a.2.2;clear j i a;have key:∀(e:List Nt) (b d:Nat),dP e->dM c.N b d e->((px b e).map<|iW c f).sum<=2*aB e:=λe=>by
   induction e with
   |nil=>grind[px]
   |cons p r q=>
    intro b d a i;rw[dP]at a;obtain⟨l,m⟩:=i.head;have v:=q _ _ a.2 m;rw[aB];by_cases h:1<=p.k
    .rw[Z9 d h,bY,List.sum_cons];have:=Il f p b d a.1 h l;omega
    .cases p with
     |ty o=>
      simp_all[px,nN,Ð]
     |nd k s n x=>
      exfalso;have:=M7 a.1;cases this<;>simp[õ]at h
  grind
def Rn(g:Gm)(d b:Nat)(a:List<|Int×Int):Prop:=(∀p∈a,d<=p.1/\p.1<b/\g p.1=C p.2)/\a.Pairwise λp q=>p.1<q.1
theorem Rn.nil(b a):Rn g b a []:=⟨λ_ h=>η,.nil⟩
theorem Rn.app{a b c}{e f}(h:Rn g a b e)(k:Rn g b c f)(j:a<=b)(l:b<=c):Rn g a c (e++f):=by
 refine⟨λp d=>?_,List.pairwise_append.2 ⟨h.2,k.2,λp d q i=>?_⟩⟩
 .obtain d|d:=qW.1 d
  .obtain⟨x,y,z⟩:=h.1 p d;grind
  .obtain⟨x,y,z⟩:=k.1 p d;grind
 .have:=h.1 p d;have:=k.1 q i;omega
def AO(i)(s):∃a,(cP c g ct i s).lf=s.lf++a/\Rn g i (i+1) a:=by
 unfold cP;split
 .exact⟨[],θ,.nil _ _⟩
 split
 .exact⟨[],θ,.nil _ _⟩
 unfold dH;cases b:g i with
 |none=>exact⟨[],θ,.nil _ _⟩
 |some t=>
  simp only;split
  .refine⟨[((i:Int),t)],K,λp d=>?_,θ⟩;grind
  .exact⟨[],θ,.nil _ _⟩
def FJ:∀(f) (t) (b h) (s),Wn t->1<=t.k->Em c.N b h t->∃j,(bH c g ct f (bW b h t) s).lf=s.lf++j/\Rn g b (b+nN t) j
 |0,_,_,_,_,_,_,_=>⟨[],by simp[bH],.nil _ _⟩
 |f+1,.ty o,_,_,_,_,v,_=>by cases o<;>simp[õ]at v
 |f+1,.nd k F n i,b,h,s,m,_,H=>by
  obtain⟨G,Z,N⟩:=XF m H;have R:=m;rw[Wn]at R;have L:=R.2.2;clear R;have S:∀(i:List Nt) (b h:Nat) (s:Es),dP i->dM c.N b h i->∃j,((px b i).foldl (λs x=>bH c g ct f x s) s).lf=s.lf++j/\Rn g b (b+aB i) j:=λi=>by
   induction i with
   |nil=>exact λ_ _ _ _ _=>⟨[],by simp[px],.nil _ _⟩
   |cons p a4 M=>
    intro b h s m H;rw[dP]at m;obtain⟨z,r⟩:=H.head;rw[aB];by_cases v:1<=p.k
    .obtain⟨j,P,w⟩:=FJ f p b h s m.1 v z;obtain⟨u,A,y⟩:=M _ _ (bH c g ct f (bW b h p) s) m.2 r;refine⟨j++u,?_,w.app η W W⟩;grind[Z9,qZ]
    .cases p with
     |ty o=>
      obtain⟨u,A,y⟩:=M _ _ s m.2 r;simp_all[nN,Ð,þ,px]
     |nd k F n qs=>
      exfalso;have:=M7 m.1;cases this<;>simp[õ]at v
  have a3:∀(i:List Nt) (b h:Nat) (B:Gm) (l:List<|Int×Int),dP i->dM c.N b h i->∃j,(px b i).foldl (λl x=>(bH c g ct f x ⟨B,l⟩).lf) l=l++j/\Rn g b (b+aB i) j:=λi=>by
   induction i with
   |nil=>exact λ_ _ _ _ _ _=>⟨[],by simp[px],.nil _ _⟩
   |cons p a4 M=>
    intro b h B l m H;rw[dP]at m;obtain⟨z,r⟩:=H.head;rw[aB];by_cases v:1<=p.k
    .obtain⟨j,P,w⟩:=FJ f p b h ⟨B,l⟩ m.1 v z;obtain⟨u,A,y⟩:=M _ _ B (bH c g ct f (bW b h p) ⟨B,l⟩).lf m.2 r;refine⟨j++u,?_,w.app η W W⟩;grind[Z9,qZ]
    .cases p with
     |ty o=>
      obtain⟨u,A,y⟩:=M _ _ B l m.2 r;simp_all[nN,Ð,þ,px]
     |nd k F n qs=>
      exfalso;have:=M7 m.1;cases this<;>simp[õ]at v
  rw[Em.ix,qN c g ct f (b+aB i) s _ K,<-Em.ix (n:=n) (k:=k) (tx:=F) (tb:=h)];have h3:∃j,(gM c g ct f s<|aA c.N<|bW b h<|.nd k F n i).lf=s.lf++j/\Rn g b (b+aB i) j:=by
   generalize aA c.N (bW b h<|.nd k F n i)=D at*;unfold gM gB qL;split
   .rw[G];exact S i b h ⟨λ_=>none,s.lf⟩ L N
   split
   .rename_i T;have hs:=M7 m;rw[T]at Z;subst Z;cases hs with
    |n22 a q d w1 w2 w3 w4 w5 w6=>
     have z:px b [a,q,d]=bW b h a::px (b+nN a) [q,d]:=Z9 h w2.1;have r:aD D=D.a::(aD D).tail:=by
      unfold aD;simp only[T];by_cases hc:D.c=-1<;>simp[hc]
     rw[G,z]at r;simp only[List.tail_cons,List.cons.injEq,and_true]at r;rw[G,z,<-r,List.tail_cons];rw[dP]at L;obtain⟨m1,m2⟩:=N.head;obtain⟨j,P,w⟩:=FJ f a b h s w1 w2.1 m1;obtain⟨u,A,y⟩:=a3 [q,d] _ _ (bH c g ct f (bW b h a) s).kn (bH c g ct f (bW b h a) s).lf L.2 m2;refine⟨j++u,?_,w.app (by rw[þ]at y;exact y) W<|by grind[aB]⟩;grind
   split
   .rename_i a2;have e:[D.a,D.b]=px b i:=by
     rw[<-G];unfold aD;simp[a2]
    rw[e];exact S i b h ⟨_,s.lf⟩ L N
   .rw[G];exact S i b h s L N
  obtain⟨j,P,w⟩:=h3;obtain⟨u,A,y⟩:=AO (c:=c) (g:=g) (ct:=ct) (b+aB i)<|gM c g ct f s<|aA c.N<|bW b h<|.nd k F n i;rw[P]at A;exact⟨j++u,η,w.app (by grind[nN,þ]) W<|by grind[nN]⟩
end
theorem Rn.sub{g}:∀(n) {a},Rn g 0 n a->a.Sublist (U5 g n)
 |0,[],_=>.slnil
 |0,p::r,h=>by
  have:=h.1 p θ;omega
 |n+1,a,h=>by
  rw[U5];obtain rfl|⟨ys,p,e⟩:=List.eq_nil_or_concat a
  .simp
  .rw[List.concat_eq_append]at e;subst e;obtain⟨f,b⟩:=h;rw[List.pairwise_append]at b;have i:=f p θ;by_cases c:p.1=n
   .have d:Rn g 0 n ys:=⟨λq j=>η,b.1⟩;refine(Rn.sub n d).append ?_;have e:p=((n:Int),p.2):=by rw[<-c]
    rw[<-c,i.2.2];exact .refl _
   .have d:Rn g 0 n (ys++[p]):=⟨λq j=>η,List.pairwise_append.2 b⟩;simp_all[Rn.sub,trans,List.sublist_append_left]
def YD{N:List Nd}{T:List Ty}{b:List Nt}(a:bJ N T b)(l:List<|Nat×Int)(g)(c)(f):
 (bH (aQ N T l) g c f ((Q N:Int)-1) ⟨λ_=>none,[]⟩).lf.Sublist (U5 g (Q N))/\iW (aQ N T l) f (Q N-1)<=2400:=by
 have h:Em (aQ N T l).N 0 0 (.nd 26 [] 0 b):=⟨[],[],by rw[uY,iY];exact a.ey,K⟩;have i:Q N=nN (.nd 26 [] 0 b):=by
  have:=congrArg Q a.ey;rw[lZ,R6]at this;exact this
 have m:bW 0 0 (.nd 26 [] 0 b)=(Q N:Int)-1:=by rw[bW,i];simp
 have j:=mM a.wn;obtain⟨n,d,e⟩:=FJ (c:=aQ N T l) (g:=g) (ct:=c) f _ 0 0 ⟨λ_=>none,[]⟩ j (by simp[õ]) h;have k:=Il (c:=aQ N T l) f _ 0 0 j (by simp[õ]) h;rw[m]at d k;rw[d,uY];rw[Þ,<-i]at e;have:=a.fp;exact⟨e.sub,W⟩
def fH(N:List Nd):Nat->Nat->uZ->uZ
 |_,0,a=>a
 |e,c+1,a=>fH N (e-1) c<|eP N a<|e-1
theorem JR(N):∀(c d e) (a),fH N e (c+d) a=fH N (e-c) d (fH N e c a)
 |0,d,e,a=>by simp[fH]
 |c+1,d,e,a=>by
  rw[show c+1+d=(c+d)+1 by omega,fH,fH,JR N c d<|e-1,show e-1-c=e-(c+1) by omega]
theorem ND(N):∀j,mU N j=fH N (Q N) j (ó (Q N) 0)
 |0=>K
 |j+1=>by
  rw[mU,ND N j,JR N j 1,fH,fH,show Q N-j-1=Q N-1-j by omega]
theorem WG(v:Int):∀(l a:uZ) (q:Nat),(∀x∈l,0<=x/\x<Q a)->(bK a v l).getD q 0=if (q:Int)∈l then v else a.getD q 0
 |[],a,q,_=>Ω
 |x::l,a,q,h=>by
  have b:=h x θ;rw[bK,List.foldl_cons,<-bK,WG v l _ q λy c=>η];grind
theorem oW:∀(a) (b),∀x∈px b a,b<=x/\x<((b+aB a:Nat))
 |[],b,x,h=>by grind[px]
 |.ty o::r,b,x,h=>by
  rw[px]at h;have:=oW r b x h;grind[aB,nN]
 |.nd k c n a::r,b,x,h=>by
  rw[px,jW]at h;rw[aB,nN];obtain rfl|h:=h
  .omega
  .have:=oW r _ x h;grind[nN]
section
variable{N:List Nd}
theorem JS{a}(i):Q (eP N a i)=Q a:=by
 grind[eP,jC,zI]
theorem CD{b l}{k}{d}{n}{a}(i:Wn<|.nd k d n a)(f:Em N b l<|.nd k d n a){c}(m:Q c=Q N)(q):(eP N c<|b+aB a).getD q 0=if (q:Int)∈px b a then lT N c (b+aB a) else (jC N c<|b+aB a).getD q 0:=by
 obtain⟨_,g,e⟩:=f.parts;have h:aD (aA N ((b+aB a:Nat):Int))=px b a:=by
  rw[cJ g,<-GY,e];exact IE i
 have o:Q (jC N c<|b+aB a)=Q c:=by unfold jC;split<;>simp
 unfold eP;rw[h];exact WG _ _ _ q λx j=>by have:=oW a b x j;omega
mutual
theorem Ia:∀(t:Nt) (b g:Nat) (c:uZ),Wn t->1<=t.k->Em N b g t->Q c=Q N->b+nN t<Q N->
 Q (fH N (b+nN t) (nN t) c)=Q N/\(∀q,q<b\/b+nN t<=q+1->(fH N (b+nN t) (nN t) c).getD q 0=c.getD q 0)/\(c.getD (b+nN t-1) 0=-1->(∀q:Nat,b<=q->q<b+nN t->(aA N (q:Int)).x=24->(fH N (b+nN t) (nN t) c).getD q 0≠-1)->mO t)
 |.ty o,b,g,c,i,u,j,l,p=>by cases o<;>simp[õ]at u
 |.nd k f n a,b,g,c,i,u,j,l,p=>by
  obtain⟨H,L,e⟩:=j.parts;have T:dP a:=by rw[Wn]at i;exact i.2.2
  have a4:(aA N ((b+aB a:Nat):Int)).x=k:=by rw[cJ L];exact(congrArg Nd.x e).trans<|J7 _ _ _ _
  rw[nN]at p⊢;have G:jC N c (b+aB a)=c:=by unfold jC;rw[wY W]
  have B:fH N (b+(aB a+1)) (aB a+1) c=fH N (b+aB a) (aB a) (eP N c<|b+aB a):=by rw[fH,show b+(aB a+1)-1=b+aB a by omega]
  rw[B];obtain⟨Z,l2,l3⟩:=wO a b g (eP N c<|b+aB a) T H (by grind[JS]) W;have s:=CD i j l;have a5:∀q:Nat,q<b\/b+aB a<=q->(eP N c<|b+aB a).getD q 0=c.getD q 0:=λq y=>by
   rw[s q,wY λM=>by have:=oW a b _ M;omega,G]
  refine⟨Z,λq y=>?_,λP D=>?_⟩
  .grind
  .rw[mO];by_cases h6:k=6
   .omega
   .have R:b+(aB a+1)-1=b+aB a:=W;rw[R]at P;refine .inr ⟨λh=>?_,l3 (λx z=>?_) λq m w F=>D q m W F⟩
    .grind
    .have a6:=oW a b x z;rw[s x.toNat,yY<|by rw[show (x.toNat:Int)=x by omega];omega];simp_all[lT,wY]
theorem wO:∀(a:List Nt) (b g:Nat) (c:uZ),dP a->dM N b g a->Q c=Q N->b+aB a<Q N->
 Q (fH N (b+aB a) (aB a) c)=Q N/\(∀q,q<b\/b+aB a<=q->(fH N (b+aB a) (aB a) c).getD q 0=c.getD q 0)/\((∀x∈px b a,c.getD x.toNat 0=-1)->(∀q:Nat,b<=q->q<b+aB a->(aA N (q:Int)).x=24->(fH N (b+aB a) (aB a) c).getD q 0≠-1)->qJ a)
 |[],b,g,c,_,_,l,_=>⟨by grind[aB,fH],λq _=>Ω,λ_ _=>by grind[qJ]⟩
 |.ty o::r,b,g,c,i,j,l,p=>by
  have h:=wO r b (g+nT (.ty o)) c i.2 (by have:=j.head.2;simp_all[nN,Ð]) l (by grind[aB,nN]);simp_all[aB,nN,Þ,px,qJ,mO]
 |.nd k f n d::r,b,g,c,i,j,l,p=>by
  have u:1<=(Nt.nd k f n d).k:=by
   have hs:=i.1;have s:=Y7 _ hs;rw[Gd]at s;show 1<=k;have:=s.1;unfold bO at this;by_cases m:1<=k
   .omega
   .exfalso;rw[wY W,wY W,wY W,wY W,wY W,wY W,wY W,wY W,wY W,wY W,wY W,wY W,wY W,wY W]at this;omega
  rw[aB]at p⊢;have S:fH N (b+(nN (.nd k f n d)+aB r)) (nN (.nd k f n d)+aB r) c=fH N (b+nN (.nd k f n d)) (nN<|.nd k f n d) (fH N (b+nN (.nd k f n d)+aB r) (aB r) c):=by
   rw[Nat.add_comm (nN<|.nd k f n d)<|aB r,JR,show b+(aB r+nN (.nd k f n d))-aB r=b+nN (.nd k f n d) by omega,show b+(aB r+nN (.nd k f n d))=b+nN (.nd k f n d)+aB r by omega]
  rw[S];obtain⟨r1,r2,r3⟩:=wO r (b+nN (.nd k f n d)) (g+nT (.nd k f n d)) c i.2 j.head.2 l W;obtain⟨t1,t2,t3⟩:=Ia (.nd k f n d) b g (fH N (b+nN (.nd k f n d)+aB r) (aB r) c) i.1 u j.head.1 r1 W;refine⟨t1,λq y=>?_,λm w=>?_⟩
  .grind
  .rw[qJ];refine⟨t3 ?_ λq a1 A v=>w q a1 W v,r3 (λx z=>m x<|by grind[px]) λq a1 A v=>?_⟩
   .rw[r2 _<|by grind[nN]];have:=m ((b+aB d:Nat):Int) (by grind[px]);rw[tQ]at this;simp_all[nN,aB]
   grind
end
def D5e{T}{a}(b:bJ N T a)(h:∀i,i<Q N->(aA N i).x=24->(kC N).getD i 0≠-1):qJ a:=by
 have j:Q N=aB a+1:=by
  have:=congrArg Q b.ey;rw[lZ,R6,nN]at this;exact this
 have c:Em N 0 0 (.nd 26 [] 0 a):=⟨[],[],by simp[b.ey],K⟩;have l:=mM b.wn;obtain⟨d,f,e⟩:=c.parts;have u:(aA N ((0+aB a:Nat):Int)).x=26:=by rw[cJ f];exact(congrArg Nd.x e).trans<|J7 _ _ _ _
 have g:Q (ó (Q N) (0:Int))=Q N:=θ;have o:kC N=fH N (0+aB a) (aB a) (eP N (ó (Q N) 0)<|0+aB a):=by
  rw[kC,ND,j,fH,show aB a+1-1=0+aB a by omega]
 obtain⟨w,y,n⟩:=wO a 0 0 (eP N (ó (Q N) 0)<|0+aB a) ((T7 _).2 λp k=>(b.wn p k).1) d (by grind[JS]) W;refine n (λx m=>?_) λq r s t=>η;have v:=oW a 0 x m;rw[CD l c g x.toNat,yY η];unfold lT jC;grind
end
section
variable{N:List Nd}{T:List Ty}
theorem bJ.sub{a}(h:bJ N T a)(i)(b:i<Q N):Sub N T i:=by
 have c:Q N=aB a+1:=by
  have:=congrArg Q h.ey;rw[lZ,R6,nN]at this;exact this
 refine QV (.nd 26 [] 0 a) 0 0 (mM h.wn) ⟨[],[],by simp[h.ey],K⟩ ⟨[],[],by rw[gL,h.types];simp,K,GP⟩ i (wQ _) (by grind[nN])
def bJ.pg{v}(h:bJ N T v)(i)(q:i<Q N)(r:N[i].x=26):∀x∈N[i].M,0<=x/\x<Q N/\17<=(aA N x).x/\(aA N x).x<=25:=by
 obtain⟨b,w,k,L,n,a,m,u,rfl,F⟩:=h.sub i q;obtain⟨o,z,e⟩:=m.parts;have d:N[b+aB a].x=k:=(congrArg Nd.x e).trans<|J7 _ _ _ _;rw[r]at d;subst d;have l:∀p∈a,17<=p.k/\p.k<=25:=by
  have c:=Y7 _ u;rw[Gd]at c;have hs:=c.1;simp only[bO,Ö,or_self,if_true,if_false]at hs;exact λp s=>hs _<|List.mem_map_of_mem s
 intro x g;have f:N[b+aB a].fl.M=bD b w a:=by rw[e];rfl
 change N[b+aB a].M=_ at f;rw[f]at g;obtain⟨G,t,H,rfl,rfl⟩:=NV g;have D:=l t θ;obtain⟨j,y,_,_,A,B,_⟩:=o.part.kd (show 1<=t.k by omega);grind[cJ]
def Ĉ{d}{h}{l}{c}(g:bJ N T d)(n:dU [] 0 (.nd 26 [] 0 d)=.ok h l)(w:∀i,(dG (ó (Q N)<|-1) l).getD i 0≠-1->c i=(dG (ó (Q N)<|-1) l).getD i 0)(y:∀p∈l,p.2≠-1)(z:∀i,i<Q N->(aA N i).x=24->(kC N).getD i 0≠-1)(A:∀i,Q (aA N i).text<=30)(u:∀i,Q (aA N i).M<=1200)(G)(b):
 rn N c G (8*b+20) (.b<|Q N-1) none (eK b)≠.stk/\(∀v B,rn N c G (8*b+20) (.b<|Q N-1) none (eK b)≠.back v B)/\∃r,jL N c G b=C r/\vI r.2.2:=by
 have m:=C3e g n w y<|D5e g z;have t:(aA N<|Q N-1).x=26:=by
  have D:Q N=aB d+1:=by
   have:=congrArg Q g.ey;rw[lZ,R6,nN]at this;exact this
  have o:Em N 0 0 (.nd 26 [] 0 d):=⟨[],[],by simp[g.ey],K⟩;obtain⟨_,q,e⟩:=o.parts;rw[show Q N-1=((0+aB d:Nat):Int) by omega,cJ q];exact(congrArg Nd.x e).trans<|J7 _ _ _ _
 obtain⟨j,k,f⟩:=C6e (Ŋ A u) b m t;refine⟨j,k,?_⟩;unfold jL;cases e:rn N c G (8*b+20) (.b<|Q N-1) none (eK b) with
 |ok a s=>rw[e]at f;exact⟨_,K,f⟩
 |over x i s=>rw[e]at f;exact⟨_,K,f⟩
 |back v s=>grind
 |stk=>grind
end
def YY{l}{N}{T}{i}{x}(hs:(O8 l).2.1=0)(c:∀k,lB 0 ⟨0,[],[]⟩ (gW (O8 l).1<|k+60)=C (.ok ⟨i,N,T⟩ x))(a:Q N<=1200)(b:Q T<=300):dZ l (.inr (N,T)):=
 ⟨hs,⟨i,N,T⟩,x,⟨60,λf d=>by
  obtain⟨k,rfl⟩:∃k,f=k+60:=⟨f-60,W⟩;grind⟩,a,b,K,K⟩
section
variable{x:Int->Int->Prop}{S:Ms->Ms->Prop}
end
def TRes (l:bZ):(Int×Int) ⊕ List Ty→Prop
 |.inl (b,p)=>b≠0∧((O8 l).2.1=b∧((O8 l).2.2:Int)=p∨(O8 l).2.1=0∧(Ev (O8 l).1 (λr=>r.typ 0 ⟨0,[],[]⟩) (.fail b p)∨
  ∃ a x,Ev (O8 l).1 (λr=>r.typ 0 ⟨0,[],[]⟩) (.ok a x)∧(if (tk (O8 l).1 a.i).x=6 then (1200<Q a.N∨300<Q a.T)∧b=2∧p=0 else b=1∧p=((tk (O8 l).1 a.i).at':Int))))
 |.inr T=>(O8 l).2.1=0∧∃ a x,Ev (O8 l).1 (λr=>r.typ 0 ⟨0,[],[]⟩) (.ok a x)∧(tk (O8 l).1 a.i).x=6∧Q a.N≤1200∧Q a.T≤300∧T=a.T
theorem vJ.succ {b:Type} {φ c:Nat→Option b} {o:b} (h:vJ φ o) (e:∀ f,c (f+1)=φ f):vJ c o:=by
 obtain ⟨a,d⟩:=h;refine ⟨a+1,λf i=>?_⟩;obtain ⟨g,rfl⟩:∃ g,f=g+1:=⟨f-1,W⟩;grind
theorem vJ.pure {a:Type} {o:a}:vJ (λ_=>C o) o:=⟨0,λ_ _=>K⟩
def vJ.eq {b:Type} {φ c:Nat→Option b} {o:b} (h:vJ φ o) (e:∀ f,c f=φ f):vJ c o:=by
 obtain ⟨a,d⟩:=h;exact ⟨a,λf g=>(e f).trans<|d f g⟩
def Rt_ (t:Tr):Prop:=∀ r,Ř r→vJ (λf=>zV f<|fV t++r) (t,r)
theorem word_kind (k:Int) (a:1≤k) (b:k≤6):I1 (Z6 k)=k:=by
 have:k=1∨k=2∨k=3∨k=4∨k=5∨k=6:=W;obtain rfl|rfl|rfl|rfl|rfl|rfl:=this<;>decide
theorem rt_of_rm {t:Tr} {b:Bool} (h:RmQ t b):Rt_ t:=by
 intro r a;refine vJ.succ (φ:=λf=>Lj f<|fV t++r) ?_ (λf=>Ω);refine vJ.succ (φ:=λf=>(KZ f<|fV t++r).bind λp=>if fT p.2 [124] then (UN f p.2 [p.1]).bind λq=>C (.nd 10 [] q.1,q.2) else C p) ?_ (λf=>Ω);exact vJ.bind (h r a.2 λ_=>a.1) (vJ.pure.eq λf=>by simp [a.1])
def rm_plain (k:Int) (b:1≤k) (c:k≤6):RmQ (.nd k [] []) τ:=by
 intro r _ _;have a:k=1∨k=2∨k=3∨k=4∨k=5∨k=6:=W;have e:fV (.nd k [] [])=[(2,Z6 k)]:=by
  rw [fV,if_neg W,if_neg W,if_neg W,if_neg W]
 refine vJ.succ (φ:=λ_=>C (.nd k [] [],r)) vJ.pure λf=>?_;rw [e,KZ];have d:=word_kind k b c;have g:fT ([(2,Z6 k)]++r) [123]=κ:=by obtain rfl|rfl|rfl|rfl|rfl|rfl:=a<;>rfl
 have h:fT ([(2,Z6 k)]++r) [91]=κ:=by obtain rfl|rfl|rfl|rfl|rfl|rfl:=a<;>rfl
 have i:fT ([(2,Z6 k)]++r) [40]=κ:=by obtain rfl|rfl|rfl|rfl|rfl|rfl:=a<;>rfl
 grind[LM,EX]
def rdO_more (h:List bZ):∀ (a:List Tr) (b:List bZ) (d:List bZ) (c:List Tr) (r:List TT),Q b=Q a→(∀ x∈a,Rt_ x)→
 vJ (λf=>UO f (qU b a++sg [125]::r) d c) (.nd 7 (d++b)<|c++a,r)
 |[],b,d,c,r,e,_=>by
  have:=List.eq_nil_of_length_eq_zero W;grind[vJ.succ,vJ.pure,qU,UO,fT,sg,has]
 |t::a,[],_,_,_,e,_=>η
 |t::a,n::b,d,c,r,e,g=>by
  have i:=rdO_more h a b (d++[n]) (c++[t]) r η (λx k=>g x η);have j:=g t θ (sg [59]::(qU b a++sg [125]::r)) ⟨Ω,Ω⟩;refine vJ.succ (φ:=λf=>(zV f<|fV t++sg [59]::(qU b a++sg [125]::r)).bind λp=>if fT p.2 [59] then UO f p.2.tail (d++[n]) (c++[p.1]) else none) ?_ λf=>?_
  .refine vJ.bind j ?_;have:=i;grind[fT,sg,has]
  grind[UO,qU,fT,sg,has,LM,EX]
def rm_obj (b:List bZ) (a:List Tr) (c:Q b=Q a) (d:∀ x∈a,Rt_ x):RmQ (.nd 7 b a) τ:=by
 intro r _ _;refine vJ.succ (φ:=λf=>UO f (qU b a++sg [125]::r) [] []) (by simpa using rdO_more [] a b [] [] r c d) λf=>?_;grind[KZ,fV,fT,sg,has]
def rm_arr (t:Tr) (a:Rt_ t):RmQ (.nd 8 [] [t]) τ:=by
 intro r _ _;refine vJ.succ (φ:=λf=>(zV f<|fV t++sg [93]::r).bind λp=>if fT p.2 [93] then C (.nd 8 [] [p.1],p.2.tail) else none) ?_ λf=>?_
 .exact vJ.bind (a _ ⟨Ω,Ω⟩) (vJ.pure.eq λf=>Ω)
 grind[KZ,fV,Kc,fT,sg,has]
def tks_begin (t:Tr) (h:Wf t):∀ r,fT (fV t++r) [41]=κ:=by
 induction h with
 |plain k d b=>
  intro r;have e:fV (.nd k [] [])=[(2,Z6 k)]:=by
   rw [fV,if_neg W,if_neg W,if_neg W,if_neg W]
  rw [e];have c:k=1∨k=2∨k=3∨k=4∨k=5∨k=6:=W;obtain rfl|rfl|rfl|rfl|rfl|rfl:=c<;>rfl
 |obj g a _ _ _ _ _=>intro r;rfl
 |arr t _ _=>intro r;rfl
 |fn t i _ _ _ _=>intro r;rfl
 |uni a b _ f=>
  intro r;cases a with
  |nil=>grind
  |cons t a=>
   simp only [fV,tY];grind[fT,sg,has]
def rdL_more:∀ (a b:List Tr) (r:List TT),(∀ x∈a,Rt_ x∧Wf x)→
 vJ (λf=>LC f (Z8 (ê<|Q b=0) a++sg [41]::r) b) (b++a,r)
 |[],b,r,_=>by
  grind[vJ.succ,vJ.pure,LC,Z8,fT,sg,has]
 |t::a,b,r,c=>by
  have d:=rdL_more a (b++[t]) r (λx j=>c x η);have g:ê (Q (b++[t])=0)=κ:=θ;rw [g] at d;have h:Ř (Z8 κ a++sg [41]::r):=by
   cases a with
   |nil=>exact ⟨Ω,Ω⟩
   |cons u k=>exact ⟨Ω,Ω⟩
  have e:=(c t θ).1 _ h;have i:=tks_begin t (c t θ).2;refine vJ.succ (φ:=λf=>(zV f<|fV t++(Z8 κ a++sg [41]::r)).bind λp=>LC f p.2<|b++[p.1]) ?_ λf=>?_
  .refine vJ.bind e ?_;grind
  grind[LC,Z8,fT,sg,has]
def rm_fn (t:Tr) (a:List Tr) (h:Rt_ t) (g:∀ x∈a,Rt_ x∧Wf x):RmQ (.nd 9 []<|t::a) κ:=by
 intro r b c;have d:=rdL_more a [] (sg [61,62]::(fV t++r)) g;have e:=h r ⟨c K,b⟩;refine vJ.succ (φ:=λf=>Ll f<|Z8 τ a++sg [41]::sg [61,62]::(fV t++r)) ?_ λf=>?_
 .refine vJ.succ (φ:=λf=>(LC f (Z8 τ a++sg [41]::sg [61,62]::(fV t++r)) []).bind λp=>
   if fT p.2 [61,62] then (zV f p.2.tail).bind λq=>C (.nd 9 []<|q.1::p.1,q.2)
   else match p.1 with
    |[t]=>C (t,p.2)
    |_=>none) ?_ (λf=>Ω);refine vJ.bind (by simpa using d) ?_;refine vJ.eq (φ:=λf=>(zV f<|fV t++r).bind λq=>C (.nd 9 []<|q.1::a,q.2)) ?_ (λf=>Ω);exact vJ.bind e vJ.pure
 grind[KZ,fV,Kb,fT,sg,has]
theorem rm_brackets (t:Tr) (c:Rt_ t) (d:Wf t) (r:List TT) (b:fT r [61,62]=κ):vJ (λf=>KZ f<|sg [40]::(fV t++sg [41]::r)) (t,r):=by
 have a:=rdL_more [t] [] r (λx e=>η);refine vJ.succ (φ:=λf=>Ll f<|fV t++sg [41]::r) ?_ λf=>?_
 .refine vJ.succ (φ:=λf=>(LC f (fV t++sg [41]::r) []).bind λp=>
   if fT p.2 [61,62] then (zV f p.2.tail).bind λq=>C (.nd 9 []<|q.1::p.1,q.2)
   else match p.1 with
    |[t]=>C (t,p.2)
    |_=>none) ?_ (λf=>Ω);refine vJ.bind (x:=([t],r)) (by grind[Z8]) ?_;exact vJ.pure.eq λf=>η
 rfl
def rm_one (t:Tr) (i:Wf t) (g:Rt_ t) (c:t.k≠10→RmQ t (ê<|t.k≠9)) (a:Bool) (r:List TT) (b:fT r [61,62]=κ) (d:a=τ→fT r [124]=κ):vJ (λf=>KZ f<|one t a++r) (t,r):=by
 unfold one;split
 .grind[rm_brackets]
 .rename_i h;rw [not_or] at h;refine c h.1 r b λe=>?_;grind
def rdU_more:∀ (a b:List Tr) (r:List TT),Ř r→(∀ x∈a,Wf x∧Rt_ x∧(x.k≠10→RmQ x (ê<|x.k≠9)))→
 vJ (λf=>UN f (tY κ a++r) b) (b++a,r)
 |[],b,r,c,_=>by
  refine vJ.succ (φ:=λ_=>C (b,r)) (by grind[vJ.pure]) λf=>?_;rw [UN];simp [tY,c.1]
 |t::a,b,r,c,d=>by
  have j:=rdU_more a (b++[t]) r c (λx k=>d x η);have h:fT (tY κ a++r) [61,62]=κ:=by
   cases a with
   |nil=>simpa [tY] using c.2
   |cons u l=>rfl
  have g:=rm_one t (d t θ).1 (d t θ).2.1 (d t θ).2.2 (ê<|Q a=0) (tY κ a++r) h (λi=>by
   have:=List.eq_nil_of_length_eq_zero (by simpa using i);subst this;simpa [tY] using c.1);have e:tY κ (t::a)++r=sg [124]::(one t (ê<|Q a=0)++(tY κ a++r)):=by
   simp [tY,one]
  rw [e];refine vJ.succ (φ:=λf=>(KZ f<|one t (ê<|Q a=0)++(tY κ a++r)).bind λp=>UN f p.2<|b++[p.1]) ?_ λf=>?_
  .refine vJ.bind g ?_;grind
  rfl
def rt_uni (c:List Tr) (d:2≤Q c) (b:∀ x∈c,Wf x∧Rt_ x∧(x.k≠10→RmQ x (ê<|x.k≠9))):Rt_ (.nd 10 [] c):=by
 intro r i;match c,d,b with
 |t::u::a,_,b=>
  have g:=rdU_more (u::a) [t] r i (λx j=>b x η);have h:=rm_one t (b t θ).1 (b t θ).2.1 (b t θ).2.2 κ (tY κ (u::a)++r) Ω θ;have e:fV (.nd 10 []<|t::u::a)++r=one t κ++(tY κ (u::a)++r):=by
   simp [fV,tY,one]
  rw [e];refine vJ.succ (φ:=λf=>Lj f<|one t κ++(tY κ (u::a)++r)) ?_ (λf=>Ω);refine vJ.succ (φ:=λf=>(KZ f<|one t κ++(tY κ (u::a)++r)).bind λp=>if fT p.2 [124] then (UN f p.2 [p.1]).bind λq=>C (.nd 10 [] q.1,q.2) else C p) ?_ (λf=>Ω);refine vJ.bind h ?_;refine vJ.eq (φ:=λf=>(UN f (tY κ (u::a)++r) [t]).bind λq=>C (Tr.nd 10 [] q.1,q.2)) ?_ (λf=>Ω);exact vJ.bind g vJ.pure
def rt (t:Tr) (h:Wf t):Rt_ t∧(t.k≠10→RmQ t (ê<|t.k≠9)):=by
 induction h with
 |plain k f c=>
  have h:=rm_plain k f c;have e:ê ((Tr.nd k [] []).k≠9)=τ:=decide_eq_true (by show k≠9;omega);grind[rt_of_rm]
 |obj n d g _ _ _ b=>
  have h:=rm_obj n d g λx a=>(b x a).1;exact ⟨rt_of_rm h,λ_=>h⟩
 |arr t _ b=>
  have h:=rm_arr t b.1;exact ⟨rt_of_rm h,λ_=>h⟩
 |fn t o _ i m l=>
  have h:=rm_fn t o m.1 λx a=>⟨(l x a).1,i x a⟩;exact ⟨rt_of_rm h,λ_=>h⟩
 |uni d c j b=>
  exact ⟨rt_uni d c λx a=>⟨j x a,b x a⟩,λh=>absurd K h⟩
/-!### The reader reads the same -/
theorem isM_isS (L:List Tk) (i:Nat) (m:bZ):fT (tt L i) m=aL L i [m]:=by
 by_cases h:i<Q L
 .rw [UG h];rfl
 .rw [QK h];unfold aL;rw [BS h];rfl
theorem prL_map (d:Nat):∀ a,EU d a=a.map λp=>⟨uK p,p.k,pr d p⟩
 |[]=>K
 |p::r=>by rw [EU,prL_map d r];rfl
def atL_at {N:List Nd} {T:List Ty}:∀ {b:List Nt} {a:uZ} (_:kO N T b a) (j:Nat) (c:j<Q b) (d:j<Q a),At N T b[j] a[j]
 |[],_,_,_,c,_=>η
 |p::r,a,h,j,c,d=>by
  rw [kO] at h;obtain ⟨i,g,rfl,f,e⟩:=h;cases j with
  |zero=>grind
  |succ j=>exact atL_at e j η η
def len_szNL:∀ a:List Nt,Q a≤E7 a
 |[]=>Nat.le_refl _
 |p::r=>by
  have b:=A8b p;have c:=len_szNL r;grind[E7,List.length_cons]
inductive Lex:bZ→List TT→Prop
 |nil:Lex [] []
 |blank (l:bZ) (ts:List TT):Lex l ts→Lex (32::l) ts
 |line (l:bZ) (ts:List TT):Lex l ts→Lex (10::l) ts
 |tok (t l:bZ) (ts:List TT) (k:Int) (x:bZ):aY (t++l)=(k,x,Q t)→t≠[]→Lex l ts→Lex (t++l) ((k,x)::ts)
theorem first_blank (c:UInt8) (r:bZ) (h:blank c.toNat=τ):(aY<|c::r).2.2=0:=by
 have a:c=32∨c=10:=by
  simp only [blank,Bool.or_eq_true,decide_eq_true_eq] at h;obtain h|h:=h
  .left;exact UInt8.toNat_inj.1 h
  .right;exact UInt8.toNat_inj.1 h
 obtain rfl|rfl:=a<;>rfl
def sp_tok {t l:bZ} {k:Int} {x:bZ} (h:aY (t++l)=(k,x,Q t)) (a:t≠[]):sp blank (t++l)=0:=by
 cases t with
 |nil=>grind
 |cons c r=>
  grind[blank,sp,first_blank]
def lex_scanF {l:bZ} {i:List TT} (h:Lex l i):∀ (f:Nat) (L:bZ) (a:Nat) (b:List Tk),L.drop a=l→Q L-a<f→(J3 f L a b).2.1=0→
 (J3 f L a b).1.map (λt=>(t.x,t.text))=b.map (λt=>(t.x,t.text))++i++[(6,[])]:=by
 induction h with
 |nil=>
  intro f L a b c m d;obtain ⟨f,rfl⟩:∃ g,f=g+1:=⟨f-1,W⟩;have s:Q L≤a:=by
   have:=congrArg Q c;simp at this;omega
  grind[J3,sp]
 |blank l i _ p=>
  intro f L a b c m d;obtain ⟨f,rfl⟩:∃ g,f=g+1:=⟨f-1,W⟩;have j:L.drop (a+1)=l:=by
   rw [← List.drop_drop,c];rfl
  have e:J3 (f+1) L a b=J3 (f+1) L (a+1) b:=by
   rw [R9 f L a b,R9 f L (a+1) b,c,j];have:sp blank (32::l)=sp blank l+1:=by
    show (if blank (32:UInt8).toNat then sp blank l+1 else 0)=_;rw [if_pos ζ]
   rw [this];congr 1;omega
  grind
 |line l i _ p=>
  intro f L a b c m d;obtain ⟨f,rfl⟩:∃ g,f=g+1:=⟨f-1,W⟩;have j:L.drop (a+1)=l:=by
   rw [← List.drop_drop,c];rfl
  have e:J3 (f+1) L a b=J3 (f+1) L (a+1) b:=by
   rw [R9 f L a b,R9 f L (a+1) b,c,j];have:sp blank (10::l)=sp blank l+1:=by
    show (if blank (10:UInt8).toNat then sp blank l+1 else 0)=_;rw [if_pos ζ]
   rw [this];congr 1;omega
  grind
 |tok t l i k x n o _ p=>
  intro f L a b c m d;obtain ⟨f,rfl⟩:∃ g,f=g+1:=⟨f-1,W⟩;have s:Q t+Q l=Q L-a:=by
   have:=congrArg Q c;simp at this;omega
  have u:=List.length_pos_iff.2 o;have r:sp blank (L.drop a)=0:=by rw [c];exact sp_tok n o
  rw [YT f L a b r] at d ⊢;rw [c,n] at d ⊢;simp only at d ⊢;rw [if_neg W,if_neg W] at d ⊢;by_cases q:Q b=1000
  .grind
  .rw [if_neg q] at d ⊢;grind[List.drop_drop,List.drop_left]
def lex_scan {l:bZ} {b:List TT} (h:Lex l b) (a:(O8 l).2.1=0):tt (O8 l).1 0=b++[(6,[])]:=by
 unfold O8 at a ⊢;split at a
 .grind
 .rename_i c;rw [if_neg c];have:=lex_scanF h (Q l+1) l 0 [] K W a;grind[tt]
def Del (r:bZ):Prop:=∀ c,r.head?=C c→iA c.toNat=κ
def sp_app (p:Nat→Bool):∀ (w r:bZ),(∀ c∈w,p c.toNat=τ)→(∀ c,r.head?=C c→p c.toNat=κ)→sp p (w++r)=Q w
 |[],[],_,_=>K
 |[],c::r,_,h=>by grind[sp]
 |c::w,r,h,a=>by
  have:=sp_app p w r (λd b=>h d η) a;grind[sp]
def let_not_dig (n:Nat) (h:iP n=τ):fP n=κ:=by
 grind[iP,fP]
theorem first_name (w r:bZ) (i:w≠[]) (h:Q w≤20) (d:∀ c∈w,iA c.toNat=τ) (e:∀ c,w.head?=C c→iP c.toNat=τ) (f:Del r):
 aY (w++r)=(if tX w then 2 else 1,w,Q w):=by
 cases w with
 |nil=>grind
 |cons c w=>
  have a:=e c K;have g:=let_not_dig _ a;have b:=sp_app iA (c::w) r d f;rw [List.cons_append] at b;grind[aY,name]
theorem lex_name (b r:bZ) (c:List TT) (a:S6 b) (d:Del r) (h:Lex r c):Lex (b++r) ((1,b)::c):=by
 refine Lex.tok b r c 1 b ?_ a.1 h;rw [first_name b r a.1 a.2.1 a.2.2.2.1 a.2.2.2.2 d,a.2.2.1];simp
theorem lex_word (k:Int) (r:bZ) (a:List TT) (f:1≤k) (g:k≤6) (i:Del r) (h:Lex r a):Lex (Z6 k++r) ((2,Z6 k)::a):=by
 have d:k=1∨k=2∨k=3∨k=4∨k=5∨k=6:=W;have e:Z6 k≠[]∧Q (Z6 k)≤20∧(∀ c∈Z6 k,iA c.toNat=τ)∧(∀ c,(Z6 k).head?=C c→iP c.toNat=τ)∧tX (Z6 k)=τ:=by
  obtain rfl|rfl|rfl|rfl|rfl|rfl:=d<;>exact ⟨ζ,ζ,ζ,by intro c b;simp [Z6] at b;subst b;decide,ζ⟩
 refine Lex.tok (Z6 k) r a 2 (Z6 k) ?_ e.1 h;grind[first_name,Z6]
def tsigns:List bZ:=[[123],[125],[91],[93],[40],[41],[44],[59],[58],[124],[61,62]]
def lex_sg (m r:bZ) (b:List TT) (a:m∈tsigns) (h:Lex r b):Lex (m++r) (sg m::b):=by
 refine Lex.tok m r b 5 m ?_ ?_ h
 .simp only [tsigns,List.mem_cons,List.not_mem_nil,or_false] at a;obtain rfl|rfl|rfl|rfl|rfl|rfl|rfl|rfl|rfl|rfl|rfl:=a<;>simp [aY,rK,K8,oJ,fP,iP]
 .rintro rfl;exact absurd a ζ
def del_sg {m r:bZ} (b:m∈tsigns):Del (m++r):=by
 intro c a;simp only [tsigns,List.mem_cons,List.not_mem_nil,or_false] at b;obtain rfl|rfl|rfl|rfl|rfl|rfl|rfl|rfl|rfl|rfl|rfl:=b<;>(simp at a;subst a;decide)
theorem del_blank {r:bZ}:Del (32::r):=by
 intro c a;simp at a;subst a;decide
def Lx_ (t:Tr):Prop:=∀ r a,Del r→Lex r a→Lex (bU t++r) (fV t++a)
def lex_flds:∀ (a:List Tr) (b:List bZ) (r:bZ) (c:List TT),Q b=Q a→(∀ n∈b,S6 n)→(∀ x∈a,Lx_ x)→Lex r c→Lex (vK b a++r) (qU b a++c)
 |[],_,r,c,_,_,_,h=>by grind[vK,qU]
 |t::a,[],_,_,j,_,_,_=>η
 |t::a,n::b,r,c,j,d,e,h=>by
  have f:=lex_flds a b r c η (λm l=>d m η) (λx o=>e x η) h;have g:=e t θ _ _ (del_sg ζ)<|lex_sg [59] _ _ ζ f;have i:=lex_sg [58] _ _ ζ<|Lex.blank _ _ g;have k:=Lex.blank _ _ (lex_name n _ _ (d n θ) (del_sg ζ) i);grind[vK,qU]
def lex_params:∀ (a:List Tr) (c:Bool) (r:bZ) (b:List TT),(∀ x∈a,Lx_ x)→Del r→Lex r b→Lex (qV c a++r) (Z8 c a++b)
 |[],_,r,b,_,_,h=>by grind[qV,Z8]
 |t::a,c,r,b,d,i,h=>by
  have e:=lex_params a κ r b (λx l=>d x η) i h;have g:Del (qV κ a++r):=by
   cases a with
   |nil=>grind[qV]
   |cons u j=>
    have:Del ([44]++([32]++bU u++qV κ j++r)):=del_sg ζ;grind[qV]
  have f:=d t θ _ _ g e;cases c
  .have k:=lex_sg [44] _ _ ζ<|Lex.blank _ _ f;grind[qV,Z8]
  grind[qV,Z8]
theorem lex_union:∀ (a:List Tr) (c:Bool) (r:bZ) (b:List TT),(∀ x∈a,Lx_ x)→Del r→Lex r b→Lex (pP c a++r) (tY c a++b)
 |[],_,r,b,_,_,h=>by grind[pP,tY]
 |t::a,c,r,b,d,i,h=>by
  have e:=lex_union a κ r b (λx k=>d x η) i h;have g:Del (pP κ a++r):=by
   cases a with
   |nil=>grind[pP]
   |cons u l=>
    simp_all[pP,Bool.false_eq_true,if_false,ľ,List.cons_append,del_blank]
  have f:Lex ((if t.k=10∨t.k=9∧Q a≠0 then [40]++bU t++[41] else bU t)++(pP κ a++r)) ((if t.k=10∨t.k=9∧Q a≠0 then sg [40]::(fV t++[sg [41]]) else fV t)++(tY κ a++b)):=by
   split
   .have:=lex_sg [40] _ _ ζ (d t θ _ _ (del_sg ζ)<|lex_sg [41] _ _ ζ e);grind
   .exact d t θ _ _ g e
  cases c
  .have j:=Lex.blank _ _ (lex_sg [124] _ _ ζ<|Lex.blank _ _ f);grind[pP,tY]
  grind[pP,tY]
def lex_txt (t:Tr) (h:Wf t):Lx_ t:=by
 induction h with
 |plain k b d=>
  intro r a c h;have e:fV (.nd k [] [])=[(2,Z6 k)]:=by
   rw [fV,if_neg W,if_neg W,if_neg W,if_neg W]
  have q:bU (.nd k [] [])=Z6 k:=by
   rw [bU,if_neg W,if_neg W,if_neg W,if_neg W]
  grind[lex_word]
 |obj i g l s m _ f=>
  intro r a c h;have b:=lex_sg [125] _ _ ζ h;have d:Lex ((if Q i=0 then [] else [32])++([125]++r)) (sg [125]::a):=by
   split
   .grind
   .exact Lex.blank _ _ b
  have j:=lex_sg [123] _ _ ζ<|lex_flds g i _ _ l m f d;grind[bU,fV]
 |arr t _ f=>
  intro r a c h;have b:=lex_sg [91] _ _ ζ (f _ _ (del_sg ζ)<|lex_sg [93] _ _ ζ h);grind[bU,fV,UF,Kc]
 |fn t p _ _ o n=>
  intro r a c h;have b:=o r a c h;have d:=lex_sg [41] _ _ ζ (Lex.blank _ _<|lex_sg [61,62] _ _ ζ<|Lex.blank _ _ b);have j:=lex_sg [40] _ _ ζ (lex_params p τ _ _ n (del_sg ζ) d);simp_all[bU,fV,JH,Kb]
 |uni g _ _ f=>
  intro r a c h;grind[lex_union,bU,fV]
/-!### How much it is -/
mutual
theorem em_n:∀ (t:Nt),Wn t→∀ b c,∀ m∈iR b c t,0≤m.n∧m.n≤999999999
 |.ty _,_,b,c,m,a=>by grind[iR]
 |.nd k e n d,h,b,c,m,a=>by
  rw [Wn] at h;rw [iR,List.mem_append,List.mem_singleton] at a;obtain a|rfl:=a
  .exact emL_n d h.2.2 b c m a
  grind[DI,own]
theorem emL_n:∀ (d:List Nt),dP d→∀ b c,∀ m∈U2 b c d,0≤m.n∧m.n≤999999999
 |[],_,b,c,m,a=>by grind[U2]
 |p::r,h,b,c,m,a=>by
  rw [U2,List.mem_append] at a;obtain a|a:=a
  .exact em_n p h.1 b c m a
  .exact emL_n r h.2 _ _ m a
end
mutual
theorem sz_two:∀ t:Nt,Gd t→uD t≤2*nN t+1∧(1≤t.k→uD t≤2*nN t)
 |.ty o,_=>⟨by simp [uD],λh=>by cases o<;>simp [õ] at h⟩
 |.nd k e n a,h=>by
  rw [Gd] at h;have b:=szL_two a h.2;grind[B4e,uD,nN]
theorem szL_two:∀ a:List Nt,rH a→E7 a≤2*aB a+iI a
 |[],_=>by simp [E7]
 |.ty o::r,h=>by
  have b:=szL_two r h.2;grind[E7,aB,iI,uD,nN]
 |.nd k e n d::r,h=>by
  have b:=szL_two r h.2;have c:=h.1;rw [Gd] at c;have f:=szL_two d c.2;grind[B4e,E7,aB,iI,uD,nN]
end
/-!### The rows of types are short -/
theorem value_snoc (l:bZ) (c:UInt8):qA (l++[c])=10*qA l+(c.toNat:Int)-48:=by grind[qA]
theorem dec_all (u:Nat):(∀ c∈Lib.decDigits u,fP c.toNat=τ)∧qA (Lib.decDigits u)=u∧Lib.decDigits u≠[]∧(1≤u→(Lib.decDigits u).head?≠C 48):=by
 induction u using Nat.strongRecOn with
 |ind u f=>
  have j:∀ v,v<10→(UInt8.ofNat<|48+v).toNat=48+v:=λv l=>by simp;omega
  by_cases h:u<10
  .rw [Lib.decDigits,dif_pos h];refine ⟨λc d=>?_,?_,θ,λa=>?_⟩
   .grind[List.mem_singleton,fP]
   .grind[qA]
   .simp only [List.head?_cons,ne_eq,Option.some.injEq];intro e;have:=congrArg UInt8.toNat e;grind
  .rw [Lib.decDigits,dif_neg h];obtain ⟨a,g,i,b⟩:=f (u/10) W;refine ⟨λc d=>?_,?_,θ,λ_=>?_⟩
   .grind[fP]
   .grind[value_snoc]
   .have:=b W;cases k:Lib.decDigits (u/10)<;>grind
theorem dec_len (u:Nat) (h:u<1000000000):Q (Lib.decDigits u)≤9:=by
 rw [Lib.decDigits_length];by_cases b:Lib.nDigits u≤9
 .omega
 .exfalso;have c:∀ k v,v<10^(k+1)→Lib.nDigits v≤k+1:=by
   intro k;induction k with
   |zero=>intro v a;grind[Lib.nDigits_small]
   |succ k d=>
    intro v a;grind[Lib.nDigits_big]
  simp_all
theorem itoa_pos {n:Int} (h:0≤n):Lib.itoa n=Lib.decDigits n.toNat:=by simp_all[Lib.itoa,if_neg]
/-!### The lengths -/
def len_F:∀ (b:List Tr) (a:List bZ),(∀ n∈a,Q n≤20)→Q (vK a b)≤SL b
 |[],a,_=>by simp [vK]
 |t::r,a,h=>by
  have d:=len_F r a.tail λn c=>h n<|List.mem_of_mem_tail c;have e:Q (a.headD [])≤20:=by
   cases a with
   |nil=>simp
   |cons n a=>grind
  rw [vK,SL];grind
def len_C:∀ (b:List Tr) (a:Bool),Q (qV a b)≤SL b
 |[],_=>by simp [qV]
 |t::r,a=>by
  have c:=len_C r κ;grind[qV,SL]
theorem len_U:∀ (b:List Tr) (a:Bool),Q (pP a b)≤SL b
 |[],_=>by simp [pP]
 |t::r,a=>by
  have c:=len_U r κ;grind[bU,pP,SL,List.length_append]
theorem SL_le:∀ a:List Tr,(∀ x∈a,Q (bU x)+30≤40*fG x)→SL a≤40*S5 a
 |[],_=>by simp [SL]
 |t::r,h=>by
  have b:=SL_le r λx c=>h x η;grind[SL,S5]
def len_txt (t:Tr) (h:Wf t):Q (bU t)+30≤40*fG t:=by
 induction h with
 |plain k c d=>
  have f:bU (.nd k [] [])=Z6 k:=by rw [bU,if_neg W,if_neg W,if_neg W,if_neg W]
  have g:k=1∨k=2∨k=3∨k=4∨k=5∨k=6:=W;rw [f,fG,S5];obtain rfl|rfl|rfl|rfl|rfl|rfl:=g<;>decide
 |obj m b o _ i _ a=>
  have c:=SL_le b a;have d:=len_F b m λn j=>(i n j).2.1;grind[bU,vK,fG,List.length_append,List.length_cons,List.length_nil]
 |arr t _ a=>
  grind[bU,UF,fG,S5,List.length_append,List.length_cons,List.length_nil]
 |fn t e _ _ p l=>
  have c:=SL_le e l;have d:=len_C e τ;grind[bU,qV,JH,fG,S5,List.length_append,List.length_cons,List.length_nil]
 |uni b _ _ a=>
  grind[SL_le,len_U,bU,pP,fG]
def SP_ (M:Nat):List Pc→Nat
 |[]=>0
 |c::r=>Q c.s+4+2*M+SP_ M r
theorem SP_app (M:Nat):∀ a b:List Pc,SP_ M (a++b)=SP_ M a+SP_ M b
 |[],b=>by simp [SP_]
 |c::r,b=>by rw [List.cons_append,SP_,SP_,SP_app M r];omega
theorem len_join (M:Nat):∀ a:List Pc,Q (CN [44,32] a)≤SP_ M a
 |[]=>by simp [CN]
 |[c]=>by grind[CN,SP_]
 |c::x::r=>by
  have b:=len_join M<|x::r;grind[CN,SP_]
def len_wi (l:Nat) (c:Pc):Q (wi l c)≤Q c.s+2:=by
 grind[wi]
def len_colon (c:Pc):Q (QJ c)≤Q c.s+2:=by
 grind[QJ]
theorem len_mg (d:Nat):Q (mg d)=2*d:=by
 induction d<;>grind[mg,List.flatten_cons,List.length_append,List.length_cons,List.length_nil]
def len_lines (M:Nat) (d:Nat) (e:d≤M):∀ a:List Pc,Q (We d a)≤SP_ M a
 |[]=>by simp [We]
 |c::r=>by
  have b:=len_lines M d e r;rw [We] at b ⊢;rw [List.flatMap_cons,SP_];grind[len_mg]
def len_cs (M:Nat) (d:List Pc):Q (c0 d).s+Q (c1 d).s+Q (c2 d).s≤SP_ M d:=by
 obtain _|⟨a,_|⟨b,_|⟨c,r⟩⟩⟩:=d
 .grind[c0,c1,c2,zX]
 .grind[c0,c1,c2,zX,SP_]
 .grind[c0,c1,c2,zX,SP_]
 .simp [c0,c1,c2,SP_];omega
def len_last (M:Nat) (c:List Pc):Q (CN [44,32] c.dropLast.dropLast)+Q (c.dropLast.getLastD zX).s+Q (c.getLastD zX).s≤SP_ M c:=by
 have e:c=[]∨(∃ a,c=[a])∨∃ d a b,c=d++[a,b]:=by
  obtain rfl|⟨d,b,rfl⟩:=List.eq_nil_or_concat c
  .simp
  .rcases List.eq_nil_or_concat d with rfl|⟨ys,a,rfl⟩<;>grind
 obtain rfl|⟨a,rfl⟩|⟨d,a,b,rfl⟩:=e<;>grind[CN,zX,SP_,len_join,EY,UY,UX,SP_app]
def len_tail (M:Nat) (a:List Pc):Q (c0 a).s+Q (CN [44,32] a.tail)≤SP_ M a:=by
 cases a<;>grind[c0,zX,CN,len_join,List.getD_cons_zero,List.tail_cons,SP_]
def len_bool (b:Bool):Q (Lib.formatBool b)≤5:=by cases b<;>decide+kernel
def len_itoa (n:Int) (h:0≤n∧n≤999999999):Q (Lib.itoa n)≤9:=by
 grind[itoa_pos,dec_len]
def len_ite {c:Prop} [Decidable c] {a b:bZ} {n:Nat} (d:Q a≤n) (e:Q b≤n):Q (if c then a else b)≤n:=η
def len_prE (M:Nat) (k:Int) (b:bZ) (n:Int) (a:List Pc) (r:Q b≤30) (e:0≤n∧n≤999999999):Q (Lm k b n a)≤SP_ M a+60:=by
 have m:=len_cs M a;have o:=len_last M a;have p:=len_tail M a;have q:=len_join M a;have c:=len_bool<|n==1;have d:=len_itoa n e;have a1:=len_wi 5<|c0 a;have f:=len_wi 4<|c0 a;have g:=len_wi (if jO k b=1 then 2 else jO k b)<|c0 a;have h:=len_wi (jO k b+1)<|c1 a;have i:=len_colon<|c0 a;have j:=len_colon<|a.dropLast.getLastD zX;have l:Q (if b=[116,121,112,101,111,102] then [32] else ([]:bZ))≤1:=by split<;>decide
 unfold Lm;generalize Lib.itoa n=I at d ⊢;generalize Lib.formatBool (n==1)=B at c ⊢;repeat' (refine len_ite ?_ ?_)
 all_goals (first|omega|(simp only [List.length_append,List.length_cons,List.length_nil];omega))
def len_prS (M d:Nat) (c:d+1≤M) (k:Int) (b:bZ) (a:List Pc) (i:Q b≤30):Q (UP d k b a)≤SP_ M a+60+2*M:=by
 have h:=len_cs M a;have a1:=len_wi 5<|c0 a;have e:=len_colon<|c0 a;have f:=len_lines M (d+1) c a;have g:=len_mg d;unfold UP;repeat' (refine len_ite ?_ ?_)<;>grind[List.length_append,List.length_cons,List.length_nil]
mutual
theorem len_pr (M b:Nat) (f:200+4*M≤b):∀ (t:Nt) (d:Nat),Wn t→d+uD t≤M→Q (pr d t)+4+2*M≤b*(uD t+nT t)
 |.ty none,d,_,_=>by
  grind[pr,uD,nT,List.length_nil]
 |.ty<|C t,d,c,_=>by
  have h:=len_txt t c;have i:b*fG t ≥ 40*fG t:=Nat.mul_le_mul_right _ W;grind[pr,uD,nT]
 |.nd k g n a,d,c,l=>by
  rw [Wn] at c;rw [uD] at l;have j:=Wu c.2.1;have e:b*(uD (.nd k g n a)+nT (.nd k g n a))=b*(E7 a+cK a)+b:=by
   rw [uD,nT,show E7 a+1+cK a=E7 a+cK a+1 by omega,Nat.mul_add,Nat.mul_one]
  rw [e,pr];split
  .have h:=len_prL M b f a (d+1) c.2.2 W;have i:=len_prS M d W k g (EU (d+1) a) j.1;omega
  split
  .have h:=len_prL M b f a d c.2.2 W;have i:=len_prE M k g n (EU d a) j.1 j.2;omega
  .have h:=len_prL M b f a d c.2.2 W;have i:=len_prS M d W k g (EU d a) j.1;omega
theorem len_prL (M b:Nat) (f:200+4*M≤b):∀ (a:List Nt) (d:Nat),dP a→d+E7 a≤M→SP_ M (EU d a)≤b*(E7 a+cK a)
 |[],d,_,_=>by grind[EU,SP_]
 |p::r,d,c,l=>by
  rw [E7] at l;have h:=len_pr M b f p d c.1 W;have i:=len_prL M b f r d c.2 W;rw [EU,SP_,E7,cK,show uD p+E7 r+(nT p+cK r)=(uD p+nT p)+(E7 r+cK r) by omega,Nat.mul_add];grind
end
def psigns:List bZ:=[[61,61],[61,62],[40],[41],[123],[125],[91],[93],[44],[59],[58],[46],[60],[43],[45],[42],[33],[124]]
def lexS {m r:bZ} {b:List TT} (a:m∈psigns) (h:Lex r b):Lex (m++r) (sg m::b):=by
 refine Lex.tok m r b 5 m ?_ ?_ h
 .simp only [psigns,List.mem_cons,List.not_mem_nil,or_false] at a;obtain rfl|rfl|rfl|rfl|rfl|rfl|rfl|rfl|rfl|rfl|rfl|rfl|rfl|rfl|rfl|rfl|rfl|rfl:=a<;>simp [aY,rK,K8,oJ,fP,iP]
 .rintro rfl;exact absurd a ζ
def lexEq {r:bZ} {a:List TT} (h:Lex (32::r) a):Lex ([61]++32::r) (sg [61]::a):=by
 refine Lex.tok [61] (32::r) a 5 [61] ?_ θ h;rfl
def words_ok:∀ w∈Aq,w≠[]∧Q w≤20∧(∀ c∈w,iA c.toNat=τ)∧(w.head?.all λc=>iP c.toNat)=τ∧tX w=τ:=ζ
def lexW {w r:bZ} {a:List TT} (c:w∈Aq) (i:Del r) (h:Lex r a):Lex (w++r) ((2,w)::a):=by
 obtain ⟨b,d,e,f,g⟩:=words_ok w c;refine Lex.tok w r a 2 w ?_ b h;grind[first_name]
def lexT {a r:bZ} {b:List TT} (f:Q a≤30∧∀ c∈a,iF c.toNat=τ) (h:Lex r b):Lex ([34]++a++[34]++r) ((4,a)::b):=by
 refine Lex.tok ([34]++a++[34]) r b 4 a ?_ θ h;have e:[34]++a++[34]++r=34::(a++34::r):=θ;have g:=sp_app iF a (34::r) f.2 (λc d=>by simp at d;subst d;decide);rw [e];simp only [aY,List.head?_cons];rw [if_neg ζ,if_neg ζ,if_pos ζ];show (if 30<sp iF (a++34::r)∨((a++34::r).drop<|sp iF<|a++34::r).head?≠C 34 then ((0:Int),([]:bZ),0) else (4,(a++34::r).take<|sp iF<|a++34::r,sp iF (a++34::r)+2))=_;grind
def lexU {n:Int} {r:bZ} {a:List TT} (g:0≤n∧n≤999999999) (i:Del r) (h:Lex r a):Lex (Lib.itoa n++r) ((3,Lib.itoa n)::a):=by
 rw [itoa_pos g.1];have f:=dec_len n.toNat W;obtain ⟨b,_,d,l⟩:=dec_all n.toNat;have e:(Lib.decDigits n.toNat).head?=C 48→Q (Lib.decDigits n.toNat)=1:=by
  intro m;by_cases o:1≤n.toNat
  .grind
  .grind[Lib.decDigits]
 generalize Lib.decDigits n.toNat=w at b d f e;refine Lex.tok w r a 3 w ?_ d h;cases w with
 |nil=>grind
 |cons c w=>
  have j:=sp_app fP (c::w) r b (λx k=>by
   have:=i x k;grind[iA,Bool.or_eq_false_iff]);rw [List.cons_append] at j ⊢;grind[aY,qD]
def delC {c:UInt8} {r:bZ} (h:iA c.toNat=κ):Del (c::r):=by
 intro x a;grind
theorem lexB {r:bZ} {a:List TT} (h:Lex r a):Lex (32::r) a:=Lex.blank _ _ h
def lex_mg (d:Nat) {r:bZ} {a:List TT} (h:Lex r a):Lex (mg d++r) a:=by
 induction d<;>simp_all[mg,List.replicate_succ,lexB]
def LxN (t:Nt):Prop:=∀ d r a,Del r→Lex r a→Lex (pr d t++r) ((me t).1++a)
def lex_wi {t:Nt} (h:LxN t) (l d:Nat) {r:bZ} {e:List TT} (g:Del r) (f:Lex r e):Lex (wi l (pc d t)++r) (wt l (pt t)++e):=by
 unfold wi wt;by_cases a:l≤uK t
 .have b:l≤(pc d t).b:=a;have c:l≤(pt t).b:=a;rw [if_pos b,if_pos c];exact h d r e g f
 .have b:¬l≤(pc d t).b:=a;have c:¬l≤(pt t).b:=a;rw [if_neg b,if_neg c];have:=lexS (m:=[40]) ζ (h d _ _ (delC ζ)<|lexS (m:=[41]) ζ f);simp_all[pc,pt]
theorem lex_colon {a:Nt} (h:LxN a) (d:Nat) {r:bZ} {b:List TT} (i:Del r) (g:Lex r b):Lex (QJ (pc d a)++r) (oV (pt a)++b)∧Del (QJ (pc d a)++r):=by
 unfold QJ oV;by_cases c:a.k=-1
 .simp_all[pc,pt,if_pos]
 .have e:¬(pc d a).k=-1:=c;have f:¬(pt a).k=-1:=c;rw [if_neg e,if_neg f];have:=lexS (m:=[58]) ζ<|lexB<|h d r b i g;refine ⟨by grind[pc,pt],?_⟩;rw [ľ];exact delC ζ
theorem prL_pc (d:Nat) (a:List Nt):EU d a=a.map (pc d):=prL_map d a
def lex_join (d:Nat):∀ (a:List Nt) {r:bZ} {b:List TT},(∀ p∈a,LxN p)→Del r→Lex r b→Lex (CN [44,32] (EU d a)++r) (M8 τ (eG a)++b)
 |[],r,b,_,_,h=>by grind[EU,CN,eG,M8]
 |[p],r,b,c,e,h=>by
  have:=c p θ d r b e h;grind[EU,CN,eG,M8]
 |p::q::a,r,b,c,e,h=>by
  have f:=lex_join d (q::a) (λx g=>c x<|List.mem_cons_of_mem _ g) e h;have j:=c p θ d _ _ (delC ζ) (lexS (m:=[44]) ζ<|lexB f);have i:CN [44,32] (EU d<|p::q::a)=pr d p++[44,32]++CN [44,32] (EU d<|q::a):=K;simp_all[M8,eG,me,sg]
def lex_lines (d:Nat):∀ (a:List Nt) {r:bZ} {b:List TT},(∀ p∈a,LxN p)→Lex r b→Lex (We d (EU d a)++r) (oP (eG a)++b)
 |[],r,b,_,h=>by grind[EU,We,eG,oP]
 |p::a,r,b,c,h=>by
  have e:=lex_lines d a (λx f=>c x<|List.mem_cons_of_mem _ f) h;have j:=lex_mg d (c p θ d _ _ (delC ζ)<|Lex.line _ _ e);have g:We d (EU d<|p::a)=mg d++pr d p++[10]++We d (EU d a):=K;have i:oP (eG<|p::a)=(me p).1++oP (eG a):=K;grind
def lex_pr:∀ (m:Nat) (t:Nt),uD t≤m→Wn t→LxN t
 |0,t,n,_=>by cases t<;>simp [uD] at n
 |m+1,t,n,T=>by
  have i:=lex_pr m;intro d r x v j;cases M7 T with
  |ty0=>grind[pr,me]
  |ty1 t G=>exact lex_txt t G r x v j
  |n1 a2 B=>exact lexU B v j
  |n2 f o=>exact lexT o j
  |n3 a2 B=>
   obtain rfl|rfl:=B
   .exact lexW (w:=[102,97,108,115,101]) ζ v j
   .exact lexW (w:=[116,114,117,101]) ζ v j
  |n4=>exact lexW (w:=[110,117,108,108]) ζ v j
  |n5 f o=>exact lex_name f r x o v j
  |n6 l a b z B h s u A=>
   have S:E7 (l++[a,b])=E7 l+uD a+uD b:=by
    have P:∀ D H,E7 (D++H)=E7 D+E7 H:=by
     intro D H;induction D with
     |nil=>simp [E7]
     |cons a3 D i=>grind[E7]
    rw [P,E7,E7,E7];omega
   rw [uD,S] at n;have e:pr d (.nd 6 [] 0<|l++[a,b])=[102,110,40]++CN [44,32] (EU d l)++[41]++QJ (pc d a)++[32]++pr d b:=by
    rw [pr,if_neg ζ,if_pos ζ,prL_pc,prL_pc,List.map_append];show [102,110,40]++CN [44,32] (l.map (pc d)++[pc d a,pc d b]).dropLast.dropLast++[41]++QJ ((l.map (pc d)++[pc d a,pc d b]).dropLast.getLastD zX)++[32]++((l.map (pc d)++[pc d a,pc d b]).getLastD zX).s=_;rw [EY,UY,UX];rfl
   rw [e,UV];have g:=i b W u d r x v j;have k:=(lex_colon (i a W h) d (delC ζ)<|lexB g).1;have y:=lexS (m:=[41]) ζ k;have R:=lex_join d l (λp w=>i p (by have:=S9 w;omega) (z p w).1) (delC ζ) y;have h5:=lexW (w:=[102,110]) ζ (delC ζ)<|lexS (m:=[40]) ζ R;simp_all
  |n7 a l h s z=>
   rw [uD,E7] at n;have e:pr d (.nd 7 [] 0<|a::l)=wi 5 (pc d a)++([40]++CN [44,32] (EU d l)++[41]):=K;rw [e,Lw];have g:=lex_join d l (λp w=>i p (by have:=S9 w;omega) (z p w).1) (delC ζ)<|lexS (m:=[41]) ζ j;have k:=lex_wi (i a W h) 5 d (delC ζ)<|lexS (m:=[40]) ζ g;simp_all
  |n8 f a o h s=>
   rw [uD,E7,E7] at n;have e:pr d (.nd 8 f 0 [a])=wi 5 (pc d a)++([46]++f):=K;rw [e,UU];have k:=lex_wi (i a W h) 5 d (delC ζ) (lexS (m:=[46]) ζ<|lex_name f r x o v j);simp_all
  |n9 a b h s u A=>
   rw [uD,E7,E7,E7] at n;have e:pr d (.nd 9 [] 0 [a,b])=wi 5 (pc d a)++[91]++pr d b++[93]:=K;rw [e,UT];have g:=i b W u d _ _ (delC ζ)<|lexS (m:=[93]) ζ j;have k:=lex_wi (i a W h) 5 d (delC ζ)<|lexS (m:=[91]) ζ g;simp_all
  |n10 l z B=>
   rw [uD] at n;rw [ZX];cases l with
   |nil=>
    have e:pr d (.nd 10 [] 0 [])=[123,125]:=K;rw [e];have:=lexS (m:=[123]) ζ<|lexS (m:=[125]) ζ j;grind[eG,M8]
   |cons p l=>
    have e:pr d (.nd 10 [] 0<|p::l)=[123,32]++CN [44,32] (EU d<|p::l)++[32,125]:=K;rw [e];have g:=lex_join d (p::l) (r:=[32,125]++r) (λq N=>i q (by have:=S9 N;omega) (z q N).1) (delC ζ) (lexB<|lexS (m:=[125]) ζ j);have k:=lexS (m:=[123]) ζ<|lexB g;grind
  |n11 l z=>
   rw [uD] at n;have e:pr d (.nd 11 [] 0 l)=[91]++CN [44,32] (EU d l)++[93]:=K;rw [e,ZZ];have g:=lex_join d l (λp w=>i p (by have:=S9 w;omega) (z p w).1) (delC ζ)<|lexS (m:=[93]) ζ j;have k:=lexS (m:=[91]) ζ g;simp_all
  |n12 f a b o h s u A=>
   rw [uD,E7,E7,E7] at n;have e:pr d (.nd 12 f 0 [a,b])=wi (lv f) (pc d a)++([32]++f++[32])++wi (jO 12 f+1) (pc d b):=K;rw [e,ZE];have g:=lex_wi (i b W u) (jO 12 f+1) d v j;have k:Lex (f++32::(wi (jO 12 f+1) (pc d b)++r)) (sg f::(wt (jO 12 f+1) (pt b)++x)):=by
    refine lexS ?_<|lexB g;simp only [List.mem_cons,List.not_mem_nil,or_false] at o;obtain rfl|rfl|rfl|rfl|rfl:=o<;>decide
   have y:=lex_wi (i a W h) (lv f) d (r:=32::(f++32::(wi (jO 12 f+1) (pc d b)++r))) (delC ζ)<|lexB k;grind
  |n13 f a o h s=>
   rw [uD,E7,E7] at n;have e:pr d (.nd 13 f 0 [a])=f++(if f=[116,121,112,101,111,102] then [32] else [])++wi 4 (pc d a):=K;rw [e,VC];have g:=lex_wi (i a W h) 4 d v j;simp only [List.mem_cons,List.not_mem_nil,or_false] at o;obtain rfl|rfl|rfl:=o
   .have:=lexS (m:=[33]) ζ g;grind[UM]
   .have:=lexS (m:=[45]) ζ g;grind[UM]
   .have:=lexW (w:=[116,121,112,101,111,102]) ζ (delC ζ)<|lexB g;grind[UM]
  |n14 a t h s G=>
   rw [uD,E7,E7,E7] at n;have e:pr d (.nd 14 [] 0 [a,.ty<|C t])=wi 5 (pc d a)++[32,97,115,32]++bU t:=K;rw [e,Za,me];have g:=lex_txt t G r x v j;have k:=lexW (w:=[97,115]) ζ (delC ζ)<|lexB g;have y:=lex_wi (i a W h) 5 d (r:=32::([97,115]++32::(bU t++r))) (delC ζ)<|lexB k;grind
  |n15 f a o h s=>
   rw [uD,E7,E7] at n;have e:pr d (.nd 15 f 0 [a])=(f++[58,32])++pr d a:=K;rw [e,Ie];have g:=lexS (m:=[58]) ζ (lexB<|i a W h d r x v j);have k:=lex_name f _ _ o (delC ζ) g;simp_all
  |n16 f a o h s=>
   rw [uD,E7,E7] at n;have e:pr d (.nd 16 f 0 [a])=f++QJ (pc d a):=K;grind[Ig,lex_colon,lex_name]
  |n17 f a b o h s u A=>
   rw [uD,E7,E7,E7] at n;have e:pr d (.nd 17 f 0 [a,b])=([108,101,116,32]++f)++QJ (pc d a)++[32,61,32]++pr d b++[59]:=K;rw [e,Ae];have g:=i b W u d _ _ (delC ζ)<|lexS (m:=[59]) ζ j;have k:=lex_colon (i a W h) d (r:=32::([61]++32::(pr d b++([59]++r)))) (delC ζ)<|lexB<|lexEq<|lexB g;have y:=lexW (w:=[108,101,116]) ζ (delC ζ)<|lexB<|lex_name f _ _ o k.2 k.1;simp_all
  |n18 f a o h s=>
   rw [uD,E7,E7] at n;have e:pr d (.nd 18 f 0 [a])=(f++[32,61,32])++pr d a++[59]:=K;rw [e,Ah];have g:=i a W h d _ _ (delC ζ)<|lexS (m:=[59]) ζ j;have k:=lex_name f _ _ o (delC ζ)<|lexB<|lexEq<|lexB g;simp_all
  |n19 f a b o h s u A=>
   rw [uD,E7,E7,E7] at n;have e:pr d (.nd 19 f 0 [a,b])=wi 5 (pc d a)++([46]++f)++[32,61,32]++pr d b++[59]:=K;rw [e,Ak];have g:=i b W u d _ _ (delC ζ)<|lexS (m:=[59]) ζ j;have k:=lex_name f _ _ o (delC ζ)<|lexB<|lexEq<|lexB g;have y:=lex_wi (i a W h) 5 d (delC ζ)<|lexS (m:=[46]) ζ k;simp_all
  |n20 a b c h s u A F Z=>
   rw [uD,E7,E7,E7,E7] at n;have e:pr d (.nd 20 [] 0 [a,b,c])=wi 5 (pc d a)++[91]++pr d b++[93]++[32,61,32]++pr d c++[59]:=K;rw [e,Ao];have g:=i c W F d _ _ (delC ζ)<|lexS (m:=[59]) ζ j;have k:=i b W u d _ _ (delC ζ) (lexS (m:=[93]) ζ<|lexB<|lexEq<|lexB g);have y:=lex_wi (i a W h) 5 d (delC ζ)<|lexS (m:=[91]) ζ k;simp_all
  |n21 a h s=>
   rw [uD,E7,E7] at n;have e:pr d (.nd 21 [] 0 [a])=[112,114,105,110,116,32]++pr d a++[59]:=K;rw [e,Au];have g:=i a W h d _ _ (delC ζ)<|lexS (m:=[59]) ζ j;have k:=lexW (w:=[112,114,105,110,116]) ζ (delC ζ)<|lexB g;simp_all
  |n22 a b c h s u A F Z=>
   rw [uD,E7,E7,E7,E7] at n;have e:pr d (.nd 22 [] 0 [a,b,c])=[105,102,32,40]++pr d a++[41,32]++pr d b++(if c.k=-1 then [] else [32,101,108,115,101,32]++pr d c):=K;rw [e,Ax];have L:Lex ((if c.k=-1 then [] else [32,101,108,115,101,32]++pr d c)++r) ((if c.k=-1 then [] else (2,[101,108,115,101])::(me c).1)++x)∧Del ((if c.k=-1 then [] else [32,101,108,115,101,32]++pr d c)++r):=by
    by_cases M:c.k=-1
    .grind
    .rw [if_neg M,if_neg M];have:=lexB (lexW (w:=[101,108,115,101]) ζ (delC ζ)<|lexB<|i c W F d r x v j);exact ⟨η,by rw [ľ];exact delC ζ⟩
   have g:=i b W u d _ _ L.2 L.1;have k:=i a W h d _ _ (delC ζ) (lexS (m:=[41]) ζ<|lexB g);have y:=lexW (w:=[105,102]) ζ (delC ζ) (lexB<|lexS (m:=[40]) ζ k);simp_all
  |n23 a b h s u A=>
   rw [uD,E7,E7,E7] at n;have e:pr d (.nd 23 [] 0 [a,b])=[119,104,105,108,101,32,40]++pr d a++[41,32]++pr d b:=K;rw [e,Ba];have g:=i b W u d r x v j;have k:=i a W h d _ _ (delC ζ) (lexS (m:=[41]) ζ<|lexB g);have y:=lexW (w:=[119,104,105,108,101]) ζ (delC ζ) (lexB<|lexS (m:=[40]) ζ k);simp_all
  |n24 a h s=>
   rw [uD,E7,E7] at n;have e:pr d (.nd 24 [] 0 [a])=[114,101,116,117,114,110,32]++pr d a++[59]:=K;rw [e,Bc];have g:=i a W h d _ _ (delC ζ)<|lexS (m:=[59]) ζ j;have k:=lexW (w:=[114,101,116,117,114,110]) ζ (delC ζ)<|lexB g;simp_all
  |n25 a h s=>
   rw [uD,E7,E7] at n;have e:pr d (.nd 25 [] 0 [a])=pr d a++[59]:=K;rw [e,Bh];have g:=i a W h d _ _ (delC ζ)<|lexS (m:=[59]) ζ j;simp_all
  |n26 l z=>
   rw [uD] at n;have e:pr d (.nd 26 [] 0 l)=[123,10]++We (d+1) (EU (d+1) l)++mg d++[125]:=K;rw [e,Ij];have g:=lex_mg d<|lexS (m:=[125]) ζ j;have k:=lex_lines (d+1) l (λp w=>i p (by have:=S9 w;omega) (z p w).1) g;have y:=lexS (m:=[123]) ζ<|Lex.line _ _ k;grind
/-!### The scanner has no fault there -/
theorem lex_okF {l:bZ} {d:List TT} (h:Lex l d):∀ (f:Nat) (L:bZ) (a:Nat) (b:List Tk),L.drop a=l→Q L-a<f→Q b+Q d≤1000→(J3 f L a b).2.1=0:=by
 induction h with
 |nil=>
  intro f L a b c m i;obtain ⟨f,rfl⟩:∃ g,f=g+1:=⟨f-1,W⟩;have r:Q L≤a:=by
   have:=congrArg Q c;simp at this;omega
  grind[J3,sp]
 |blank l d _ p=>
  intro f L a b c m i;obtain ⟨f,rfl⟩:∃ g,f=g+1:=⟨f-1,W⟩;have j:L.drop (a+1)=l:=by
   rw [← List.drop_drop,c];rfl
  have e:J3 (f+1) L a b=J3 (f+1) L (a+1) b:=by
   rw [R9 f L a b,R9 f L (a+1) b,c,j];have:sp blank (32::l)=sp blank l+1:=by
    show (if blank (32:UInt8).toNat then sp blank l+1 else 0)=_;rw [if_pos ζ]
   rw [this];congr 1;omega
  grind
 |line l d _ p=>
  intro f L a b c m i;obtain ⟨f,rfl⟩:∃ g,f=g+1:=⟨f-1,W⟩;have j:L.drop (a+1)=l:=by
   rw [← List.drop_drop,c];rfl
  have e:J3 (f+1) L a b=J3 (f+1) L (a+1) b:=by
   rw [R9 f L a b,R9 f L (a+1) b,c,j];have:sp blank (10::l)=sp blank l+1:=by
    show (if blank (10:UInt8).toNat then sp blank l+1 else 0)=_;rw [if_pos ζ]
   rw [this];congr 1;omega
  grind
 |tok t l d k x n o _ p=>
  intro f L a b c m i;obtain ⟨f,rfl⟩:∃ g,f=g+1:=⟨f-1,W⟩;have r:Q t+Q l=Q L-a:=by
   have:=congrArg Q c;simp at this;omega
  have u:=List.length_pos_iff.2 o;have q:sp blank (L.drop a)=0:=by rw [c];exact sp_tok n o
  rw [List.length_cons] at i;rw [YT f L a b q,c,n];simp only;rw [if_neg W,if_neg W,if_neg W];have s:L.drop (a+Q t)=l:=by rw [← List.drop_drop,c,List.drop_left]
  grind
def lex_ok {l:bZ} {a:List TT} (h:Lex l a) (b:Q l≤4000) (c:Q a≤1000):(O8 l).2.1=0:=by
 unfold O8;grind[lex_okF]
def Gt.km {L:List Tk} {s:St} {t:Ty} {a:St→Int→Prop} (h:a ⟨s.i,s.N,s.T++[t]⟩ (Q s.T)):Gt L (λ_=>bQ s t) a:=Gt.pure h
def Gt.neg {b:Type} {L:List Tk} {c:Prop} [Decidable c] {f d:Sp→Option (Out b)} {a:St→b→Prop} (e:¬c) (h:Gt L d a):Gt L (λr=>if c then f r else d r) a:=h.eq λ_=>if_neg e
def Gt.ft {L:List Tk} {s:St} {m:bZ} {r:List TT} {Q:St→Unit→Prop} (h:tt L s.i=sg m::r) (a:Q s.nx ()):Gt L (λ_=>aC L s m) Q:=by
 refine ⟨s.nx,(),Ev.pure.eq λ_=>?_,a⟩;unfold aC;rw [D4 h,if_pos<|by simp [has]]
def Gt.inside {L:List Tk} {b:Bool} {d:Nat} {s:St} {p:Sp→Nat→St→Option (Out Int)} {a:St→Int→Prop} (c:b=τ) (e:d<20) (h:Gt L (λr=>p r (d+1) s) a):Gt L (λr=>aS L b d s<|p r) a:=by
 simp_all[aS,if_pos,if_neg]
def Gt.newName {L:List Tk} {s:St} {a:List bZ} {x:bZ} {r:List TT} {Q:St→bZ→Prop} (h:tt L s.i=(1,x)::r) (e:x ∉ a) (b:Q s.nx x):Gt L (λ_=>aO L s a) Q:=by
 obtain ⟨c,d,_⟩:=D8 h;refine ⟨s.nx,x,Ev.pure.eq λ_=>?_,b⟩;unfold aO;grind[has]
section
variable (L:List Tk)
def QtL (r:List TT) (s:St) (d:List Tr) (c:uZ) (b:St) (l:uZ):Prop:=tt L b.i=r∧∃ a,l=c++a∧fC s d b a
end
section
variable {L:List Tk}
def jD.base {s d e:St} {t:Tr} {x:Int} (h:jD d t e x) (f:d.N=s.N) (g:d.T=s.T):jD s t e x:=by
 obtain ⟨a,b,c⟩:=h;rw [f] at a;rw [g] at b c;exact ⟨a,b,c⟩
def tks_beg (t:Tr) (h:Wf t):∃ k x r,fV t=(k,x)::r∧((k==5||k==2)&&has EM x)=τ∧x≠[41]:=by
 induction h with
 |plain k f c=>
  have e:fV (.nd k [] [])=[(2,Z6 k)]:=by
   rw [fV,if_neg W,if_neg W,if_neg W,if_neg W]
  have b:k=1∨k=2∨k=3∨k=4∨k=5∨k=6:=W;refine ⟨2,Z6 k,[],e,?_,?_⟩
  .rcases b with rfl|rfl|rfl|rfl|rfl|rfl<;>decide
  .rcases b with rfl|rfl|rfl|rfl|rfl|rfl<;>decide
 |obj g a _ _ _ _ _=>exact ⟨5,[123],_,K,ζ,ζ⟩
 |arr t _ _=>exact ⟨5,[91],_,K,ζ,ζ⟩
 |fn t i _ _ _ _=>exact ⟨5,[40],_,K,ζ,ζ⟩
 |uni a c _ d=>
  cases a with
  |nil=>grind
  |cons t a=>
   simp only [fV,tY];simp only [show ¬((10:Int)=7) from ζ,show ¬((10:Int)=8) from ζ,show ¬((10:Int)=9) from ζ,if_false,if_true,List.nil_append];split
   .exact ⟨5,[40],_,K,ζ,ζ⟩
   .obtain ⟨k,x,r,e,h⟩:=d t θ;grind
def typ_of (t:Tr) (c:Wf t) {d:Nat} {s:St} {r:List TT} (h:tt L s.i=fV t++r) (b:d<20) (a:Gt L (λq=>q.union (d+1) s)<|Qt L r s t):Gt L (λq=>q.typ d s) (Qt L r s t):=by
 refine ĝ ?_;obtain ⟨k,x,g,e,f,_⟩:=tks_beg t c;rw [e] at h;refine Gt.inside ?_ b a;grind[D4]
theorem dt_of_dm {t:Tr} {b:Bool} (f:Wf t) (h:Dm L t b):DtQ L t:=by
 intro d s r e a g;refine typ_of t f e W<|ĝ ?_;refine ċ (h (d+1) s r e a.2 (λ_=>a.1) W) λi x c=>?_;refine Gt.neg ?_<|Gt.pure c;rw [← isM_isS,c.1,a.1];simp
def dm_plain (k:Int) (g:1≤k) (h:k≤6):Dm L (.nd k [] []) τ:=by
 intro d s r a _ _ _;have e:fV (.nd k [] [])=[(2,Z6 k)]:=by
  rw [fV,if_neg W,if_neg W,if_neg W,if_neg W]
 have i:k=1∨k=2∨k=3∨k=4∨k=5∨k=6:=W;rw [e] at a;have a:=a;obtain ⟨a1,c,f⟩:=D8 a;have j:∀ m∈[[123],[91],[40]],aL L s.i [m]=κ:=by
  intro m b;rw [D4 a];simp at b;obtain rfl|rfl|rfl:=b<;>obtain rfl|rfl|rfl|rfl|rfl|rfl:=i<;>rfl
 refine ĝ ?_;refine Gt.neg η (Gt.neg η<|Gt.neg η<|ĵ ?_<|Gt.km ⟨f,?_⟩)
 .grind[word_kind]
 .rw [c,word_kind k g h];exact (fC.nil s).row k [] W _ (by grind[kH])
def objL_more:∀ (f:List Tr) (h:List bZ) (d:Nat) (s:St) (i:List<|List UInt8×Int) (r:List TT),Q h=Q f→(i.map (·.1)++h).Nodup→(∀ x∈f,DtQ L x)→tt L s.i=qU h f++sg [125]::r→nJ f≤20-d→
 Gt L (λq=>q.jl d s i) (λl x=>tt L l.i=r∧l.N=s.N∧l.T=s.T++O9 (Q s.T) f++[⟨7,i++h.zip (eW (Q s.T) f),[],0⟩]∧x=((Q s.T+S5 f:Nat):Int))
 |[],h,d,s,i,r,u,_,_,g,_=>by
  have:=List.eq_nil_of_length_eq_zero W;subst this;have g:tt L s.i=sg [125]::r:=by simpa [qU] using g
  refine ĝ (ĵ (by rw [D4 g];rfl)<|Gt.km ⟨(D8 g).2.2,K,by simp [O9,St.nx],Ω⟩)
 |t::f,[],_,_,_,_,u,_,_,_,_=>η
 |t::f,n::h,d,s,i,r,u,v,p,g,M=>by
  have g:tt L s.i=(1,n)::sg [58]::(fV t++sg [59]::(qU h f++sg [125]::r)):=by simpa [qU] using g
  rw [nJ] at M;have F:=D8 g;refine ĝ<|Gt.neg (by rw [D4 g];simp) ?_;have P:n ∉ i.map (·.1):=by
   intro N;rw [List.nodup_append] at v;exact v.2.2 n N n θ K
  refine ċ (Gt.newName (Q:=λA x=>A=s.nx∧x=n) g P ⟨K,K⟩) ?_;rintro A w ⟨rfl,rfl⟩;have m:=F.2.2;refine ċ (Gt.ft (Q:=λB _=>B=s.nx.nx) m K) ?_;rintro B _ rfl;have G:=(D8 m).2.2;refine ċ (p t θ d _ _ G ⟨Ω,Ω⟩ W) ?_;rintro k x ⟨o,j⟩;have j:jD s t k x:=j;refine ċ (Gt.ft (Q:=λD _=>D=k.nx) o K) ?_;rintro D _ rfl;have H:=(D8 o).2.2;refine (objL_more f h d k.nx (i++[(w,x)]) r η η (λy j=>p y η) H W).mono ?_;rintro l z ⟨a,b,c,e⟩;have b:=b;have c:l.T=k.T++O9 (Q k.T) f++[⟨7,i++[(w,x)]++h.zip (eW (Q k.T) f),[],0⟩]:=c;have e:z=((Q k.T+S5 f:Nat):Int):=e;refine ⟨a,b.trans j.1,?_,?_⟩
  .rw [c,j.len,j.2.1,j.2.2,O9,eW];simp
  .rw [e,j.len,S5,þ]
def dm_obj (g:List bZ) (f:List Tr) (k:Q g=Q f) (l:g.Nodup) (j:∀ x∈f,DtQ L x):Dm L (.nd 7 g f) τ:=by
 intro d s r h _ _ i;have h:tt L s.i=sg [123]::(qU g f++sg [125]::r):=by simpa [fV] using h
 rw [kD,if_neg ζ] at i;refine ĝ<|ĵ (by rw [D4 h];rfl) ?_;refine (objL_more f g d s.nx [] r k η j (D8 h).2.2 i).mono ?_;rintro m x ⟨a,b,c,e⟩;refine ⟨a,b,?_,?_⟩
 .rw [c,UA _ _ _ _ ζ,ľ];rfl
 .rw [e,fG];show ((Q s.T+S5 f:Nat):Int)=_;omega
def dm_arr (t:Tr) (g:DtQ L t):Dm L (.nd 8 [] [t]) τ:=by
 intro d s r a _ _ f;have a:tt L s.i=sg [91]::(fV t++sg [93]::r):=by simpa [fV,Kc] using a
 rw [kD,if_neg ζ,nJ,nJ] at f;refine ĝ (Gt.neg (by rw [D4 a];simp [has])<|ĵ (by rw [D4 a];rfl) ?_);refine ċ (g d s.nx (sg [93]::r) (D8 a).2.2 ⟨Ω,Ω⟩ W) ?_;rintro c x ⟨b,h⟩;refine ċ (Gt.ft (Q:=λe _=>e=c.nx) b K) ?_;rintro e _ rfl;have i:=jD.mh h<|fC.nil c;exact Gt.km ⟨(D8 b).2.2,i.row 8 [] ζ _ K⟩
def list_more:∀ (b:List Tr) (d:Nat) (s:St) (j:List bZ) (c:uZ) (r:List TT),(∀ x∈b,DtQ L x∧Wf x)→tt L s.i=Z8 (ê<|Q c=0) b++sg [41]::r→nJ b≤20-d→
 Gt L (λq=>q.M .typ [41] d s j c) (QtL L r s b c)
 |[],d,s,j,c,r,_,a,_=>by
  have a:tt L s.i=sg [41]::r:=by simpa [Z8] using a
  exact ĝ (ĵ (by rw [D4 a];rfl)<|Gt.pure ⟨(D8 a).2.2,[],θ,fC.nil s⟩)
 |t::b,d,s,j,c,r,i,a,z=>by
  rw [nJ] at z;obtain ⟨D,M,H,m,_,N⟩:=tks_beg t (i t θ).2;have A:Ř (Z8 κ b++sg [41]::r):=by
   cases b with
   |nil=>exact ⟨Ω,Ω⟩
   |cons u R=>exact ⟨Ω,Ω⟩
  refine ĝ<|Gt.neg ?_ ?_
  .by_cases e:Q c=0
   .have a:tt L s.i=(D,M)::(H++(Z8 κ b++sg [41]::r)):=by simpa [e,Z8,m] using a
    rw [D4 a];grind[has]
   .have a:tt L s.i=sg [44]::(fV t++(Z8 κ b++sg [41]::r)):=by simpa [e,Z8] using a
    rw [D4 a];simp [has]
  .refine ċ (ϊ:=λf _=>f.N=s.N∧f.T=s.T∧tt L f.i=fV t++(Z8 κ b++sg [41]::r)) ?_ ?_
   .by_cases e:Q c=0
    .exact ĵ e<|Gt.pure ⟨K,K,by grind[Z8]⟩
    .have a:tt L s.i=sg [44]::(fV t++(Z8 κ b++sg [41]::r)):=by simpa [e,Z8] using a
     exact Gt.neg e<|Gt.ft a ⟨K,K,(D8 a).2.2⟩
   .rintro f _ ⟨v,w,n⟩;refine ċ (ϊ:=λg p=>tt L g.i=Z8 κ b++sg [41]::r∧jD s t g p.1) ?_ ?_
    .refine ċ ((i t θ).1 d f _ n A W) ?_;rintro g x ⟨k,h⟩;exact Gt.pure ⟨k,h.base v w⟩
    .rintro g ⟨x,G⟩ ⟨k,h⟩;refine (list_more b d g G (c++[x]) r (λy h=>i y η) ù W).mono ?_;rintro P l ⟨o,F,rfl,B⟩;exact ⟨o,x::F,θ,h.mh B⟩
def dm_fn (t:Tr) (a:List Tr) (q:DtQ L t) (p:∀ x∈a,DtQ L x∧Wf x):Dm L (.nd 9 []<|t::a) κ:=by
 intro d s r c k m o;have c:tt L s.i=sg [40]::(Z8 τ a++sg [41]::sg [61,62]::(fV t++r)):=by simpa [fV,Kb] using c
 rw [kD,if_neg ζ,nJ] at o;refine ĝ (Gt.neg (by rw [D4 c];simp [has])<|Gt.neg (by rw [D4 c];simp [has])<|ĵ (by rw [D4 c];rfl)<|ĝ ?_);refine ċ (list_more a d s.nx [] [] (sg [61,62]::(fV t++r)) p (D8 c).2.2 W) ?_;rintro g l ⟨i,u,h,b⟩;rw [List.nil_append] at h;subst h;have b:fC s a g l:=b;refine ĵ (by rw [D4 i];rfl) ?_;refine ċ (q d g.nx r (D8 i).2.2 ⟨m K,k⟩ W) ?_;rintro j y ⟨n,f⟩;have f:jD g t j y:=f;refine Gt.km ⟨n,f.1.trans b.1,?_,?_⟩
 .show j.T++[_]=_;have e:gN (Q s.T) (.nd 9 []<|t::a)=oS (Q s.T) (t::a):=by rw [gN,if_pos K]
  rw [e,oS,f.2.1,f.2.2,b.len,b.2.1,b.2.2];simp
 .rw [f.len,b.len,fG,S5];omega
theorem dm_brackets (t:Tr) (j:DtQ L t) (k:Wf t) {d:Nat} {s:St} {r:List TT} (a:tt L s.i=sg [40]::(fV t++sg [41]::r)) (i:fT r [61,62]=κ) (h:kD t+1≤20-d):Gt L (λq=>q.gd d s) (Qt L r s t):=by
 refine ĝ (Gt.neg (by rw [D4 a];simp [has])<|Gt.neg (by rw [D4 a];simp [has])<|ĵ (by rw [D4 a];rfl)<|ĝ ?_);have g:tt L s.nx.i=fV t++sg [41]::r:=(D8 a).2.2;refine ċ (list_more [t] d s.nx [] [] r (λx m=>η) (by grind[Z8])<|by grind[nJ]) ?_;rintro o l ⟨f,n,c,b⟩;rw [List.nil_append] at c;subst c;refine Gt.neg (by grind[isM_isS]) ?_;have e:=b.2.2;rw [e];exact Gt.pure ⟨f,b.1,by rw [b.2.1,O9,O9,List.append_nil];rfl,K⟩
def dm_one (t:Tr) (l:Wf t) (k:DtQ L t) (f:t.k≠10→Dm L t (ê<|t.k≠9)) (b:Bool) {d:Nat} {s:St} {r:List TT} (c:tt L s.i=one t b++r) (e:fT r [61,62]=κ) (g:b=τ→fT r [124]=κ)
 (j:kD t+(eZ t b).toNat≤20-d):Gt L (λq=>q.gd d s) (Qt L r s t):=by
 unfold one at c;split at c
 .rename_i a;have i:eZ t b=τ:=by
   obtain a|⟨a,hl⟩:=a
   .grind[eZ]
   .grind[eZ]
  simp_all[dm_brackets]
 .rename_i h;rw [not_or] at h;refine f h.1 d s r c e (λa=>?_) W;grind
def unionL_more:∀ (a:List Tr) (d:Nat) (s:St) (c:uZ) (r:List TT),Ř r→(∀ x∈a,Wf x∧DtQ L x∧(x.k≠10→Dm L x (ê<|x.k≠9)))→tt L s.i=tY κ a++r→wL a≤20-d→
 Gt L (λq=>q.gp d s c) (QtL L r s a c)
 |[],d,s,c,r,f,_,b,_=>by
  have b:tt L s.i=r:=by simpa [tY] using b
  exact ĝ (Gt.neg (by rw [← isM_isS,b,f.1];simp)<|Gt.pure ⟨b,[],θ,fC.nil s⟩)
 |t::a,d,s,c,r,f,g,b,m=>by
  rw [wL] at m;have k:fT (tY κ a++r) [61,62]=κ:=by
   cases a with
   |nil=>simpa [tY] using f.2
   |cons u z=>rfl
  have e:tY κ (t::a)++r=sg [124]::(one t (ê<|Q a=0)++(tY κ a++r)):=by
   simp [tY,one]
  rw [e] at b;refine ĝ<|ĵ (by rw [D4 b];rfl) ?_;refine ċ (dm_one t (g t θ).1 (g t θ).2.1 (g t θ).2.2 (ê<|Q a=0) (D8 b).2.2 k (λn=>by
   have:=List.eq_nil_of_length_eq_zero (by simpa using n);subst this;simpa [tY] using f.1) W) ?_;rintro v x ⟨i,h⟩;have h:=h;refine (unionL_more a d v (c++[x]) r f (λy h=>g y η) i W).mono ?_;rintro w l ⟨j,p,rfl,o⟩;exact ⟨j,x::p,θ,h.mh o⟩
def dt_uni (b:List Tr) (k:2≤Q b) (a:∀ x∈b,Wf x∧DtQ L x∧(x.k≠10→Dm L x (ê<|x.k≠9))):DtQ L (.nd 10 [] b):=by
 intro d s r f n h;match b,k,a with
 |t::u::c,_,a=>
  have e:fV (.nd 10 []<|t::u::c)++r=one t κ++(tY κ (u::c)++r):=by
   simp [fV,tY,one]
  rw [kD,if_pos K,wL] at h;have j:ê (Q (u::c)=0)=κ:=K;rw [j] at h;refine typ_of _ (Wf.uni _ θ λx o=>(a x o).1) f W<|ĝ ?_;rw [e] at f;refine ċ (dm_one t (a t θ).1 (a t θ).2.1 (a t θ).2.2 κ f Ω θ W) ?_;rintro q x ⟨g,i⟩;refine ĵ (by rw [← isM_isS,g];rfl) ?_;refine ċ (unionL_more (u::c) (d+1) q [x] r n (λy i=>a y η) g W) ?_;rintro w l ⟨m,v,rfl,p⟩;exact Gt.km ⟨m,(i.mh p).row 10 [] ζ _ K⟩
theorem dt_all (t:Tr) (h:Wf t):DtQ L t∧(t.k≠10→Dm L t (ê<|t.k≠9)):=by
 have g:=h;induction h with
 |plain k l d=>
  have h:=dm_plain (L:=L) k l d;have e:ê ((Tr.nd k [] []).k≠9)=τ:=decide_eq_true (by show k≠9;omega);grind[dt_of_dm]
 |obj p i m nd _ c b=>
  have h:=dm_obj p i m nd λx a=>(b x a<|c x a).1;exact ⟨dt_of_dm g h,λ_=>h⟩
 |arr t f b=>
  have h:=dm_arr t (b f).1;exact ⟨dt_of_dm g h,λ_=>h⟩
 |fn t q f j o n=>
  have h:=dm_fn t q (o f).1 λx a=>⟨(n x a<|j x a).1,j x a⟩;exact ⟨dt_of_dm g h,λ_=>h⟩
 |uni i d c b=>
  exact ⟨dt_uni i d λx a=>⟨c x a,b x a<|c x a⟩,λh=>absurd K h⟩
end
theorem isM_hasS (L:List Tk) (i:Nat) (a:List bZ):aL L i a=Y0 (tt L i) a:=by
 cases h:tt L i with
 |nil=>
  have:=Xr L i;rw [h] at this;have b:(tk L i).x=6:=this.symm;grind[aL,Y0]
 |cons p r=>
  obtain ⟨k,x⟩:=p;rw [D4 h];rfl
theorem hasS_sub {r:List TT} {a b:List bZ} (h:Y0 r a=κ) (c:∀ m∈b,m∈a):Y0 r b=κ:=by
 cases r with
 |nil=>rfl
 |cons p r=>
  obtain ⟨k,x⟩:=p;grind[Y0,has]
theorem isS_hasS (r:List TT) (m:bZ):fT r m=Y0 r [m]:=Ω
def f12:∀ m∈f2,m∈f1:=ζ
def f35:∀ m∈f5,m∈f3:=ζ
section
variable (L:List Tk)
def QnL (r:List TT) (s:St) (d:List Nt) (c:uZ) (b:St) (l:uZ):Prop:=tt L b.i=r∧∃ a,l=c++a∧cX s d b a
end
/-!### How it begins -/
theorem Fz.sg {m:bZ} (r:List TT) (h:m∈M6∧m ∉ [[33],[45],[116,121,112,101,111,102]]):Fz (sg m::r):=⟨5,m,r,K,.inr<|.inr<|.inr ⟨.inl K,h⟩⟩
theorem Fz.wd {m:bZ} (r:List TT) (h:m∈M6∧m ∉ [[33],[45],[116,121,112,101,111,102]]):Fz ((2,m)::r):=⟨2,m,r,K,.inr<|.inr<|.inr ⟨.inr K,h⟩⟩
def wt_fb {a:Nt} (h:Fb (me a).1∧(uK a=5→Fz (me a).1)) (l:Nat):Fb (wt l<|pt a):=by
 unfold wt;split
 .exact h.1
 .exact (Fz.sg _ ζ).b
theorem wt_fs {a:Nt} (h:Fb (me a).1∧(uK a=5→Fz (me a).1)):Fz (wt 5<|pt a):=by
 unfold wt;split
 .rename_i b;have b:5≤uK a:=b;refine h.2 ?_;have:uK a≤5:=by
   cases a with
   |ty o=>exact Nat.le_refl _
   |nd k d n c=>
    grind[uK,jO]
  omega
 .exact Fz.sg _ ζ
def fst_of:∀ (m:Nat) (t:Nt),uD t≤m→Wn t→aP t.k→Fb (me t).1∧(uK t=5→Fz (me t).1)
 |0,t,k,_,_=>by cases t<;>simp [uD] at k
 |m+1,t,k,x,z=>by
  have p:=fst_of m;have f:∀ {l:List TT},Fz l→Fb l∧(uK t=5→Fz l):=λh=>⟨h.b,λ_=>h⟩;cases M7 x with
  |ty0=>grind[aP,õ]
  |ty1 t w=>grind[aP,õ]
  |n1 n r=>exact f ⟨3,_,_,K,.inr<|.inl K⟩
  |n2 i g=>exact f ⟨4,_,_,K,.inr<|.inr<|.inl K⟩
  |n3 n r=>
   obtain rfl|rfl:=r
   .exact f (Fz.wd _ ζ)
   .exact f (Fz.wd _ ζ)
  |n4=>exact f (Fz.wd _ ζ)
  |n5 i g=>exact f ⟨1,_,_,K,.inl K⟩
  |n6 u a b s r d e j o=>rw [UV];exact f (Fz.wd _ ζ)
  |n7 a u d e s=>
   rw [uD,E7] at k;rw [Lw];exact f ((wt_fs<|p a W d e).app _)
  |n8 i a g d e=>
   rw [uD,E7] at k;rw [UU];exact f ((wt_fs<|p a W d e).app _)
  |n9 a b d e j o=>
   rw [uD,E7] at k;rw [UT];exact f ((wt_fs<|p a W d e).app _)
  |n10 u s r=>rw [ZX];exact f (Fz.sg _ ζ)
  |n11 u s=>rw [ZZ];exact f (Fz.sg _ ζ)
  |n12 i a b g d e j o=>
   rw [uD,E7] at k;rw [ZE];refine ⟨(wt_fb (p a W d e) _).app _,λq=>?_⟩;exfalso;simp at g;have q:jO 12 i=5:=q;obtain rfl|rfl|rfl|rfl|rfl:=g<;>exact absurd q ζ
  |n13 i a g d e=>
   rw [VC];refine ⟨?_,λq=>by grind[uK,jO]⟩;simp at g;obtain rfl|rfl|rfl:=g
   .exact ⟨5,_,_,K,.inr<|.inr<|.inr ⟨.inl K,ζ⟩⟩
   .exact ⟨5,_,_,K,.inr<|.inr<|.inr ⟨.inl K,ζ⟩⟩
   .exact ⟨2,_,_,K,.inr<|.inr<|.inr ⟨.inr K,ζ⟩⟩
  |n14 a t d e w=>
   rw [uD,E7] at k;rw [Za];exact f ((wt_fs<|p a W d e).app _)
  |n15 i a g d e=>grind[aP,õ]
  |n16 i a g d e=>grind[aP,õ]
  |n17 i a b g d e j o=>grind[aP,õ]
  |n18 i a g d e=>grind[aP,õ]
  |n19 i a b g d e j o=>grind[aP,õ]
  |n20 a b c d e j o v y=>grind[aP,õ]
  |n21 a d e=>grind[aP,õ]
  |n22 a b c d e j o v y=>grind[aP,õ]
  |n23 a b d e j o=>grind[aP,õ]
  |n24 a d e=>grind[aP,õ]
  |n25 a d e=>grind[aP,õ]
  |n26 u s=>grind[aP,õ]
theorem fst_E {t:Nt} (b:Wn t) (a:aP t.k):Fb (me t).1∧(uK t=5→Fz (me t).1):=fst_of _ t (Nat.le_refl _) b a
section
variable {L:List Tk}
def Fb.beg {i:Nat} {l:List TT} (h:Fb l) (a:tt L i=l):lY L i=τ:=by
 obtain ⟨k,x,r,rfl,h⟩:=h;obtain ⟨b,_,_⟩:=D8 a;rw [lY,b,D4 a];grind[has]
def wt_eq {a b:Nat} {c:Pt} (h:b≤c.b∨c.b<a) (d:a≤b):wt a c=wt b c∧wd a c=wd b c:=by
 unfold wt wd;grind
def p4_of {t:Nt} (l:Wn t) (j:aP t.k) (o:uK t≠4) (h:P5 L t):P4 L t:=by
 intro d s r b k c;obtain ⟨f,g⟩:=wt_eq (c:=pt t) (by show 5≤uK t∨uK t<4;omega) ζ;rw [f] at b;rw [g] at c;obtain ⟨n,x,e,i⟩:=h d s r b (hasS_sub k ζ) c;refine ĝ<|Gt.neg ?_<|i _<|ĝ ?_
 .rw [((wt_fs<|fst_E l j).app r).not b];simp
 .have a:∀ m∈f5,aL L n.i [m]=κ:=λm p=>by
   rw [isM_hasS,e.1];grind[hasS_sub]
  refine Gt.neg (by rw [a [40] ζ];simp) (Gt.neg (by rw [a [46] ζ];simp)<|Gt.neg (by rw [a [91] ζ];simp)<|Gt.neg (by rw [a [97,115] ζ];simp)<|Gt.pure e)
def p3_of {t:Nt} (g:uK t≠3) (h:P4 L t):P3 L t:=by
 intro d s r b f a;obtain ⟨c,e⟩:=wt_eq (c:=pt t) (by show 4≤uK t∨uK t<3;omega) ζ;rw [c] at b;rw [e] at a;exact Cp.of<|h d s r b f a
def row_end {b:Bool} {d:Nat} {s:St} {x:Int} {a:St→Int→Prop} (e:Y0 (tt L s.i) (J4 b)=κ) (c:a s x):Gt L (λq=>q.row b d s x) a:=
 ĝ (Gt.neg (by grind[isM_hasS])<|Gt.pure c)
theorem prod_of {t:Nt} (h:P3 L t):∀ d s r,tt L s.i=wt 3 (pt t)++r→Y0 r f3=κ→wd 3 (pt t)≤20-d→Gt L (λq=>q.prod d s) (Qn L r s t):=by
 intro d s r f b e;obtain ⟨g,x,a,c⟩:=h d s r f (hasS_sub b f35) e;exact ĝ (c _<|row_end (by rw [a.1];exact hasS_sub b ζ) a)
def p2_of {t:Nt} (c:uK t≠2) (h:P3 L t):P2 L t:=by
 intro d s r g f e;obtain ⟨a,b⟩:=wt_eq (c:=pt t) (by show 3≤uK t∨uK t<2;omega) ζ;grind[Cp.of,prod_of]
def sum_of {t:Nt} (h:P2 L t):∀ d s r,tt L s.i=wt 2 (pt t)++r→Y0 r f2=κ→wd 2 (pt t)≤20-d→Gt L (λq=>q.sum d s) (Qn L r s t):=by
 intro d s r f b e;obtain ⟨g,x,a,c⟩:=h d s r f (hasS_sub b f23) e;exact ĝ (c _<|row_end (by rw [a.1];exact hasS_sub b ζ) a)
def p1_of {t:Nt} (a:2≤uK t) (h:P2 L t):P1 L t:=by
 intro d s r i c g;have e:wt 2 (pt t)=(me t).1:=qC 2 (pt t) a;have f:wd 2 (pt t)=(me t).2:=qB 2 (pt t) a;refine ĝ (ċ (sum_of h d s r η (hasS_sub c f12) W) λj x b=>Gt.neg ?_<|Gt.pure b);rw [isM_hasS,b.1,hasS_sub c ζ];simp
def pe_of {t:Nt} (e:Wn t) (b:aP t.k) (h:P1 L t):PE L t:=by
 intro d s r a c f;exact ĝ (Gt.inside (((fst_E e b).1.app r).beg a) W<|h (d+1) s r a c W)
def p5_of {t:Nt} (l:uK t<5) (h:PE L t):P5 L t:=by
 intro d s r a _ e;have f:wt 5 (pt t)=sg [40]::((me t).1++[sg [41]]):=by
  rw [wt,if_neg<|by show ¬5≤uK t;omega];rfl
 have g:wd 5 (pt t)=(me t).2+1:=by
  rw [wd,if_neg<|by show ¬5≤uK t;omega];rfl
 have a:tt L s.i=sg [40]::((me t).1++sg [41]::r):=by rw [a,f];simp
 rw [g] at e;have i:=D8 a;have o:∀ m,m≠[40]→aL L s.i [m]=κ:=λm n=>by
  rw [D4 a];simp_all[has,Ne.symm]
 refine Cp.of<|ĝ ?_;refine Gt.neg W (Gt.neg W<|Gt.neg W ?_);refine Gt.neg η (Gt.neg η<|Gt.neg η<|Gt.neg η<|Gt.neg η<|Gt.neg η ?_);refine ċ (Gt.ft (Q:=λb _=>b=s.nx) a K) ?_;rintro b _ rfl;refine ċ (h d s.nx (sg [41]::r) i.2.2 K e) ?_;rintro k x ⟨c,j⟩;refine ċ (Gt.ft (Q:=λb _=>b=k.nx) c K) ?_;rintro b _ rfl;exact Gt.pure ⟨(D8 c).2.2,j⟩
def px5 {t:Nt} (f:Wn t) (e:aP t.k) (g:uK t=5) (h:P5 L t):Px L t:=
 have d:=p4_of f e W h;have c:=p3_of W d;have b:=p2_of W c;have a:=p1_of W b;⟨h,d,c,b,a,pe_of f e a⟩
def px4 {t:Nt} (f:Wn t) (e:aP t.k) (g:uK t=4) (h:P4 L t):Px L t:=
 have c:=p3_of W h;have b:=p2_of W c;have a:=p1_of W b;have d:=pe_of f e a;⟨p5_of W d,h,c,b,a,d⟩
def px3 {t:Nt} (f:Wn t) (e:aP t.k) (g:uK t=3) (h:P3 L t):Px L t:=
 have b:=p2_of W h;have a:=p1_of W b;have d:=pe_of f e a;have c:=p5_of W d;⟨c,p4_of f e W c,h,b,a,d⟩
def px2 {t:Nt} (f:Wn t) (e:aP t.k) (g:uK t=2) (h:P2 L t):Px L t:=
 have a:=p1_of W h;have d:=pe_of f e a;have c:=p5_of W d;have b:=p4_of f e W c;⟨c,b,p3_of W b,h,a,d⟩
def px1 {t:Nt} (f:Wn t) (e:aP t.k) (g:uK t=1) (h:P1 L t):Px L t:=
 have d:=pe_of f e h;have c:=p5_of W d;have b:=p4_of f e W c;have a:=p3_of W b;⟨c,b,a,p2_of W a,h,d⟩
end
def Hs.fol {r:List TT} (h:Hs r):Ř r:=⟨by rw [isS_hasS];exact h.no ζ,by rw [isS_hasS];exact h.no ζ⟩
section
variable {L:List Tk}
def list_gen (pk:oT) (e:bZ) (i:e∈[[41],[93],[125]]) (c:Nat) (I:List bZ→List Nt→Prop)
 (o:∀ g p a,I g (p::a)→∃ n,I n a∧(∀ r,Y0 ((me p).1++r) [e]=κ)∧∀ d s r,tt L s.i=(me p).1++r→Hs r→(me p).2+c≤20-d→
  Gt L (λq=>part L q d s g pk) (λk y=>tt L k.i=r∧fE s p k y.1∧y.2=n)):
 ∀ (a:List Nt) (d:Nat) (s:St) (g:List bZ) (f:uZ) (r:List TT),I g a→tt L s.i=M8 (ê<|Q f=0) (eG a)++sg e::r→mx c (eG a)≤20-d→
  Gt L (λq=>q.M pk e d s g f) (QnL L r s a f)
 |[],d,s,g,f,r,_,b,_=>by
  have b:tt L s.i=sg e::r:=by simpa [eG,M8] using b
  exact ĝ (ĵ (by rw [D4 b];simp [has])<|Gt.pure ⟨(D8 b).2.2,[],θ,cX.nil s⟩)
 |p::a,d,s,g,f,r,F,b,A=>by
  rw [J5,mx,pN] at A;obtain ⟨n,G,R,D⟩:=o g p a F;have B:Hs (M8 κ (eG a)++sg e::r):=by
   cases a with
   |nil=>
    refine ⟨e,r,K,?_⟩;simp at i;obtain rfl|rfl|rfl:=i<;>decide
   |cons u T=>exact ⟨[44],_,K,ζ⟩
  refine ĝ<|Gt.neg ?_ ?_
  .by_cases h:Q f=0
   .grind[tt,me,M8,eG,sg,J5,uC,isM_hasS]
   .have b:tt L s.i=sg [44]::((me p).1++(M8 κ (eG a)++sg e::r)):=by simpa [h,J5,M8,uC] using b
    rw [D4 b];simp at i;obtain rfl|rfl|rfl:=i<;>decide
  .refine ċ (ϊ:=λj _=>j.N=s.N∧j.T=s.T∧tt L j.i=(me p).1++(M8 κ (eG a)++sg e::r)) ?_ ?_
   .by_cases h:Q f=0
    .exact ĵ h<|Gt.pure ⟨K,K,by grind[J5,M8,uC]⟩
    .have b:tt L s.i=sg [44]::((me p).1++(M8 κ (eG a)++sg e::r)):=by simpa [h,J5,M8,uC] using b
     exact Gt.neg h<|Gt.ft b ⟨K,K,(D8 b).2.2⟩
   .rintro j _ ⟨w,z,t⟩;refine ċ (D d j _ t B W) ?_;rintro k ⟨x,N⟩ ⟨P,m,rfl⟩;have m:=m.base w z;refine (list_gen pk e i c I o a d k N (f++[x]) r G ù W).mono ?_;rintro S l ⟨v,M,rfl,H⟩;exact ⟨v,x::M,θ,m.cons H⟩
def listE_more (e:bZ) (i:e∈[[41],[93],[125]]) (c:List Nt) (d:Nat) (s:St) (g:List bZ) (f:uZ) (r:List TT) (o:∀ p∈c,Wn p∧aP p.k∧PE L p)
 (j:tt L s.i=M8 (ê<|Q f=0) (eG c)++sg e::r) (h:mx 1 (eG c)≤20-d):Gt L (λq=>q.M .expr e d s g f) (QnL L r s c f):=by
 refine list_gen .expr e i 1 (λ_ c=>∀ p∈c,Wn p∧aP p.k∧PE L p) ?_ c d s g f r o j h;intro g p c k;obtain ⟨l,m,n⟩:=k p θ;refine ⟨g,λq u=>k q η,λr=>?_,λd s r j t h=>?_⟩
 .refine ((fst_E l m).1.app r).no ?_;simp at i;obtain rfl|rfl|rfl:=i<;>decide
 .refine ċ (n d s r j (t.no ζ) h) ?_;rintro v x ⟨a,b⟩;exact Gt.pure ⟨a,b,K⟩
def listO_more (b:List Nt) (d:Nat) (s:St) (r:List TT) (F:(b.map Nt.tx).Nodup) (z:∀ p∈b,∃ c a,p=.nd 15 c 0 [a]∧Wn a∧aP a.k∧PE L a)
 (e:tt L s.i=M8 τ (eG b)++sg [125]::r) (f:mx 0 (eG b)≤20-d):Gt L (λq=>q.M .obj [125] d s [] []) (QnL L r s b []):=by
 refine list_gen .obj [125] ζ 0 (λg b=>(g++b.map Nt.tx).Nodup∧∀ p∈b,∃ c a,p=.nd 15 c 0 [a]∧Wn a∧aP a.k∧PE L a) ?_ b d s [] [] r ⟨η,z⟩ e f;rintro g p b ⟨l,k⟩;obtain ⟨c,a,rfl,H,D,u⟩:=k p θ;refine ⟨g++[c],⟨by grind[Nt.tx],λq G=>k q η⟩,λr=>Ω,λd s r e A f=>?_⟩;rw [Ie] at e f;have e:=e;have w:c ∉ g:=by
  intro v;rw [List.nodup_append] at l;exact l.2.2 c v c (by simp [Nt.tx]) K
 refine ċ (Gt.newName (Q:=λm x=>m=s.nx∧x=c) e w ⟨K,K⟩) ?_;rintro m _ ⟨rfl,rfl⟩;have j:=(D8 e).2.2;refine ċ (Gt.ft (Q:=λn _=>n=s.nx.nx) j K) ?_;rintro n _ rfl;refine ċ (u d s.nx.nx r (D8 j).2.2 (A.no ζ) f) ?_;rintro M x ⟨o,h⟩;have h:=h;refine ċ (ŧ (ϊ:=λi y=>tt L i.i=r∧fE s (.nd 15 _ 0 [a]) i y) ⟨o,h.l.node _ 15 _ 0 _ K⟩) ?_;rintro i y ⟨t,B⟩;exact Gt.pure ⟨t,B,K⟩
def typeIf_more {o:Option Tr} (g:Wn<|.ty o) {d:Nat} {s:St} {r:List TT} (c:tt L s.i=oV (pt<|.ty o)++r) (h:Y0 r [[58]]=κ) (e:Ř r) (f:(me<|.ty o).2≤20-d):Gt L (λq=>bC L q d s) (Qn L r s<|.ty o):=by
 cases o with
 |none=>
  have c:tt L s.i=r:=by simpa [oV,pt,õ] using c
  exact Gt.neg (by grind[isM_hasS])<|Gt.pure ⟨c,fE.none s⟩
 |some t=>
  have c:=c;refine ĵ (by rw [D4 c];rfl)<|((dt_all t g).1 d s.nx r (D8 c).2.2 e f).mono ?_;rintro i x ⟨a,b⟩;exact ⟨a,jD.n b⟩
def listP_more (a:List Nt) (d:Nat) (s:St) (r:List TT) (A:(a.map Nt.tx).Nodup) (v:∀ p∈a,∃ b o,p=.nd 16 b 0 [.ty o]∧Wn (.ty o))
 (c:tt L s.i=M8 τ (eG a)++sg [41]::r) (e:mx 0 (eG a)≤20-d):Gt L (λq=>q.M .par [41] d s [] []) (QnL L r s a []):=by
 refine list_gen .par [41] ζ 0 (λf a=>(f++a.map Nt.tx).Nodup∧∀ p∈a,∃ b o,p=.nd 16 b 0 [.ty o]∧Wn (.ty o)) ?_ a d s [] [] r ⟨η,v⟩ c e;rintro f p a ⟨j,i⟩;obtain ⟨b,o,rfl,w⟩:=i p θ;refine ⟨f++[b],⟨by grind[Nt.tx],λq B=>i q η⟩,λr=>Ω,λd s r c k e=>?_⟩;rw [Ig] at c e;have c:=c;have u:b ∉ f:=by
  intro t;rw [List.nodup_append] at j;exact j.2.2 b t b (by simp [Nt.tx]) K
 refine ċ (Gt.newName (Q:=λl x=>l=s.nx∧x=b) c u ⟨K,K⟩) ?_;rintro l _ ⟨rfl,rfl⟩;refine ċ (typeIf_more w (D8 c).2.2 (k.no ζ) k.fol e) ?_;rintro D x ⟨m,g⟩;have g:=g;refine ċ (ŧ (ϊ:=λh y=>tt L h.i=r∧fE s (.nd 16 _ 0 [.ty o]) h y) ⟨m,g.l.node _ 16 _ 0 _ K⟩) ?_;rintro h y ⟨n,z⟩;exact Gt.pure ⟨n,z,K⟩
/-!### Each kind of an expression -/
theorem me5w (t:Nt) (h:uK t=5):wt 5 (pt t)=(me t).1∧wd 5 (pt t)=(me t).2:=⟨qC 5 (pt t)<|by show 5≤uK t;omega,qB 5 (pt t)<|by show 5≤uK t;omega⟩
def p5_simple {t:Nt} (a:uK t=5) (h:∀ d s r,tt L s.i=(me t).1++r→(me t).2≤20-d→Gt L (λq=>q.simple d s) (Qn L r s t)):P5 L t:=by
 intro d s r c _ b;grind[me5w,Cp.of]
theorem cp1 (n:Int) (b:0≤n∧n≤999999999):Px L (.nd 1 [] n []):=by
 refine px5 (w1 b) (by grind[aP,õ]) K<|p5_simple K λd s r a _=>?_;have a:=a;obtain ⟨a1,c,e⟩:=D8 a;refine ĝ<|ĵ a1<|ŧ ⟨e,cX.node (cX.nil s) _ 1 [] n _ ?_⟩;rw [c,itoa_pos b.1,(dec_all n.toNat).2.1,show (n.toNat:Int)=n by omega];rfl
theorem cp2 (a:bZ) (g:Q a≤30∧∀ c∈a,iF c.toNat=τ):Px L (.nd 2 a 0 []):=by
 refine px5 (w2 g) (by grind[aP,õ]) K<|p5_simple K λd s r b _=>?_;have b:=b;obtain ⟨a1,e,f⟩:=D8 b;refine ĝ (Gt.neg W<|ĵ a1<|ŧ ⟨f,cX.node (cX.nil s) _ 2 a 0 _ ?_⟩);rw [e];rfl
theorem cp5 (b:bZ) (f:S6 b):Px L (.nd 5 b 0 []):=by
 refine px5 (w5 f) (by grind[aP,õ]) K<|p5_simple K λd s r a _=>?_;have a:=a;obtain ⟨a1,c,e⟩:=D8 a;refine ĝ (Gt.neg W<|Gt.neg W<|ĵ a1<|ŧ ⟨e,cX.node (cX.nil s) _ 5 b 0 _ ?_⟩);rw [c];rfl
theorem cp3 (n:Int) (c:n=0∨n=1):Px L (.nd 3 [] n []):=by
 refine px5 (w3 c) (by grind[aP,õ]) K<|p5_simple K λd s r a _=>?_;obtain rfl|rfl:=c
 .have a:=a;obtain ⟨a1,e,b⟩:=D8 a;exact ĝ (Gt.neg W<|Gt.neg W<|Gt.neg W<|Gt.neg (by rw [D4 a];decide)<|ĵ (by rw [D4 a];rfl)<|ŧ ⟨b,cX.node (cX.nil s) _ 3 [] 0 _ K⟩)
 .have a:=a;obtain ⟨a1,e,b⟩:=D8 a;exact ĝ (Gt.neg W<|Gt.neg W<|Gt.neg W<|ĵ (by rw [D4 a];rfl)<|ŧ ⟨b,cX.node (cX.nil s) _ 3 [] 1 _ K⟩)
theorem cp4:Px L (.nd 4 [] 0 []):=by
 refine px5 w4 (by grind[aP,õ]) K<|p5_simple K λd s r a _=>?_;have a:=a;obtain ⟨a1,c,b⟩:=D8 a;exact ĝ (Gt.neg W<|Gt.neg W<|Gt.neg W<|Gt.neg (by rw [D4 a];decide)<|Gt.neg (by rw [D4 a];decide)<|ĵ (by rw [D4 a];rfl)<|ŧ ⟨b,cX.node (cX.nil s) _ 4 [] 0 _ K⟩)
end
section
variable {L:List Tk}
def cp6 (c:List Nt) (o:Option Tr) (b:Nt) (B:Wn<|.nd 6 [] 0<|c++[.ty o,b]) (A:∀ p∈c,∃ M o,p=.nd 16 M 0 [.ty o]∧Wn (.ty o)) (w:(c.map Nt.tx).Nodup) (z:Wn<|.ty o) (u:∃ G,(me b).1=sg [123]::G) (t:Pb L b):Px L (.nd 6 [] 0<|c++[.ty o,b]):=by
 refine px5 B (by grind[aP,õ]) K<|p5_simple K λd s r a i=>?_;rw [UV] at a i;simp only at i;have a:tt L s.i=(2,[102,110])::sg [40]::(M8 τ (eG c)++sg [41]::(oV (pt<|.ty o)++((me b).1++r))):=by rw [a];simp
 obtain ⟨a1,N,f⟩:=D8 a;refine ĝ (Gt.neg W<|Gt.neg W<|Gt.neg W<|Gt.neg (by rw [D4 a];decide)<|Gt.neg (by rw [D4 a];decide)<|Gt.neg (by rw [D4 a];decide)<|ĵ (by rw [D4 a];rfl) ?_);refine ċ (Gt.ft (Q:=λj _=>j=s.nx.nx) f K) ?_;rintro j _ rfl;have k:=(D8 f).2.2;refine ċ (listP_more c d s.nx.nx _ w A k W) ?_;rintro S l ⟨m,P,g,e⟩;rw [List.nil_append] at g;subst g;have e:=e;obtain ⟨R,h⟩:=u;refine ċ (typeIf_more z m (by rw [h];rfl) (by rw [h];exact ⟨K,K⟩) W) ?_;rintro H x ⟨n,D⟩;refine ċ (t d H r n W) ?_;rintro T y ⟨q,F⟩;have v:=e.app<|D.cons F.l;refine ŧ ⟨q,v.node _ 6 [] 0 _ ?_⟩;show _=(⟨6,(l++[x,y]).getLastD 0,0,0,(l++[x,y]).dropLast.dropLast,[],0,(l++[x,y]).dropLast.getLastD 0,0⟩:Nd);rw [EY,UY,UX];rfl
def cp10 (c:List Nt) (m:Wn<|.nd 10 [] 0 c) (j:(c.map Nt.tx).Nodup) (k:∀ p∈c,∃ n a,p=.nd 15 n 0 [a]∧Wn a∧aP a.k∧PE L a):Px L (.nd 10 [] 0 c):=by
 refine px5 m (by grind[aP,õ]) K<|p5_simple K λd s r b g=>?_;rw [ZX] at b g;have b:tt L s.i=sg [123]::(M8 τ (eG c)++sg [125]::r):=by rw [b];simp
 obtain ⟨a1,o,h⟩:=D8 b;refine ĝ (Gt.neg W<|Gt.neg W<|Gt.neg W<|Gt.neg (by rw [D4 b];decide)<|Gt.neg (by rw [D4 b];decide)<|Gt.neg (by rw [D4 b];decide)<|Gt.neg (by rw [D4 b];decide)<|Gt.neg (by rw [D4 b];decide)<|ĵ (by rw [D4 b];rfl) ?_);refine ċ (listO_more c d s.nx r j k h g) ?_;rintro t l ⟨i,q,f,e⟩;rw [List.nil_append] at f;subst f;have e:=e;exact ŧ ⟨i,e.node _ 10 [] 0 _ K⟩
def cp11 (b:List Nt) (j:Wn<|.nd 11 [] 0 b) (i:∀ p∈b,Wn p∧aP p.k∧PE L p):Px L (.nd 11 [] 0 b):=by
 refine px5 j (by grind[aP,õ]) K<|p5_simple K λd s r a f=>?_;rw [ZZ] at a f;have a:tt L s.i=sg [91]::(M8 τ (eG b)++sg [93]::r):=by rw [a];simp
 obtain ⟨a1,k,g⟩:=D8 a;refine ĝ (Gt.neg W<|Gt.neg W<|Gt.neg W<|Gt.neg (by rw [D4 a];decide)<|Gt.neg (by rw [D4 a];decide)<|Gt.neg (by rw [D4 a];decide)<|Gt.neg (by rw [D4 a];decide)<|ĵ (by rw [D4 a];rfl) ?_);refine ċ (listE_more [93] ζ b d s.nx [] [] r i g f) ?_;rintro n l ⟨h,m,e,c⟩;rw [List.nil_append] at e;subst e;have c:=c;exact ŧ ⟨h,c.node _ 11 [] 0 _ K⟩
def p5_tail {t a:Nt} {tl:List TT} {dd:Nat} (e:uK t=5) (j:(me t).1=wt 5 (pt a)++tl) (k:(me t).2=max (wd 5<|pt a) dd) (u:∀ r,Y0 (tl++r) fo=κ) (l:P5 L a)
 (h:∀ d s b c r,tt L b.i=tl++r→Y0 r fo=κ→fE s a b c→dd≤20-d→∃ g i,Qn L r s t g i∧∀ R,Gt L (λq=>q.tail d g i) R→Gt L (λq=>q.tail d b c) R):P5 L t:=by
 intro d s r f p m;rw [(me5w t e).1,j,ľ] at f;rw [(me5w t e).2,k] at m;refine (l d s (tl++r) f (u r) W).tail ?_;rintro b c ⟨o,n⟩;exact h d s b c r o p n W
def cp7 (a:Nt) (c:List Nt) (x:Wn<|.nd 7 [] 0<|a::c) (q:P5 L a) (w:∀ p∈c,Wn p∧aP p.k∧PE L p):Px L (.nd 7 [] 0<|a::c):=by
 refine px5 x (by grind[aP,õ]) K<|p5_tail K (by rw [Lw]) (by rw [Lw]) (λ_=>K) q λd s i m r e A v t=>?_;have e:tt L i.i=sg [40]::(M8 τ (eG c)++sg [41]::r):=by rw [e];simp
 obtain ⟨a1,z,n⟩:=D8 e;obtain ⟨b,l,u,o,k,j,f⟩:=listE_more [41] ζ c d i.nx [] [] r w n t;rw [List.nil_append] at j;subst j;have f:=f;refine ⟨⟨b.i,b.N++[⟨7,m,0,0,l,[],0,-1,iC i m⟩],b.T⟩,Q b.N,⟨o,(v.cons f).node _ 7 [] 0 _ K⟩,λR h=>?_⟩;refine ĝ (ĵ (by rw [D4 e];rfl)<|ċ (ϊ:=λg k=>g=b∧k=l) ⟨b,l,u,K,K⟩ ?_);rintro _ _ ⟨rfl,rfl⟩;refine ċ (ϊ:=λg y=>g=_∧y=_) (ŧ ⟨K,K⟩) ?_;grind
def cp8 (e:bZ) (a:Nt) (n:Wn<|.nd 8 e 0 [a]) (l:P5 L a):Px L (.nd 8 e 0 [a]):=by
 refine px5 n (by grind[aP,õ]) K<|p5_tail (dd:=0) K (by rw [UU]) (by grind[UU]) (λ_=>K) l λd s c f r b u m t=>?_;have b:=b;obtain ⟨a1,q,g⟩:=D8 b;obtain ⟨i,j,k⟩:=D8 g;refine ⟨⟨c.i+1+1,c.N++[⟨8,f,0,0,[],e,0,-1,iC c f⟩],c.T⟩,Q c.N,⟨k,m.l.node _ 8 e 0 _ K⟩,λR h=>?_⟩;refine ĝ (Gt.neg (by rw [D4 b];decide)<|ĵ (by rw [D4 b];rfl)<|ĵ i ?_);refine ċ (ϊ:=λo p=>o=_∧p=_) (ŧ ⟨K,K⟩) ?_;rintro _ _ ⟨rfl,rfl⟩;rw [j];exact h
def cp9 (a b:Nt) (t:Wn<|.nd 9 [] 0 [a,b]) (m:P5 L a) (n:PE L b):Px L (.nd 9 [] 0 [a,b]):=by
 refine px5 t (by grind[aP,õ]) K<|p5_tail K (by rw [UT]) (by rw [UT]) (λ_=>K) m λd s i k r c x q o=>?_;have c:tt L i.i=sg [91]::((me b).1++sg [93]::r):=by rw [c];simp
 obtain ⟨a1,w,l⟩:=D8 c;obtain ⟨e,y,p,j,g⟩:=n d i.nx (sg [93]::r) l K o;have g:=g;refine ⟨⟨e.i+1,e.N++[⟨9,k,y,0,[],[],0,-1,iC i k⟩],e.T⟩,Q e.N,⟨(D8 j).2.2,(q.cons g.l).node _ 9 [] 0 _ K⟩,λR h=>?_⟩;refine ĝ (Gt.neg (by rw [D4 c];decide)<|Gt.neg (by rw [D4 c];decide)<|ĵ (by rw [D4 c];rfl)<|ċ (ϊ:=λf u=>f=e∧u=y) ⟨e,y,p,K,K⟩ ?_);rintro _ _ ⟨rfl,rfl⟩;refine ċ (Gt.ft (Q:=λf _=>f=_) j K) ?_;rintro _ _ rfl;refine ċ (ϊ:=λf v=>f=_∧v=_) (ŧ ⟨K,K⟩) ?_;rintro _ _ ⟨rfl,rfl⟩;exact h
def cp14 (a:Nt) (t:Tr) (q:Wn<|.nd 14 [] 0 [a,.ty<|C t]) (u:Wf t) (m:P5 L a):Px L (.nd 14 [] 0 [a,.ty<|C t]):=by
 refine px5 q (by grind[aP,õ]) K<|p5_tail K (by rw [Za]) (by rw [Za]) (λ_=>K) m λd s i j r b g p n=>?_;have b:=b;obtain ⟨a1,x,k⟩:=D8 b;obtain ⟨c,y,o,l,e⟩:=(dt_all t u).1 d i.nx r k ⟨by rw [isS_hasS];exact hasS_sub g ζ,by rw [isS_hasS];exact hasS_sub g ζ⟩ n;have e:=jD.n e;refine ⟨⟨c.i,c.N++[⟨14,j,0,0,[],[],0,y,iC i j⟩],c.T⟩,Q c.N,⟨l,(p.cons e.l).node _ 14 [] 0 _ K⟩,λR h=>?_⟩;refine ĝ (Gt.neg (by rw [D4 b];decide)<|Gt.neg (by rw [D4 b];decide)<|Gt.neg (by rw [D4 b];decide)<|ĵ (by rw [D4 b];rfl)<|ċ (ϊ:=λf v=>f=c∧v=y) ⟨c,y,o,K,K⟩ ?_);rintro _ _ ⟨rfl,rfl⟩;refine ċ (ϊ:=λf w=>f=_∧w=_) (ŧ ⟨K,K⟩) ?_;grind
end
section
variable {L:List Tk}
def cp13 (c:bZ) (a:Nt) (p:Wn<|.nd 13 c 0 [a]) (f:c∈[[33],[45],[116,121,112,101,111,102]]) (q:Wn a) (m:aP a.k) (l:P4 L a):Px L (.nd 13 c 0 [a]):=by
 refine px4 p (by grind[aP,õ]) K λd s r b o h=>?_;rw [qC 4 _<|by exact Nat.le_refl _,uC,VC] at b;rw [qB 4 _<|by exact Nat.le_refl _,pN,VC] at h;simp only at h;have b:=b;obtain ⟨k,b,n⟩:∃ k,tt L s.i=(k,c)::(wt 4 (pt a)++r)∧(k==5||k==2)=τ:=by
  simp at f;obtain rfl|rfl|rfl:=f
  .exact ⟨5,b,K⟩
  .exact ⟨5,b,K⟩
  .exact ⟨2,b,K⟩
 obtain ⟨a1,i,g⟩:=D8 b;refine ĝ<|ĵ (by rw [D4 b,n,Ju f];rfl) ?_;refine ċ (Gt.inside (((wt_fb (fst_E q m) 4).app r).beg g) W<|l (d+1) s.nx r g o W) ?_;rintro t x ⟨j,e⟩;have e:=e;rw [i];exact ŧ ⟨j,e.l.node _ 13 c 0 _ K⟩
theorem cp12 (c:bZ) (a b:Nt) (p:Wn<|.nd 12 c 0 [a,b]) (t:c∈[[61,61],[60],[43],[45],[42]]) (n:Px L a) (o:Px L b):Px L (.nd 12 c 0 [a,b]):=by
 have A:c=[42]→Px L (.nd 12 c 0 [a,b]):=by
  rintro rfl;refine px3 p (by grind[aP,õ]) K λd s r e l g=>?_;rw [qC 3 _<|by show 3≤jO 12 [42];decide,uC,ZE] at e;rw [qB 3 _<|by show 3≤jO 12 [42];decide,pN,ZE] at g;have e:tt L s.i=wt 3 (pt a)++sg [42]::(wt 4 (pt b)++r):=by rw [e,ľ];rfl
  have g:max (wd 3<|pt a) (wd 4<|pt b)≤20-d:=g;refine (n.p3 d s _ e K W).tail ?_;rintro m v ⟨i,k⟩;exact zU ζ i k (o.p4 d m.nx r (D8 i).2.2 l W)
 have u:c∈J4 τ→Px L (.nd 12 c 0 [a,b]):=by
  intro j;have f:jO 12 c=2∧lv c=2∧Y0 [sg c] f3=κ:=by
   simp only [J4,List.mem_cons,List.not_mem_nil,or_false] at j;obtain rfl|rfl:=j<;>decide
  refine px2 p (by grind[aP,õ]) f.1 λd s r e l g=>?_;rw [qC 2 _<|by show 2≤jO 12 c;omega,uC,ZE,f.1,f.2.1] at e;rw [qB 2 _<|by show 2≤jO 12 c;omega,pN,ZE,f.1,f.2.1] at g;have e:tt L s.i=wt 2 (pt a)++sg c::(wt 3 (pt b)++r):=by rw [e,ľ];rfl
  have g:max (wd 2<|pt a) (wd 3<|pt b)≤20-d:=g;refine (n.p2 d s _ e f.2.2 W).tail ?_;rintro m v ⟨i,k⟩;exact zU j i k (prod_of o.p3 d m.nx r (D8 i).2.2 l W)
 have x:c∈[[61,61],[60]]→Px L (.nd 12 c 0 [a,b]):=by
  intro j;have f:jO 12 c=1∧lv c=2∧Y0 [sg c] f2=κ:=by
   simp at j;obtain rfl|rfl:=j<;>decide
  refine px1 p (by grind[aP,õ]) f.1 λd s r e l g=>?_;rw [ZE,f.1,f.2.1] at e g;have e:tt L s.i=wt 2 (pt a)++sg c::(wt 2 (pt b)++r):=by rw [e,ľ];rfl
  have g:max (wd 2<|pt a) (wd 2<|pt b)≤20-d:=g;refine ĝ (ċ (sum_of n.p2 d s _ e f.2.2 W) ?_);rintro m v ⟨i,k⟩;refine ĵ (by rw [D4 i,Ju j];rfl) ?_;refine ċ (sum_of o.p2 d m.nx r (D8 i).2.2 (hasS_sub l f12) W) ?_;rintro z y ⟨w,q⟩;have q:=q;rw [(D8 i).2.1];exact ŧ ⟨w,(k.cons q.l).node _ 12 c 0 _ K⟩
 simp at t;obtain h|h|h|h|h:=t
 .grind
 .grind
 .exact u (by rw [h];decide)
 .exact u (by rw [h];decide)
 grind
/-!### Statements -/
def ϕ.beg {i:Nat} {l:List TT} (h:ϕ l) (a:tt L i=l):MC L i=τ∧(tk L i).x≠6:=by
 obtain ⟨k,x,r,rfl,h⟩:=h;obtain ⟨b,_,_⟩:=D8 a;rw [MC,lY,b,D4 a,D4 a];grind[has]
theorem fst_S {t:Nt} (l:Wn t) (k:17≤t.k∧t.k≤25):ϕ (me t).1:=by
 cases M7 l with
 |n17 i a b h d e f g=>rw [Ae];exact ϕ.w _ ζ
 |n18 i a h d e=>rw [Ah];exact ⟨1,_,_,K,.inl K⟩
 |n19 i a b h d e f g=>rw [Ak];exact ((wt_fs<|fst_E d e).b.s).app _
 |n20 a b c d e f g j m=>rw [Ao];exact ((wt_fs<|fst_E d e).b.s).app _
 |n21 a d e=>rw [Au];exact ϕ.w _ ζ
 |n22 a b c d e f g j m=>rw [Ax];exact ϕ.w _ ζ
 |n23 a b d e f g=>rw [Ba];exact ϕ.w _ ζ
 |n24 a d e=>rw [Bc];exact ϕ.w _ ζ
 |n25 a d e=>rw [Bh];exact ((fst_E d e).1.s).app _
 |_=>simp [õ] at k
def stmt_of {t:Nt} (e:Wn t) (b:17≤t.k∧t.k≤25) (h:Ps L t) {d:Nat} {s:St} {r:List TT} (a:tt L s.i=(me t).1++r) (c:Y0 r [[101,108,115,101]]=κ) (f:(me t).2+1≤20-d):Gt L (λq=>q.gy d s) (Qn L r s t):=
 ĝ (Gt.inside (((fst_S e b).app r).beg a).1 W<|h (d+1) s r a c W)
def fl_else {a:List Nt} (b:∀ p∈a,Wn p∧(17≤p.k∧p.k≤25)∧Ps L p) {r:List TT} (c:Y0 r [[101,108,115,101]]=κ):Y0 (oP (eG a)++r) [[101,108,115,101]]=κ:=by
 cases a with
 |nil=>exact c
 |cons p a=>
  have:=b p θ;rw [J5,oP,uC,ľ];exact ((fst_S this.1 this.2.1).app _).no ζ
def blockL_more:∀ (b:List Nt) (d:Nat) (s:St) (c:uZ) (r:List TT),(∀ p∈b,Wn p∧(17≤p.k∧p.k≤25)∧Ps L p)→tt L s.i=oP (eG b)++sg [125]::r→mx 1 (eG b)≤20-d→Gt L (λq=>q.gj d s c) (QnL L r s b c)
 |[],d,s,c,r,_,a,_=>by
  have a:tt L s.i=sg [125]::r:=a;exact ĝ (ĵ (by rw [D4 a];rfl)<|Gt.pure ⟨(D8 a).2.2,[],θ,cX.nil s⟩)
 |p::b,d,s,c,r,e,a,k=>by
  rw [J5,mx,pN] at k;have a:tt L s.i=(me p).1++(oP (eG b)++sg [125]::r):=by rw [a,J5,oP,uC,ľ]
  obtain ⟨f,g,h⟩:=e p θ;refine ĝ (Gt.neg (by rw [isM_hasS,a,((fst_S f g).app _).no ζ];simp) ?_);refine ċ (stmt_of f g h a (fl_else (λq n=>e q η) K) W) ?_;rintro u x ⟨i,m⟩;refine (blockL_more b d u (c++[x]) r (λq n=>e q η) i W).mono ?_;rintro v l ⟨j,t,rfl,o⟩;exact ⟨j,x::t,θ,m.cons o⟩
def progL_more:∀ (b:List Nt) (d:Nat) (s:St) (c:uZ),(∀ p∈b,Wn p∧(17≤p.k∧p.k≤25)∧Ps L p)→tt L s.i=oP (eG b)++[(6,[])]→mx 1 (eG b)≤20-d→Gt L (λq=>q.jd d s c) (QnL L [(6,[])] s b c)
 |[],d,s,c,_,a,_=>by
  have a:tt L s.i=[(6,[])]:=a;exact ĝ (ĵ (D8 a).1<|Gt.pure ⟨a,[],θ,cX.nil s⟩)
 |p::b,d,s,c,e,a,k=>by
  rw [J5,mx,pN] at k;have a:tt L s.i=(me p).1++(oP (eG b)++[(6,[])]):=by rw [a,J5,oP,uC,ľ]
  obtain ⟨f,g,h⟩:=e p θ;refine ĝ<|Gt.neg (((fst_S f g).app _).beg a).2 ?_;refine ċ (stmt_of f g h a (fl_else (λq n=>e q η) K) W) ?_;rintro t x ⟨i,m⟩;refine (progL_more b d t (c++[x]) (λq n=>e q η) i W).mono ?_;rintro u l ⟨j,r,rfl,o⟩;exact ⟨j,x::r,θ,m.cons o⟩
def cp26 (b:List Nt) (h:∀ p∈b,Wn p∧(17≤p.k∧p.k≤25)∧Ps L p):Pb L (.nd 26 [] 0 b):=by
 intro d s r a f;rw [Ij] at a f;have a:tt L s.i=sg [123]::(oP (eG b)++sg [125]::r):=by rw [a];simp
 refine ĝ<|ċ (Gt.ft (Q:=λi _=>i=s.nx) a K) ?_;rintro _ _ rfl;refine ċ (blockL_more b d s.nx [] r h (D8 a).2.2 f) ?_;rintro k l ⟨g,j,e,c⟩;rw [List.nil_append] at e;subst e;have c:=c;exact ŧ ⟨g,c.node _ 26 [] 0 _ K⟩
def any_words {s:St} {l:List TT} (h:Fb l) (b:tt L s.i=l):∀ m∈KE,¬aL L s.i [m]=τ:=by
 intro m a;rw [isM_hasS,b,h.no ?_]
 .simp
 .simp only [KE,List.mem_cons,List.not_mem_nil,or_false] at a;obtain rfl|rfl|rfl|rfl|rfl:=a<;>decide
def cp17 (g:bZ) (o:Option Tr) (b:Nt) (t:Wn<|.ty o) (q:PE L b):Ps L (.nd 17 g 0 [.ty o,b]):=by
 intro d s r a _ j;rw [Ae] at a j;simp only at j;have a:tt L s.i=(2,[108,101,116])::(1,g)::(oV (pt<|.ty o)++sg [61]::((me b).1++sg [59]::r)):=by rw [a];simp
 obtain ⟨a1,v,l⟩:=D8 a;obtain ⟨m,n,p⟩:=D8 l;refine ĝ (ĵ (by rw [D4 a];rfl)<|ĵ m ?_);refine ċ (typeIf_more t p K ⟨K,K⟩ W) ?_;rintro k x ⟨h,c⟩;have c:=c;refine ċ (Gt.ft (Q:=λf _=>f=k.nx) h K) ?_;rintro _ _ rfl;refine ċ (q d k.nx (sg [59]::r) (D8 h).2.2 K W) ?_;rintro u y ⟨i,e⟩;have e:=e;refine ċ (Gt.ft (Q:=λf _=>f=u.nx) i K) ?_;rintro _ _ rfl;rw [n];exact ŧ ⟨(D8 i).2.2,(c.cons e.l).node _ 17 g 0 _ K⟩
def cp21 (a:Nt) (g:PE L a):Ps L (.nd 21 [] 0 [a]):=by
 intro d s r b _ f;rw [Au] at b f;have b:tt L s.i=(2,[112,114,105,110,116])::((me a).1++sg [59]::r):=by rw [b];simp
 refine ĝ (Gt.neg (by rw [D4 b];decide)<|ĵ (by rw [D4 b];rfl) ?_);refine ċ (g d s.nx (sg [59]::r) (D8 b).2.2 K f) ?_;rintro i y ⟨e,c⟩;have c:=c;refine ċ (Gt.ft (Q:=λh _=>h=i.nx) e K) ?_;rintro _ _ rfl;exact ŧ ⟨(D8 e).2.2,c.l.node _ 21 [] 0 _ K⟩
def cp24 (a:Nt) (g:PE L a):Ps L (.nd 24 [] 0 [a]):=by
 intro d s r b _ f;rw [Bc] at b f;have b:tt L s.i=(2,[114,101,116,117,114,110])::((me a).1++sg [59]::r):=by rw [b];simp
 refine ĝ (Gt.neg (by rw [D4 b];decide)<|Gt.neg (by rw [D4 b];decide)<|ĵ (by rw [D4 b];rfl) ?_);refine ċ (g d s.nx (sg [59]::r) (D8 b).2.2 K f) ?_;rintro i y ⟨e,c⟩;have c:=c;refine ċ (Gt.ft (Q:=λh _=>h=i.nx) e K) ?_;rintro _ _ rfl;exact ŧ ⟨(D8 e).2.2,c.l.node _ 24 [] 0 _ K⟩
def cp25 (a:Nt) (j:Wn a) (i:aP a.k) (h:PE L a):Ps L (.nd 25 [] 0 [a]):=by
 intro d s r c _ g;rw [Bh] at c g;have c:tt L s.i=(me a).1++sg [59]::r:=by rw [c];simp
 have b:=any_words ((fst_E j i).1.app _) c;refine ĝ (Gt.neg (b _ ζ)<|Gt.neg (b _ ζ)<|Gt.neg (b _ ζ)<|Gt.neg (b _ ζ)<|Gt.neg (b _ ζ) ?_);refine ċ (h d s (sg [59]::r) c K g) ?_;rintro l y ⟨e,f⟩;have f:=f;refine Gt.neg (by rw [D4 e];decide) ?_;refine ċ (Gt.ft (Q:=λk _=>k=l.nx) e K) ?_;rintro _ _ rfl;exact ŧ ⟨(D8 e).2.2,f.l.node _ 25 [] 0 _ K⟩
def cp23 (a b:Nt) (l:PE L a) (m:Pb L b):Ps L (.nd 23 [] 0 [a,b]):=by
 intro d s r c _ i;rw [Ba] at c i;simp only at i;have c:tt L s.i=(2,[119,104,105,108,101])::sg [40]::((me a).1++sg [41]::((me b).1++r)):=by rw [c];simp
 obtain ⟨a1,o,g⟩:=D8 c;refine ĝ (Gt.neg (by rw [D4 c];decide)<|Gt.neg (by rw [D4 c];decide)<|Gt.neg (by rw [D4 c];decide)<|Gt.neg (by rw [D4 c];decide)<|ĵ (by rw [D4 c];rfl) ?_);refine ċ (Gt.ft (Q:=λf _=>f=s.nx.nx) g K) ?_;rintro _ _ rfl;refine ċ (l d s.nx.nx _ (D8 g).2.2 K W) ?_;rintro j x ⟨h,e⟩;have e:=e;refine ċ (Gt.ft (Q:=λf _=>f=j.nx) h K) ?_;rintro _ _ rfl;refine ċ (m d j.nx r (D8 h).2.2 W) ?_;rintro p y ⟨k,n⟩;exact ŧ ⟨k,(e.cons n.l).node _ 23 [] 0 _ K⟩
def cp22 (a b c:Nt) (p:PE L a) (q:Pb L b) (h:c=.ty none∨c.k=26∧Pb L c):Ps L (.nd 22 [] 0 [a,b,c]):=by
 intro d s r f w m;rw [Ax] at f m;simp only at m;have f:tt L s.i=(2,[105,102])::sg [40]::((me a).1++sg [41]::((me b).1++((if c.k=-1 then [] else (2,[101,108,115,101])::(me c).1)++r))):=by rw [f];simp
 obtain ⟨a1,v,k⟩:=D8 f;refine ĝ (Gt.neg (by rw [D4 f];decide)<|Gt.neg (by rw [D4 f];decide)<|Gt.neg (by rw [D4 f];decide)<|ĵ (by rw [D4 f];rfl) ?_);refine ċ (Gt.ft (Q:=λj _=>j=s.nx.nx) k K) ?_;rintro _ _ rfl;refine ċ (p d s.nx.nx _ (D8 k).2.2 K W) ?_;rintro n x ⟨l,i⟩;have i:=i;refine ċ (Gt.ft (Q:=λj _=>j=n.nx) l K) ?_;rintro _ _ rfl;refine ċ (q d n.nx _ (D8 l).2.2 W) ?_;rintro g y ⟨e,t⟩;refine ċ (ϊ:=Qn L r g c) ?_ ?_
 .rcases h with rfl|⟨hk,h⟩
  .have e:tt L g.i=r:=e;exact Gt.neg (by grind[isM_hasS])<|Gt.pure ⟨e,fE.none g⟩
  .rw [if_neg W] at e;have e:=e;exact ĵ (by rw [D4 e];rfl) (h d g.nx r (D8 e).2.2 W)
 .rintro A z ⟨o,u⟩;exact ŧ ⟨o,(i.cons<|t.cons u.l).node _ 22 [] 0 _ K⟩
def set_more {k:Int} {c:bZ} {n:Int} {b:List Nt} {u:Nt} (j:k=5∨k=8∨k=9) (H:Wn<|.nd k c n b) (D:PE L<|.nd k c n b) (F:PE L u) {d:Nat} {s:St} {r:List TT}
 (t:tt L s.i=(me<|.nd k c n b).1++sg [61]::((me u).1++sg [59]::r)) (w:(me<|.nd k c n b).2+1≤20-d) (z:(me u).2+1≤20-d):
 Gt L (λq=>q.any d s) (λg y=>∃ a m l v,g=⟨a.i,a.N++[kJ m v],a.T⟩∧y=Q a.N∧tt L a.i=r∧m.fl=bV k c n l∧l=bD (Q s.N) (Q s.T) b∧cX s (b++[u]) a (l++[v])):=by
 have A:aP (Nt.nd k c n b).k:=by obtain rfl|rfl|rfl:=j<;>simp [aP,õ]
 have e:=any_words ((fst_E H A).1.app _) t;refine ĝ (Gt.neg (e _ ζ)<|Gt.neg (e _ ζ)<|Gt.neg (e _ ζ)<|Gt.neg (e _ ζ)<|Gt.neg (e _ ζ) ?_);refine ċ (D d s _ t K w) ?_;rintro f x ⟨h,M⟩;obtain ⟨l,p,o⟩:=M.split<|f.i+1;have B:(f.N.getD x.toNat kB).x=k:=by
  have:=congrArg Nd.x p;rw [J7] at this;exact this
 refine ĵ (by rw [D4 h];rfl)<|Gt.neg (by rw [B];obtain rfl|rfl|rfl:=j<;>decide) ?_;refine ċ (F d ⟨f.i+1,f.N.take x.toNat,f.T⟩ (sg [59]::r) (D8 h).2.2 K z) ?_;rintro a v ⟨i,G⟩;refine ċ (Gt.ft (Q:=λg _=>g=a.nx) i K) ?_;rintro _ _ rfl;exact ŧ ⟨a.nx,_,l,v,K,K,(D8 i).2.2,p,o.2.2,o.app<|fE.l G⟩
def cp18 (c:bZ) (u:Nt) (f:S6 c) (j:PE L u):Ps L (.nd 18 c 0 [u]):=by
 intro d s r i _ a;rw [Ah] at i a;simp only at a;refine (set_more (.inl K) (w5 f) (cp5 c f).pe j (r:=r) (by grind[Lx]) (by grind[Lx]) a).mono ?_;rintro A y ⟨n,m,l,v,rfl,rfl,g,e,b,h⟩;have b:=b;subst b;refine ⟨g,?_⟩;obtain ⟨mk,o,q,t,w,k,x,z,p⟩:=m;simp [ģ,bV] at e;obtain ⟨rfl,rfl,rfl,rfl,rfl,rfl,rfl,rfl⟩:=e;exact h.node n.i 18 k 0 _ K
def cp19 (b:bZ) (a u:Nt) (o:Wn<|.nd 8 b 0 [a]) (h:PE L<|.nd 8 b 0 [a]) (n:PE L u):Ps L (.nd 19 b 0 [a,u]):=by
 intro d s r k _ c;rw [Ak] at k c;simp only at c;refine (set_more (.inr<|.inl K) o h n (r:=r) (by grind[UU]) (by grind[UU]) W).mono ?_;rintro F y ⟨q,m,l,v,rfl,rfl,g,e,j,i⟩;obtain ⟨f,rfl⟩:∃ f,l=[f]:=⟨_,j⟩;refine ⟨g,?_⟩;obtain ⟨mk,t,x,z,A,p,B,D,w⟩:=m;simp [ģ,bV] at e;obtain ⟨rfl,rfl,rfl,rfl,rfl,rfl,rfl,rfl⟩:=e;exact i.node q.i 19 p 0 _ K
def cp20 (a b u:Nt) (p:Wn<|.nd 9 [] 0 [a,b]) (i:PE L<|.nd 9 [] 0 [a,b]) (o:PE L u):Ps L (.nd 20 [] 0 [a,b,u]):=by
 intro d s r n _ c;rw [Ao] at n c;simp only at c;refine (set_more (.inr<|.inr K) p i o (r:=r) (by grind[UT]) (by grind[UT]) W).mono ?_;rintro G y ⟨q,m,l,v,rfl,rfl,h,e,k,j⟩;obtain ⟨f,g,rfl⟩:∃ f g,l=[f,g]:=⟨_,_,k⟩;refine ⟨h,?_⟩;obtain ⟨mk,t,x,z,A,D,B,F,w⟩:=m;simp [ģ,bV] at e;obtain ⟨rfl,rfl,rfl,rfl,rfl,rfl,rfl,rfl⟩:=e;exact j.node q.i 20 [] 0 _ K
theorem szNL_app (a b:List Nt):E7 (a++b)=E7 a+E7 b:=by
 induction a<;>grind[E7]
def all_back:∀ (m:Nat) (t:Nt),uD t≤m→Wn t→vU (L:=L) t
 |0,t,j,_=>by grind[A8b]
 |m+1,t,j,w=>by
  have y:=all_back m;have g:=λa d T S=>(y a d T).ex S;have v:∀ {k:Int} {l:bZ} {n:Int} {u:List Nt},1≤k∧k≤14→aP (Nt.nd k l n u).k:=λh=>h;cases M7 w with
  |ty0=>grind[vU.no,aP,õ]
  |ty1 t M=>grind[vU.no,aP,õ]
  |n1 n B=>grind[vU.e,cp1]
  |n2 l s=>grind[vU.e,cp2]
  |n3 n B=>grind[vU.e,cp3]
  |n4=>grind[vU.e,cp4]
  |n5 l s=>grind[vU.e,cp5]
  |n6 u a b i B d e q r=>
   rw [uD,szNL_app,E7,E7,E7] at j;obtain ⟨o,rfl⟩:=uA d e;refine vU.e (v W) (cp6 u o b w (λp f=>?_) B d ?_<|(y b W q).bl r)
   .have z:=i p f;have A:=M7 z.1;cases A with
    |n16 l F s G H=>
     grind[uA]
    |_=>have:=z.2;simp [õ] at this
   .have A:=M7 q;cases A with
    |n26 qs Z=>exact ⟨_,K⟩
    |_=>simp [õ] at r
  |n7 a u d e i=>
   rw [uD,E7] at j;exact vU.e (v W)<|cp7 a u w (g a W d e).p5 λp f=>⟨(i p f).1,(i p f).2,(g p (by have:=S9 f;omega) (i p f).1 (i p f).2).pe⟩
  |n8 l a s d e=>
   rw [uD,E7] at j;exact vU.e (v W)<|cp8 l a w (g a W d e).p5
  |n9 a b d e q r=>
   rw [uD,E7,E7] at j;exact vU.e (v W)<|cp9 a b w (g a W d e).p5 (g b W q r).pe
  |n10 u i B=>
   rw [uD] at j;refine vU.e (v W)<|cp10 u w B λp f=>?_;have R:=S9 f;have z:=i p f;have A:=M7 z.1;cases A with
   |n15 l F s G H=>
    rw [uD,E7] at R;exact ⟨l,F,K,G,H,(g F W G H).pe⟩
   |_=>have:=z.2;simp [õ] at this
  |n11 u i=>
   rw [uD] at j;exact vU.e (v W)<|cp11 u w λp f=>⟨(i p f).1,(i p f).2,(g p (by have:=S9 f;omega) (i p f).1 (i p f).2).pe⟩
  |n12 l a b s d e q r=>
   grind[uD,E7,vU.e,cp12]
  |n13 l a s d e=>
   rw [uD,E7] at j;exact vU.e (v W)<|cp13 l a w s d e (g a W d e).p4
  |n14 a t d e M=>
   rw [uD,E7] at j;exact vU.e (v W)<|cp14 a t w M (g a W d e).p5
  |n15 l a s d e=>grind[vU.no,aP,õ]
  |n16 l a s d e=>grind[vU.no,aP,õ]
  |n17 l a b s d e q r=>
   rw [uD,E7,E7] at j;obtain ⟨o,rfl⟩:=uA d e;exact vU.s (by simp [õ])<|cp17 l o b d (g b W q r).pe
  |n18 l a s d e=>
   rw [uD,E7] at j;exact vU.s (by simp [õ])<|cp18 l a s (g a W d e).pe
  |n19 l a b s d e q r=>
   rw [uD,E7,E7,E7] at j;have i:=A8b b;have N:=w8 s d e;exact vU.s (by simp [õ]) (cp19 l a b N (g _ (by grind[uD,E7]) N<|v W).pe (g b W q r).pe)
  |n20 a b c d e q r D x=>
   rw [uD,E7,E7,E7,E7] at j;have i:=A8b c;have P:=w9 d e q r;exact vU.s (by simp [õ]) (cp20 a b c P (g _ (by grind[uD,E7]) P<|v W).pe (g c W D x).pe)
  |n21 a d e=>
   rw [uD,E7] at j;exact vU.s (by simp [õ])<|cp21 a (g a W d e).pe
  |n22 a b c d e q r D x=>
   rw [uD,E7,E7,E7] at j;refine vU.s (by simp [õ])<|cp22 a b c (g a W d e).pe ((y b W q).bl r) ?_;obtain x|x:=x
   .exact .inr ⟨x,(y c W D).bl x⟩
   .left;obtain ⟨o,rfl⟩:=uA D<|.inl x;cases o<;>grind[õ]
  |n23 a b d e q r=>
   rw [uD,E7,E7] at j;exact vU.s (by simp [õ]) (cp23 a b (g a W d e).pe<|(y b W q).bl r)
  |n24 a d e=>
   rw [uD,E7] at j;exact vU.s (by simp [õ])<|cp24 a (g a W d e).pe
  |n25 a d e=>
   rw [uD,E7] at j;exact vU.s (by simp [õ])<|cp25 a d e (g a W d e).pe
  |n26 u i=>
   rw [uD] at j;exact vU.b K<|cp26 u λp f=>⟨(i p f).1,(i p f).2,(y p (by have:=S9 f;omega) (i p f).1).st (i p f).2⟩
def prg_back {a:List Nt} (c:∀ p∈a,Wn p∧17≤p.k∧p.k≤25) (j:tt L 0=oP (eG a)++[(6,[])]) (n:mx 1 (eG a)≤20):
 ∃ b x,Ev L (lB 0 ⟨0,[],[]⟩) (.ok b x)∧b.N.map ģ=iR 0 0 (.nd 26 [] 0 a)∧b.T=Y2 0 a:=by
 have h:Gt L (lB 0 ⟨0,[],[]⟩) (λb x=>fE ⟨0,[],[]⟩ (.nd 26 [] 0 a) b x):=by
  refine ċ (progL_more a 0 ⟨0,[],[]⟩ [] (λp d=>⟨(c p d).1,(c p d).2,(all_back _ p (Nat.le_refl _) (c p d).1).st (c p d).2⟩) j W) ?_;rintro k l ⟨m,o,e,i⟩;rw [List.nil_append] at e;subst e;exact ŧ<|i.node k.i 26 [] 0 ⟨26,0,0,0,l,[],0,-1,0⟩ K
 obtain ⟨b,x,g,f⟩:=h;exact ⟨b,x,g,by simpa using f.1,by simpa [gL] using f.2.1⟩
end
def nN_mem:∀ {a:List Nt} {p:Nt},p∈a→nN p≤aB a
 |q::r,p,h=>by
  rw [List.mem_cons] at h;rw [aB];obtain rfl|h:=h
  .omega
  .have:=nN_mem h;omega
section
variable {N:List Nd} {T:List Ty} {a:List Nt}
def bJ.num (h:bJ N T a) (i:Nat) (b:i<Q N):0≤N[i].n∧N[i].n≤999999999:=by
 have c:N[i].fl∈iR 0 0 (.nd 26 [] 0 a):=by
  rw [← h.ey];exact List.mem_map_of_mem<|List.getElem_mem b
 have:=em_n (.nd 26 [] 0 a) (mM h.wn) 0 0 _ c;exact this
theorem bJ.sz (h:bJ N T a) {p:Nt} (b:p∈a):uD p≤2401:=by
 have c:=(sz_two p<|Y7 p (h.wn p b).1).1;have d:=nN_mem b;have e:=h.n;have f:=h.fp;omega
theorem bJ.len (h:bJ N T a):Q (We 0<|EU 0 a)≤1000000000000:=by
 have c:=szL_two a<|YQ a h.wl;have d:=xS a;have e:=h.fq;have f:=h.n;have g:=h.fp;have b:=h.jz;rw [h.t] at b;have i:=len_prL 4000 16200 ζ a 0 h.wl W;have j:=len_lines 4000 0 ζ<|EU 0 a;omega
def bJ.back (h:bJ N T a) (n:Q (We 0<|EU 0 a)≤4000):∃ c,dZ (We 0<|EU 0 a) (.inr (c,T))∧c.map ģ=N.map ģ∧bJ c T a:=by
 have i:Lex (We 0<|EU 0 a) (oP<|eG a):=by
  have:=lex_lines 0 a (λp o=>lex_pr _ p (Nat.le_refl _) (h.wn p o).1) Lex.nil;simpa using this
 have g:=lex_ok i n h.kz;have q:=lex_scan i g;obtain ⟨b,x,m,d,l⟩:=prg_back h.wn q h.deep;have f:Q b.N=Q N:=by
  have j:=congrArg Q d;have k:=congrArg Q h.ey;rw [List.length_map] at j k;omega
 have e:b.T=T:=by rw [l,h.types]
 refine ⟨b.N,⟨g,b,x,m,by rw [f];exact h.fp,by rw [e];exact h.jz,K,e⟩,by rw [d,h.ey],?_⟩;exact ⟨h.wn,d,h.types,h.kz,h.deep,by rw [f];exact h.fp,h.jz⟩
end
def tres_one {l:bZ} {T:List Ty} {o:(Int×Int) ⊕ List Ty} (h:TRes l<|.inr T) (k:TRes l o):o=.inr T:=by
 obtain ⟨f,n,x,a,j,g,i,rfl⟩:=h;obtain⟨e,p⟩|d:=o
 .exfalso;obtain ⟨m,k⟩:=k;obtain⟨k1,_⟩|⟨_,k⟩:=k
  .omega
  .rcases k with k|⟨b,c,k,k2⟩
   .cases a.one k
   .have:=a.one k;grind
 .obtain ⟨_,b,c,k,_,_,_,rfl⟩:=k;have:=a.one k;grind
def prs_at {l:bZ} {a:List Nt} (j:(O8 l).2.1=0) (k:tt (O8 l).1 0=oP (eG a)++[(6,[])]) (g:∀ p∈a,Wn p∧17≤p.k∧p.k≤25) (f:mx 1 (eG a)≤20) (i:Q (oP<|eG a)≤1000) (o:aB a+1≤1200) (q:cK a≤300):
 ∃ N T,dZ l (.inr (N,T))∧bJ N T a:=by
 obtain ⟨b,x,h,d,e⟩:=prg_back g k f;have m:Q b.N=aB a+1:=by
  have c:=congrArg Q d;rw [List.length_map,R6,nN] at c;exact c
 have n:Q b.T=cK a:=by rw [e,FX]
 exact ⟨b.N,b.T,⟨j,b,x,h,W,W,K,K⟩,g,d,e,i,f,W,W⟩
theorem itoa_one (n:Nat) (h:n<10):Lib.itoa (n:Int)=[UInt8.ofNat<|48+n]:=by
 simp_all[itoa_pos,Lib.decDigits,dif_pos]
def bt2:List Nt:=[.nd 17 xN 0 [.ty none,.nd 12 [42] 0 [.nd 12 [43] 0 [.nd 1 [] 1 [],.nd 1 [] 2 []],.nd 1 [] 3 []]]]
def bt2_ok:∀ p∈bt2,Wn p∧17≤p.k∧p.k≤25:=by
 intro p a;simp only [bt2,List.mem_cons,List.not_mem_nil,or_false] at a;subst a;exact ⟨UJ Gf trivial (.inl K) (KS ζ (KS ζ (w1 W) (by grind[aP,õ]) (w1 W)<|by grind[aP,õ]) (by grind[aP,õ]) (w1 W)<|by grind[aP,õ])<|by grind[aP,õ],by simp [õ]⟩
theorem bt2_tk:oP (eG bt2)=[(2,[108,101,116]),(1,[120]),sg [61],sg [40],(3,[49]),sg [43],(3,[50]),sg [41],sg [42],(3,[51]),sg [59]]:=by
 have e:oP (eG bt2)=[(2,[108,101,116]),(1,[120]),sg [61],sg [40],(3,Lib.itoa ((1:Nat):Int)),sg [43],(3,Lib.itoa ((2:Nat):Int)),sg [41],sg [42],(3,Lib.itoa ((3:Nat):Int)),sg [59]]:=K;rw [e,itoa_one 1 ζ,itoa_one 2 ζ,itoa_one 3 ζ];rfl
def bt2_at:∃ N T,dZ [108,101,116,32,120,61,40,49,43,50,41,42,51,59] (.inr (N,T))∧bJ N T bt2:=by
 refine prs_at Ω ?_ bt2_ok ζ (by simp_all[bt2_tk]) ζ ζ;rw [bt2_tk];rfl
theorem bt2_txt:We 0 (EU 0 bt2)=[108,101,116,32,120,32,61,32,40,49,32,43,32,50,41,32,42,32,51,59]++[10]:=by
 have e:We 0 (EU 0 bt2)=(mg 0++(([108,101,116,32]++xN)++QJ ⟨5,-1,[]⟩++[32,61,32]++(wi 3 ⟨2,12,wi 2 ⟨5,1,Lib.itoa ((1:Nat):Int)⟩++([32]++[43]++[32])++wi 3 ⟨5,1,Lib.itoa ((2:Nat):Int)⟩⟩++([32]++[42]++[32])++wi 4 ⟨5,1,Lib.itoa ((3:Nat):Int)⟩)++[59])++[10])++[]:=K;rw [e,itoa_one 1 ζ,itoa_one 2 ζ,itoa_one 3 ζ];rfl
def bty:Tr:=.nd 10 [] [.nd 1 [] [],.nd 3 [] []]
def bty_ok:Wf bty:=Wf.uni _ ζ λx a=>by
 simp at a;obtain rfl|rfl:=a
 .exact Wf.plain 1 ζ ζ
 .exact Wf.plain 3 ζ ζ
def btT:List Ty:=[⟨1,[],[],0⟩,⟨3,[],[],0⟩,⟨10,[],[0,1],0⟩]
def btT_ok:aX btT∧tr btT 2=bty:=by
 have:=MN bty bty_ok [] GP;exact this
def bty2_at:TRes [40,110,117,109,41,124,116,101,120,116] (.inr btT):=by
 have f:∀ s:St,tt (O8 [40,110,117,109,41,124,116,101,120,116]).1 s.i=sg [40]::(fV (.nd 1 [] [])++sg [41]::(sg [124]::(fV (.nd 3 [] [])++[(6,[])])))→Gt (O8 [40,110,117,109,41,124,116,101,120,116]).1 (λq=>q.typ 0 s) (Qt (O8 [40,110,117,109,41,124,116,101,120,116]).1 [(6,[])] s bty):=by
  intro s c;have w1:=Wf.plain 1 ζ ζ;have w3:=Wf.plain 3 ζ ζ;refine ĝ (Gt.inside (by rw [D4 c];rfl) ζ<|ĝ ?_);refine ċ (dm_brackets (.nd 1 [] []) (dt_all _ w1).1 w1 c K ζ) ?_;rintro i x ⟨a,j⟩;refine ĵ (by rw [D4 a];rfl) ?_;refine ċ (unionL_more [.nd 3 [] []] 1 i [x] [(6,[])] ⟨K,K⟩ (λt m=>by grind[dt_all]) a ζ) ?_;rintro o l ⟨e,n,rfl,k⟩;exact Gt.km ⟨e,(j.mh k).row 10 [] ζ _ K⟩
 obtain ⟨h,x,g,a,d⟩:=f ⟨0,[],[]⟩ Ω;have b:=d.2.1;exact ⟨Ω,h,x,g,(D8 a).1,by rw [d.1];decide,by rw [b];decide,b.symm⟩
/-!### Behind others -/
theorem Qs.nx {L:List Tk} {s:St} (h:Qs L s) (a:s.i<Q L):Qs L s.nx:=⟨by show s.i+1≤_;omega,h.2⟩
theorem Qs.add {L:List Tk} {s:St} {t:Ty} (h:Qs L s) (b:ϊ L t):Qs L ⟨s.i,s.N,s.T++[t]⟩:=by
 refine ⟨h.1,λu a=>?_⟩;obtain a|a:=List.mem_append.1 a
 .exact h.2 u a
 grind
def Cx.fl (c:Cx):Cx:=⟨c.N.map ģ,c.T,c.ts,c.fn⟩
theorem ndx_fl (N:List Nd) (x:Int):aA (N.map ģ) x=(aA N x).fl:=by
 unfold aA;rw [List.getD_eq_getElem?_getD,List.getD_eq_getElem?_getD,List.getElem?_map];cases N[x.toNat]?<;>rfl
theorem hasT_fl (c:Cx) (a:Of) (j:Int):Z5 c.fl a j=Z5 c a j:=by
 unfold Z5;rw [show c.fl.N=c.N.map ģ from K,ndx_fl];rfl
theorem fnT_fl (c:Cx) (n:Nd):oO c.fl n.fl=oO c n:=by
 unfold oO;rw [show Z5 c.fl []=Z5 c [] from funext λj=>hasT_fl c [] j];rfl
theorem asks_fl (c:Cx) (a:Of) (i:Nat):aN c.fl a i=aN c a i:=by
 unfold aN;simp only [hasT_fl,show c.fl.N=c.N.map ģ from K,ndx_fl];rfl
theorem fitAll_fl (c:Cx) (a:Of) (i:Nat):Y1 c.fl a i=Y1 c a i:=by unfold Y1;rw [asks_fl]
theorem callT_fl (c:Cx) (a:Of) (i:Nat):nD c.fl a i=nD c a i:=by
 unfold nD;simp only [fitAll_fl,show c.fl.N=c.N.map ģ from K,ndx_fl];rfl
theorem objT_fl (N:List Nd) (a:Of) (n:Nd):DK (N.map ģ) a n.fl=DK N a n:=by
 unfold DK;simp only [ndx_fl];rfl
theorem exprT_fl (c:Cx) (a:Of) (i:Nat):F6 c.fl a i=F6 c a i:=by
 unfold F6;simp only [callT_fl,hasT_fl,show c.fl.N=c.N.map ģ from K,ndx_fl,objT_fl];rfl
theorem ckN_fl (c:Cx) (a:Of) (i:Nat):kS c.fl a i=kS c a i:=by
 unfold kS;simp only [exprT_fl,fitAll_fl,show c.fl.N=c.N.map ģ from K,ndx_fl];rfl
theorem of0_fl (c:Cx):kA c.fl=kA c:=by
 unfold kA;rw [show c.fl.N=c.N.map ģ from K,List.map_map];refine List.map_congr_left λn _=>?_;show (if n.x=6 then C (oO c.fl n.fl) else none)=_;rw [fnT_fl]
theorem ckTo_fl (c:Cx):∀ j,W5 c.fl j=W5 c j
 |0=>by rw [W5,W5,of0_fl]
 |j+1=>by
  rw [W5,W5,ckTo_fl c j];unfold rX;simp only [ckN_fl]
theorem ckP_fl (c:Cx):mW c.fl=mW c:=by
 unfold mW;rw [ckTo_fl,show Q c.fl.N=Q c.N from List.length_map ..]
theorem fnI_fl (N:List Nd):∀ j,mU (N.map ģ) j=mU N j
 |0=>by rw [mU,mU,List.length_map]
 |j+1=>by
  rw [mU,mU,fnI_fl N j];unfold eP lT jC;simp only [List.length_map,ndx_fl,GY];rfl
theorem cxP_fl (N:List Nd) (T:List Ty) (l:List<|Nat×Int):aQ (N.map ģ) T l=(aQ N T l).fl:=by
 unfold aQ kC Cx.fl;rw [List.length_map,fnI_fl]
theorem ckP_same {N a:List Nd} (T:List Ty) (l:List<|Nat×Int) (h:a.map ģ=N.map ģ):mW (aQ a T l)=mW (aQ N T l):=by
 rw [← ckP_fl,← ckP_fl<|aQ N T l,← cxP_fl,← cxP_fl,h]
