/-
  A part of the proof.
-/
import Derived.Test.YteocidgdmjaffaaGreatDoorPlainD
import Derived.KernelRfl
set_option maxHeartbeats 0
set_option linter.all false
set_option maxRecDepth 100000
namespace Go.Proofs.YteocidgdmjaffaaGreatDoor
def Pe(N:List C)(i:Nat)(x:Int):Prop:=∃j:Nat,x=j/\j<i/\∃h,aO N[j].x
def Pk(N:List C)(i:Nat)(k:Int)(x:Int):Prop:=∃j:Nat,x=j/\j<i/\∃h,N[j].x=k
def Py(T:List Ty)(x:Int):Prop:=∃j:Nat,x=j/\j<T.length/\sz (tr T j)<=T.length
def Pz(T:List Ty)(x:Int):Prop:=x=-1\/Py T x
def aC(N:List C)(x:Int):C:=N.getD x.toNat iM
structure nF(N:List C)(T:List Ty)(i:Nat)(n:C):Prop where
 k:1<=n.x/\n.x<=26
 ty:n.x≠6->n.x≠14->n.x≠16->n.x≠17->n.ty=-1
 k6:n.x=6->(∀x∈n.M,Pk N i 16 x)/\Pz T n.ty/\Pk N i 26 n.a
 k7:n.x=7->Pe N i n.a/\∀x∈n.M,Pe N i x
 k1:n.x=8\/n.x=13\/n.x=15\/n.x=18\/n.x=21\/n.x=24\/n.x=25->Pe N i n.a
 k2:n.x=9\/n.x=12\/n.x=19->Pe N i n.a/\Pe N i n.b
 l6:n.x=10->(∀x∈n.M,Pk N i 15 x)/\(n.M.map λx=>(aC N x).text).Nodup/\∀x∈n.M,Q8 (aC N x).text
 nt:n.x=11->∀x∈n.M,Pe N i x
 r7:n.x=12->n.text∈[[61,61],[60],[43],[45],[42]]
 r6:n.x=13->n.text∈[[33],[45],[116,121,112,101,111,102]]
 ld:n.x=14->Pe N i n.a/\Py T n.ty
 q8:n.x=16->Pz T n.ty
 lq:n.x=17->Pz T n.ty/\Pe N i n.a
 kl:n.x=20->Pe N i n.a/\Pe N i n.b/\Pe N i n.c
 oe:n.x=22->Pe N i n.a/\Pk N i 26 n.b/\(n.c=-1\/Pk N i 26 n.c)
 od:n.x=23->Pe N i n.a/\Pk N i 26 n.b
 rm:n.x=26->∀x∈n.M,∃j:Nat,x=j/\j<i
 ls:n.x≠6->n.x≠7->n.x≠10->n.x≠11->n.x≠26->n.M=[]
section
variable{N:List C}{T:List Ty}
def Em.kd{b a}{p}(h:Em N b a p)(d:1<=p.k):∃j:Nat,cR b a p=j/\b<=j/\j<b+nN p/\∃h,N[j].x=p.k/\N[j].text=p.tx:=by
 cases p with
 |ty o=>cases o<;>simp[K.k]at d
 |nd k g n f=>
  obtain⟨_,c,e⟩:=h.parts;refine⟨b+aA f,Em.ix,by omega,by grind[nN],c,(congrArg C.x e).trans (O8 _ _ _ _),(congrArg C.text e).trans (xU _ _ _ _).1⟩
def cY.mr:∀{c} {b g},cY N b g c->(∀p∈c,1<=p.k)->∀x∈aZ b g c,∃p∈c,∃j:Nat,x=j/\j<b+aA c/\∃h,N[j].x=p.k/\N[j].text=p.tx
 |[],_,_,_,_,x,a=>by grind[aZ]
 |p::r,b,g,h,i,x,a=>by
  rw[aZ,jW]at a;obtain⟨k,l⟩:=h.head;obtain rfl|a:=a
  .obtain⟨j,e,_,n,m,d⟩:=k.kd (i p (by simp));exact⟨p,by simp,j,e,by rw[aA];omega,m,d⟩
  .obtain⟨q,f,j,e,n,d⟩:=cY.mr l (λq f=>i q (by simp[f])) x a;exact⟨q,by simp[f],j,e,by rw[aA];omega,d⟩
theorem cY.pz:∀{a} {b c},cY N b c a->(∀p∈a,1<=p.k)->(aZ b c a).map (λx=>(aC N x).text)=a.map K.tx
 |[],_,_,_,_=>rfl
 |p::r,b,c,h,d=>by
  obtain⟨f,g⟩:=h.head;obtain⟨j,e,_,n,k,m,i⟩:=f.kd (d p (by simp));rw[aZ,xZ,xZ,cY.pz g λq l=>d q (by simp[l]),e];congr 1;unfold aC;rw[tQ,lQ,gQ k];exact i
def cY.split:∀{d c} {b a},cY N b a (d++c)->cY N b a d/\cY N (b+aA d) (a+bV d) c
 |[],c,b,a,h=>by
  refine⟨?_,by grind[aA,bV]⟩;obtain⟨A,B,e,f⟩:=h;exact⟨A,R9 b a c++B,by grind[R9],f⟩
 |p::r,c,b,a,h=>by
  rw[kZ]at h;obtain⟨j,g⟩:=h.head;obtain⟨k,i⟩:=cY.split g;refine⟨?_,by rw[aA,bV,<-Nat.add_assoc,<-Nat.add_assoc];exact i⟩;obtain⟨A,B,e,f⟩:=h;refine⟨A,R9 (b+aA (p::r)) (a+bV (p::r)) c++B,?_,f⟩;rw[e,<-List.cons_append,DR];simp
def BU(T:List Ty)(b:Nat)(t:K):Prop:=∃a c,T=a++fP b t++c/\a.length=b/\aU a
def iW(T:List Ty)(b:Nat)(d:List K):Prop:=∃a c,T=a++W4 b d++c/\a.length=b/\aU a
def iW.head{b}{p}{r}(h:iW T b (p::r))(e:Wn p):BU T b p/\iW T (b+nT p) r:=by
 obtain⟨a,c,h,rfl,d⟩:=h;rw[W4]at h;exact⟨⟨a,W4 (a.length+nT p) r++c,by grind,rfl,d⟩,⟨a++fP a.length p,c,by grind,by grind[sT],FG p e a d⟩⟩
def iW.drop:∀{c a} {b},iW T b (c++a)->(∀p∈c,Wn p)->iW T (b+bV c) a
 |[],a,b,h,_=>by grind[bV]
 |p::r,a,b,h,d=>by
  rw[bV,<-Nat.add_assoc];exact iW.drop (h.head (d p (by simp))).2 λq e=>d q (by simp[e])
mutual
theorem QL:∀t:Tr,sz t=eL t
 |.nd _ _ a=>by rw[sz,eL,XL a]
theorem XL:∀l:List Tr,cG l=R6 l
 |[]=>rfl
 |t::r=>by rw[cG,R6,QL t,XL r]
end
def Sub(N:List C)(T:List Ty)(i:Nat):Prop:=∃b c k d n a,Em N b c (.nd k d n a)/\Wn (.nd k d n a)/\i=b+aA a/\iW T c a
mutual
theorem LR:∀(t:K) (b a:Nat),Wn t->Em N b a t->BU T a t->∀i,b<=i->i<b+nN t->Sub N T i
 |.ty _,b,a,_,_,_,i,e,h=>by grind[nN]
 |.nd k o n d,b,a,c,f,g,i,e,h=>by
  have m:=g;by_cases j:i=b+aA d
  .exact⟨b,a,k,o,n,d,f,c,j,m⟩
  .have l:=c;rw[Wn]at l;exact VK d b a l.2.2 f.parts.1 m i e (by grind[nN])
theorem VK:∀(d:List K) (b a:Nat),dR d->cY N b a d->iW T a d->∀i,b<=i->i<b+aA d->Sub N T i
 |[],b,a,_,_,_,i,e,h=>by grind[aA]
 |p::r,b,a,c,f,g,i,e,h=>by
  rw[dR]at c;by_cases j:i<b+nN p
  .exact LR p b a c.1 f.head.1 (g.head c.1).1 i e j
  .exact VK r (b+nN p) (a+nT p) c.2 f.head.2 (g.head c.1).2 i (by omega) (by grind[aA])
end
def BV{b e}{a}(d:Wn a)(i:iD a.k)(h:BU T e a):Pz T (cR b e a):=by
 obtain⟨o,rfl⟩:=pJ d i;cases o with
 |none=>exact .inl rfl
 |some t=>
  have:=uP t;obtain⟨c,f,h,rfl,g⟩:=h;have k:=d;obtain⟨l,m⟩:=LC t k c g;have j:(c++fQ c.length t).length=c.length+eL t:=by rw[qQ,pW]
  rw[fP]at h;have n:T.length=c.length+eL t+f.length:=by rw[h,qQ,j]
  refine .inr ⟨c.length+eL t-1,by grind[cR],by omega,?_⟩;grind[tr,eL,qX,QL]
theorem nF.of{i}{n}(h:nF N T i n.fl):nF N T i n:=⟨h.k,h.ty,h.k6,h.k7,h.k1,h.k2,h.l6,h.nt,h.r7,h.r6,h.ld,h.q8,h.lq,h.kl,h.oe,h.od,h.rm,h.ls⟩
def Em.pe{b a i}{p}(h:Em N b a p)(d:aO p.k)(f:b+nN p<=i):Pe N i (cR b a p):=by
 obtain⟨j,e,_,g,c,k,_⟩:=h.kd d.1;exact⟨j,e,by omega,c,by grind⟩
def Em.pk{b a i}{p}{k}(h:Em N b a p)(m:p.k=k)(d:1<=k)(f:b+nN p<=i):Pk N i k (cR b a p):=by
 obtain⟨j,e,_,g,c,l,_⟩:=h.kd (by omega);exact⟨j,e,by omega,c,by omega⟩
def xr{i}(hi)(h:Sub N T i):nF N T i N[i]:=by
 obtain⟨b,m,a4,u,n,f,V,M,rfl,D⟩:=h;obtain⟨k,_,W⟩:=V.parts;refine nF.of ?_;rw[W];have L:=AQ M;cases L with
 |n1 n h=>constructor<;>simp[bP]
 |n2 u h=>constructor<;>simp[bP]
 |n3 n h=>constructor<;>simp[bP]
 |n4=>constructor<;>simp[bP]
 |n5 u h=>constructor<;>simp[bP]
 |n6 f a c l g o q G w=>
  have S:=cY.split k;have s:∀x∈aZ b m f,Pk N (b+aA (f++[a,c])) 16 x:=λx s=>by
   obtain⟨p,r,j,e,A,h,B,_⟩:=S.1.mr (λp r=>by grind) x s;exact⟨j,e,by grind[uO],h,by grind⟩
  have ha:Pz T (cR (b+aA f) (m+bV f) a):=BV o q ((D.drop λp r=>(l p r).1).head o).1;have hc:=S.2.head.2.head.1.pk (i:=b+aA (f++[a,c])) w (by decide) (by grind[uO,aA]);have F:aZ b m (f++[a,c])=aZ b m f++[cR (b+aA f) (m+bV f) a,cR (b+aA f+nN a) (m+bV f+nT a) c]:=by rw[rL];rfl
  have y:(aZ b m (f++[a,c])).dropLast.dropLast=aZ b m f:=by rw[F];simp
  have v:(aZ b m (f++[a,c])).dropLast.getLastD 0=cR (b+aA f) (m+bV f) a:=by rw[F];simp[List.getLastD_eq_getLast?]
  have P:(aZ b m (f++[a,c])).getLastD 0=cR (b+aA f+nN a) (m+bV f+nT a) c:=by rw[F];simp[List.getLastD_eq_getLast?]
  generalize aZ b m (f++[a,c])=a3 at*;constructor<;>simp[bP];grind
 |n7 a f l g o=>
  have H:∀p∈a::f,aO p.k:=λp r=>by
   grind
  have s:∀x∈aZ b m (a::f),Pe N (b+aA (a::f)) x:=λx s=>by
   obtain⟨p,r,j,e,A,h,B,_⟩:=k.mr (λp r=>(H p r).1) x s;exact⟨j,e,A,h,by grind⟩
  constructor<;>simp[bP,aZ];grind[aZ]
 |n8 u a z l g=>
  have o:=k.head.1.pe (i:=b+aA [a]) g (by grind[aA]);constructor<;>simp[bP,aZ];omega
 |n9 a c l g o q=>
  have y:=k.head.1.pe (i:=b+aA [a,c]) g (by grind[aA]);have v:=k.head.2.head.1.pe (i:=b+aA [a,c]) q (by grind[aA]);constructor<;>simp[bP,aZ];grind
 |n10 f l g=>
  have R:∀p∈f,1<=p.k:=λp r=>by grind
  have s:∀x∈aZ b m f,Pk N (b+aA f) 15 x/\Q8 (aC N x).text:=λx s=>by
   obtain⟨p,r,j,e,A,h,B,Z⟩:=k.mr R x s;refine⟨⟨j,e,A,h,by grind⟩,?_⟩;have:(aC N x).text=p.tx:=by
    unfold aC;rw[e,tQ,lQ,gQ h];exact Z
   rw[this];obtain⟨M,H⟩:=l p r;have L:=AQ M;cases L<;>simp[K.k]at H;grind[K.tx]
  have hn:=k.pz R;constructor<;>simp[bP];grind
 |n11 f l=>
  have s:∀x∈aZ b m f,Pe N (b+aA f) x:=λx s=>by
   obtain⟨p,r,j,e,A,h,B,_⟩:=k.mr (λp r=>(l p r).2.1) x s;exact⟨j,e,A,h,by grind⟩
  constructor<;>simp[bP];omega
 |n12 u a c z l g o q=>
  have y:=k.head.1.pe (i:=b+aA [a,c]) g (by grind[aA]);have v:=k.head.2.head.1.pe (i:=b+aA [a,c]) q (by grind[aA]);constructor<;>simp[bP,aZ]<;>grind
 |n13 u a z l g=>
  have o:=k.head.1.pe (i:=b+aA [a]) g (by grind[aA]);constructor<;>simp[bP,aZ]<;>grind
 |n14 a t l g o=>
  have y:=k.head.1.pe (i:=b+aA [a,.ty (some t)]) g (by grind[aA]);have v:Py T (cR (b+nN a) (m+nT a) (.ty (some t))):=by
   obtain h|h:=BV (a:=.ty (some t)) o (.inr rfl) ((D.head l).2.head o).1
   .grind[uP,cR]
   .omega
  constructor<;>simp[bP,aZ];grind
 |n15 u a z l g=>
  have o:=k.head.1.pe (i:=b+aA [a]) g (by grind[aA]);constructor<;>simp[bP,aZ];omega
 |n16 u a z l g=>
  have v:Pz T (cR b m a):=BV l g (D.head l).1;constructor<;>simp[bP,aZ];omega
 |n17 u a c z l g o q=>
  have y:Pz T (cR b m a):=BV l g (D.head l).1;have v:=k.head.2.head.1.pe (i:=b+aA [a,c]) q (by grind[aA]);constructor<;>simp[bP,aZ];grind
 |n18 u a z l g=>
  have o:=k.head.1.pe (i:=b+aA [a]) g (by grind[aA]);constructor<;>simp[bP,aZ];omega
 |n19 u a c z l g o q=>
  have y:=k.head.1.pe (i:=b+aA [a,c]) g (by grind[aA]);have v:=k.head.2.head.1.pe (i:=b+aA [a,c]) q (by grind[aA]);constructor<;>simp[bP,aZ];grind
 |n20 a c d l g o q G w=>
  have y:=k.head.1.pe (i:=b+aA [a,c,d]) g (by grind[aA]);have v:=k.head.2.head.1.pe (i:=b+aA [a,c,d]) q (by grind[aA]);have P:=k.head.2.head.2.head.1.pe (i:=b+aA [a,c,d]) w (by grind[aA]);constructor<;>simp[bP,aZ];grind
 |n21 a l g=>
  have o:=k.head.1.pe (i:=b+aA [a]) g (by grind[aA]);constructor<;>simp[bP,aZ];omega
 |n22 a c d l g o q G w=>
  have y:=k.head.1.pe (i:=b+aA [a,c,d]) g (by grind[aA]);have v:=k.head.2.head.1.pk (i:=b+aA [a,c,d]) q (by decide) (by grind[aA]);have P:cR (b+nN a+nN c) (m+nT a+nT c) d=-1\/Pk N (b+aA [a,c,d]) 26 (cR (b+nN a+nN c) (m+nT a+nT c) d):=by
   obtain w|w:=w
   .exact .inr (k.head.2.head.2.head.1.pk w (by decide) (by grind[aA]))
   .obtain⟨a2,rfl⟩:=pJ G (.inl w);cases a2 with
    |none=>exact .inl rfl
    |some t=>grind[K.k]
  constructor<;>simp[bP,aZ];grind
 |n23 a c l g o q=>
  have y:=k.head.1.pe (i:=b+aA [a,c]) g (by grind[aA]);have v:=k.head.2.head.1.pk (i:=b+aA [a,c]) q (by decide) (by grind[aA]);constructor<;>simp[bP,aZ];grind
 |n24 a l g=>
  have o:=k.head.1.pe (i:=b+aA [a]) g (by grind[aA]);constructor<;>simp[bP,aZ];omega
 |n25 a l g=>
  have o:=k.head.1.pe (i:=b+aA [a]) g (by grind[aA]);constructor<;>simp[bP,aZ];omega
 |n26 f l=>
  have s:∀x∈aZ b m f,∃j:Nat,x=j/\j<b+aA f:=λx s=>by
   obtain⟨p,r,j,e,A,h,B,_⟩:=k.mr (λp r=>by grind) x s;grind
  constructor<;>simp[bP];omega
def bH.ep{a}(h:bH N T a)(i)(c):nF N T i N[i]:=by
 have b:Em N 0 0 (.nd 26 [] 0 a):=⟨[],[],by simp[h.fe],rfl⟩;have e:N.length=nN (.nd 26 [] 0 a):=by
  have:=congrArg List.length h.fe;rw[uZ,P8]at this;exact this
 have d:BU T 0 (.nd 26 [] 0 a):=⟨[],[],by rw[fP,h.types];simp,rfl,AO⟩;exact xr c (LR _ 0 0 (lT h.wn) b d i (wQ _) (by omega))
end
def Tg(N:List C)(b:Nat)(j:Int):Prop:=∃n:Nat,j=n/\∃h,(N[n].x=16\/N[n].x=17)/\(n<b\/N[n].x=17/\Pk N n 6 N[n].a)
def Tg.mono{N}{a b}{j}(h:Tg N a j)(f:a<=b):Tg N b j:=by
 obtain⟨n,e,d,c,h⟩:=h;exact⟨n,e,d,c,h.imp (λx=>by omega) id⟩
def eI(N:List C)(b:Nat)(a:List Fr):Prop:=∀f∈a,∀x j,f x=some j->Tg N b j
def eI.mono{N}{a b}{c}(h:eI N a c)(d:a<=b):eI N b c:=λf g x j e=>(h f g x j e).mono d
def eI.look{N}{b}:∀{fs},eI N b fs->∀{x j},bG x fs=some j->Tg N b j
 |[],_,x,j,e=>by grind[bG]
 |f::r,h,x,j,e=>by
  rw[bG]at e;cases a:bG x r with
  |none=>rw[a]at e;exact h f (by simp) x j e
  |some i=>
   rw[a]at e;simp only[zQ]at e;subst e;exact eI.look (fs:=r) (λf c=>h f (by simp[c])) a
theorem eI.set{N}{b}{c}(h:eI N b c){x}{j}(i:Tg N b j):eI N b (G8 c x j):=by
 intro f a y k e;unfold G8 at a;obtain a|a:=qW.1 a
 .exact h f ((List.dropLast_sublist _).subset a) y k e
 .simp at a;subst a;unfold Fr.set at e;split at e
  .grind
  .unfold iT at e;rw[List.getLastD_eq_getLast?]at e;cases d:c.getLast? with
   |none=>simp_all[Fr.no]
   |some g=>
    rw[d]at e;exact h g (List.mem_of_getLast? d) y k e
def eI.drop{N}{b}{a}(h:eI N b a):eI N b a.dropLast:=λf c=>h f ((List.dropLast_sublist _).subset c)
def eI.push{N}{b}{c}(h:eI N b c):eI N b (c++[Fr.no]):=by
 intro f a x j e;obtain a|a:=qW.1 a
 .exact h f a x j e
 simp_all[zW,Fr.no]
def tW(k:Int):Prop:=k=5\/k=18
structure Zm(N:List C)(a b:Nat)(fs:List Fr)(l:List (Nat×Int)):Prop where
 fr:eI N b fs
 tg:∀p∈l,(∃h:p.1<N.length,tW N[p.1].x)/\Tg N p.1 p.2
 mw:∀i (h:i<N.length),a<=i->i<b->tW N[i].x->∃j,(i,j)∈l
def bW(N:List C)(a b:Nat)(r:Br):Prop:=∀c l,r=.ok c l->Zm N a b c l
theorem bW.and{N}{a b c}{r}{k}(h:bW N a b r)(w:∀f,eI N b f->bW N b c (k f)):bW N a c (r.and k):=by
 intro A l e;cases r with
 |bad e i=>grind[Br.and]
 |ok f1 x=>
  rw[Br.gp]at e;have g:=h f1 x rfl;cases n:k f1 with
  |bad z B=>grind
  |ok f2 y=>
   rw[n]at e;simp at e;obtain⟨rfl,rfl⟩:=e;have m:=w f1 g.fr f2 y n;refine⟨m.fr,λp d=>?_,λi o s t q=>?_⟩
   .obtain d|d:=qW.1 d
    .exact g.tg p d
    .exact m.tg p d
   .by_cases u:i<b
    .obtain⟨j,v⟩:=g.mw i o s u q;grind
    .obtain⟨j,v⟩:=m.mw i o (by omega) t q;grind
theorem bW.grow{N}{a b}{r}(h:bW N a b r)(n:∀h,¬tW N[b].x):bW N a (b+1) r:=by
 intro d l e;have c:=h d l e;refine⟨c.fr.mono (by omega),c.tg,λi g f k j=>?_⟩;by_cases m:i=b
 .grind
 .exact c.mw i g f (by omega) j
theorem bW.pop{N}{a b}{r}(h:bW N a b r):bW N a b r.pop:=by
 intro f l e;cases r with
 |bad e i=>grind[Br.pop]
 |ok f1 d=>
  simp only[Br.pop,Br.ok.injEq]at e;obtain⟨rfl,rfl⟩:=e;have c:=h f1 d rfl;exact⟨c.fr.drop,c.tg,c.mw⟩
theorem bW.jb{N}{a b}{r}(h:bW N a b r){x}{j}(d:Tg N b j):bW N a b (r.jb x j):=by
 intro g l e;cases r with
 |bad e i=>grind[Br.jb]
 |ok f1 f=>
  simp only[Br.jb,Br.ok.injEq]at e;obtain⟨rfl,rfl⟩:=e;have c:=h f1 f rfl;exact⟨c.fr.set d,c.tg,c.mw⟩
theorem bW.none{N}{a}{b}(h:eI N a b):bW N a a (.ok b []):=by
 intro f l e;simp at e;obtain⟨rfl,rfl⟩:=e;exact⟨h,λp j=>by grind,λi g c d=>by omega⟩
def bW.bad{N}{a b}{e}{i}:bW N a b (.bad e i):=by
 intro f l e;grind
section
variable{N:List C}
def VM{b d}{k}{f}{n}{a}(h:Em N b d (.nd k f n a)):∃c,N[b+aA a].x=k:=by
 obtain⟨_,c,e⟩:=h.parts;exact⟨c,(congrArg C.x e).trans (O8 _ _ _ _)⟩
mutual
theorem IK:∀(t:K) (g:List Fr) (b d:Nat),Wn t->Em N b d t->eI N b g->bW N b (b+nN t) (cX g b t)
 |.ty _,g,b,d,_,_,j=>by simp_all[cX,nN,bW.none]
 |.nd k F n c,g,b,d,q,m,j=>by
  obtain⟨v,p⟩:=VM m;have a2:=q;rw[Wn]at a2;obtain⟨aa,-,x⟩:=a2;have s:=m.parts.1;rw[cX,nN,<-Nat.add_assoc];split
  .rename_i T;subst T;have L:c=[]:=by simpa[bJ]using aa
   subst L;simp only[aA,Nat.add_zero]at*;split
   .exact bW.bad
   .rename_i a4 H;intro f ab e;simp at e;obtain⟨rfl,rfl⟩:=e;refine⟨j.mono (by omega),λa5 u=>?_,λi Z V hb l=>⟨a4,?_⟩⟩
    .simp at u;subst u;exact⟨⟨v,.inl p⟩,j.look H⟩
    grind
  rename_i T;split
  .rename_i R;split
   .exact bW.bad
   .rename_i a4 H;have hl:=pQ c false g b d x s j;intro f ab e;rw[Br.gp]at e;cases W:bB false g b c with
    |bad e2 i2=>grind
    |ok f2 l2=>
     rw[W]at e;simp only[Br.ok.injEq]at e;obtain⟨rfl,rfl⟩:=e;have D:=hl f2 l2 W;refine⟨D.fr.mono (by omega),λa5 u=>?_,λi Z V hb l=>?_⟩
     .obtain u|u:=qW.1 u
      .simp at u;subst u;exact⟨⟨v,.inr (p.trans R)⟩,(j.look H).mono (by simp)⟩
      .exact D.tg a5 u
     .by_cases ac:i=b+aA c
      .grind
      .obtain⟨j',ad⟩:=D.mw i Z V (by omega) l;grind
  rename_i R;have B:∀h:b+aA c<N.length,¬tW N[b+aA c].x:=λh l=>by
   rw[p]at l;obtain l|l:=l<;>omega
  split
  .rename_i z;split
   .exact bW.bad
   .have M:Tg N (b+aA c+1) ((b+aA c:Nat):Int):=⟨b+aA c,rfl,v,.inr (p.trans z),.inl (by omega)⟩;refine bW.jb (bW.grow ?_ B) M;by_cases A:qK c=true
    .rw[wY A];refine pQ c false _ b d x s (j.set ⟨b+aA c,rfl,v,.inr (p.trans z),.inr ⟨p.trans z,?_⟩⟩);match c,A,s,v,p,m with
     |[a,.nd P a6 n' y],A,s,v,p,m=>
      have ae:P=6:=by simpa[qK]using A
      have ea:N[b+aA [a,.nd P a6 n' y]].a=cR (b+nN a) (d+nT a) (.nd P a6 n' y):=by
       obtain⟨_,_,e⟩:=m.parts;have:=congrArg C.a e;subst z;exact this
      rw[ea];exact s.head.2.head.1.pk (by grind[K.k]) (by decide) (by grind[aA])
    .rw[zY A];exact pQ c false g b d x s j
  rename_i z;split
  .rename_i G;have L:∃o,c=[.ty o]:=by
    have hs:=AQ q;subst G;cases hs with
    |n16 F a h0 h1 D=>
     grind[pJ]
   obtain⟨o,rfl⟩:=L;have a9:aA [K.ty o]=0:=by simp[aA,nN]
   rw[a9]at*;have M:Tg N (b+0+1) ((b+0:Nat):Int):=⟨b+0,rfl,v,.inl (p.trans G),.inl (by omega)⟩;exact bW.jb (bW.grow (b:=b+0) (bW.none (by omega)) B) M
  rename_i G;split
  .exact bW.grow (pQ c true _ b d x s j.push).pop B
  split
  .exact bW.grow (pQ c false _ b d x s j.push).pop B
  .exact bW.grow (pQ c false g b d x s j) B
theorem pQ:∀(c:List K) (w:Bool) (g:List Fr) (b d:Nat),dR c->cY N b d c->eI N b g->bW N b (b+aA c) (bB w g b c)
 |[],w,g,b,d,_,_,j=>by simp_all[bB,aA,bW.none]
 |.ty o::r,w,g,b,d,q,m,j=>by
  rw[dR]at q;rw[bB,aA,nN,Nat.zero_add];exact pQ r w g b (d+nT (.ty o)) q.2 m.head.2 j
 |.nd k F n y::r,w,g,b,d,q,m,j=>by
  rw[dR]at q;rw[bB,aA,<-Nat.add_assoc];refine bW.and (b:=b+nN (.nd k F n y)) ?_ λf a8=>pQ r w f _ _ q.2 m.head.2 a8;split
  .rename_i S;have a7:k=26:=by simp at S;exact S.2
   have a3:=q.1;rw[Wn]at a3;obtain⟨v,p⟩:=VM m.head.1;rw[nN,<-Nat.add_assoc];refine bW.grow (pQ y false g b d a3.2.2 m.head.1.parts.1 j) λh l=>?_;rw[p,a7]at l;obtain l|l:=l<;>exact absurd l (by decide)
  .exact IK (.nd k F n y) g b d q.1 m.head.1 j
end
def Gk(l):∀(a) (i) (v),(cQ a l)[i]?=some v->a[i]?=some v/\(∀j,(i,j) ∉ l)\/(i,v)∈l:=by
 induction l with
 |nil=>intro a i v h;exact .inl ⟨h,λ_ e=>by grind⟩
 |cons p r c=>
  intro a i v h;obtain⟨b,d⟩|b:=c (a.set p.1 p.2) i v h<;>grind
structure OI(N:List C)(ts:bZ):Prop where
 len:ts.length=N.length
 tg:∀i (h:i<N.length),tW N[i].x->Tg N i (ts.getD i 0)
 no:∀i (h:i<N.length),¬tW N[i].x->ts.getD i 0=-1
 rg:∀i,i<N.length->-1<=ts.getD i 0/\ts.getD i 0<N.length
def NU{T}{d}(h:bH N T d){g}{l}(o:cX [] 0 (.nd 26 [] 0 d)=.ok g l):OI N (cQ (List.replicate N.length (-1)) l):=by
 have p:Em N 0 0 (.nd 26 [] 0 d):=⟨[],[],by simp[h.fe],rfl⟩;have u:N.length=nN (.nd 26 [] 0 d):=by
  have:=congrArg List.length h.fe;rw[uZ,P8]at this;exact this
 have c:=IK (.nd 26 [] 0 d) [] 0 0 (lT h.wn) p (λf c=>by grind) g l o;have q:(cQ (List.replicate N.length (-1)) l).length=N.length:=by rw[uS];simp
 have key:∀i (b:i<N.length),∃v,(cQ (List.replicate N.length (-1)) l).getD i 0=v/\((v=-1/\∀j,(i,j) ∉ l)\/(i,v)∈l):=λi b=>by
  have a:(cQ (List.replicate N.length (-1)) l)[i]?=some ((cQ (List.replicate N.length (-1)) l).getD i 0):=by
   rw[lQ,gQ (by omega)];rfl
  refine⟨_,rfl,?_⟩;obtain⟨k,s⟩|k:=Gk l _ i _ a<;>grind
 refine⟨q,λi b m=>?_,λi b m=>?_,λi b=>?_⟩
 .obtain⟨v,e,a⟩:=key i b;rw[e];obtain⟨_,a⟩|a:=a
  .obtain⟨j,t⟩:=c.mw i b (wQ _) (by omega) m;grind
  .exact(c.tg _ a).2
 .obtain⟨v,e,a⟩:=key i b;rw[e];obtain⟨a,_⟩|a:=a
  .omega
  .obtain⟨⟨_,k⟩,_⟩:=c.tg _ a;grind
 .obtain⟨v,e,a⟩:=key i b;rw[e];obtain⟨a,_⟩|a:=a
  .omega
  .obtain⟨_,n,r,w,_⟩:=c.tg _ a;omega
end
def Z5:Tr:=.nd 5 [] []
def dV(k:Int):Tr:=.nd k [] []
abbrev Of:=List (Option Tr)
def aX(a:Of)(x:Int):Tr:=(a.getD x.toNat none).getD Z5
structure Cx where
 N:List C
 T:List Ty
 ts:bZ
 fn:bZ
def jJ(T:List Ty)(n:C):Tr:=if n.ty=-1 then Z5 else tr T n.ty.toNat
def V9(c:Cx)(a:Of)(j:Int):Tr:=
 if (aC c.N j).ty≠-1 then tr c.T (aC c.N j).ty.toNat else if (aC c.N j).x=17 then aX a (aC c.N j).a else Z5
def lV(c:Cx)(n:C):Tr:=.nd 9 [] (jJ c.T n::n.M.map (V9 c []))
def J7(a:Of)(n:C):Option Tr:=
 if (aX a n.a).k=5 then some (aX a n.a) else if (aX a n.a).k=8/\n.text=[108,101,110,103,116,104] then some (dV 1) else I3 n.text (aX a n.a).ns (aX a n.a).ks
def J2(a:Of)(n:C):Option Tr:=
 if D8 (aX a n.b) (dV 1)=true then if (aX a n.a).k=5 then some (aX a n.a) else if (aX a n.a).k=8 then some ((aX a n.a).ks.headD Z5) else none else none
def aM(c:Cx)(a:Of)(i:Nat):Option (List (Int×Tr)):=
 let n:=aC c.N i;if n.x=7 then if (aX a n.a).k=5 then some [] else some (n.M.zip (aX a n.a).ks.tail)
 else if n.x=14 then some [(n.a,tr c.T n.ty.toNat)]
 else if n.x=17 then if n.ty≠-1 then some [(n.a,tr c.T n.ty.toNat)] else some []
 else if n.x=18 then some [(n.a,V9 c a (c.ts.getD i 0))]
 else if n.x=19 then (J7 a n).map λt=>[(n.b,t)]
 else if n.x=20 then (J2 a n).map λt=>[(n.c,t)]
 else if n.x=24 then some [(n.a,jJ c.T (aC c.N (c.fn.getD i 0)))]
 else some []
def U3(c:Cx)(a:Of)(i:Nat):Bool:=
 match aM c a i with
 |none=>false
 |some l=>l.all λp=>D8 (aX a p.1) p.2
def iA(a:Of)(x:Int):Bool:=(aX a x).k==1||(aX a x).k==5
def kY(c:Cx)(a:Of)(i:Nat):Option Tr:=
 let n:=aC c.N i;if (aX a n.a).k=5 then some (aX a n.a)
 else if (aX a n.a).k≠9\/n.M.length≠(aX a n.a).ks.tail.length then none
 else if U3 c a i=true then some ((aX a n.a).ks.headD Z5) else none
def pD(a:Of)(n:C):Option Tr:=
 if (aX a n.a).k=5\/(aX a n.b).k=5 then some Z5
 else if (aX a n.a).k≠(aX a n.b).k\/((aX a n.a).k≠1/\(aX a n.a).k≠3) then none
 else some (dV (aX a n.a).k)
def qP(a:Of)(n:C):Option Tr:=
 if n.text=[61,61] then some (dV 2) else if n.text=[43] then pD a n
 else if iA a n.a&&iA a n.b then some (if n.text=[60] then dV 2 else dV 1) else none
def qL(a:Of)(n:C):Option Tr:=
 if n.text=[33] then some (dV 2) else if n.text=[116,121,112,101,111,102] then some (dV 3) else if iA a n.a then some (dV 1) else none
def wA(N:List C)(a:Of)(n:C):Tr:=.nd 7 (n.M.map λx=>(aC N x).text) (n.M.map λx=>aX a (aC N x).a)
def yE(a:Of)(n:C):Tr:=.nd 8 [] [Z9 (n.M.map (aX a))]
def D7(c:Cx)(a:Of)(i:Nat):Option Tr:=
 let n:=aC c.N i;if n.x=1 then some (dV 1) else if n.x=2 then some (dV 3) else if n.x=3 then some (dV 2)
 else if n.x=5 then some (V9 c a (c.ts.getD i 0)) else if n.x=6 then some (aX a i)
 else if n.x=7 then kY c a i else if n.x=8 then J7 a n else if n.x=9 then J2 a n
 else if n.x=10 then some (wA c.N a n) else if n.x=11 then some (yE a n)
 else if n.x=12 then qP a n else if n.x=13 then qL a n
 else if n.x=14 then some (tr c.T n.ty.toNat) else some (dV 4)
def jB(c:Cx)(a:Of)(i:Nat):Int ⊕ Option Tr:=
 let n:=aC c.N i;if 1<=n.x/\n.x<=14 then match D7 c a i with
  |none=>.inl 9
  |some t=>if 300<sz t then .inl 2 else .inr (some t)
 else if n.x=24/\c.fn.getD i 0=-1 then .inl 4
 else if U3 c a i=true then .inr none else .inl 9
def iL(c:Cx):Of:=c.N.map λn=>if n.x=6 then some (lV c n) else none
def oS(c:Cx)(r:(Int×Nat) ⊕ Of)(i:Nat):(Int×Nat) ⊕ Of:=
 match r with
 |.inl e=>.inl e
 |.inr a=>match jB c a i with
  |.inl e=>.inl (e,i)
  |.inr none=>.inr a
  |.inr (some t)=>.inr (a.set i (some t))
def T7(c:Cx):Nat->(Int×Nat) ⊕ Of
 |0=>.inr (iL c)
 |j+1=>oS c (T7 c j) j
def kR(c:Cx):(Int×Nat) ⊕ Of:=T7 c c.N.length
theorem xI(c){e}:∀{j k},T7 c j=.inl e->j<=k->T7 c k=.inl e
 |j,0,h,a=>by
  grind
 |j,k+1,h,a=>by
  by_cases b:j=k+1
  .grind
  .rw[T7,xI c h (by omega:j<=k)];rfl
structure jD(c:Cx):Prop where
 ep:∀i (h:i<c.N.length),nF c.N c.T i c.N[i]
 ob:OI c.N c.ts
 fh:c.N.length<=1200
 jr:c.T.length<=300
 ok:aU c.T
 ls:∀i (h:i<c.N.length),c.N[i].M.length<=1200
 rq:c.fn.length=c.N.length
 r8:∀i,i<c.N.length->c.fn.getD i 0=-1\/∃j:Nat,c.fn.getD i 0=j/\j<c.N.length
 tx:∀nd∈c.N,nd.text.length<=30
theorem B9{N}{i:Nat}(h):aC N i=N[i]:=by
 unfold aC;grind
structure yJ(c:Cx)(of:Of)(j:Nat):Prop where
 len:of.length=c.N.length
 ex:∀i (h:i<c.N.length),aO c.N[i].x->(i<j\/c.N[i].x=6)->∃t,of[i]?=some (some t)
 sm:∀i t,i<j->of[i]?=some (some t)->sz t<=300
 no:∀i (h:i<c.N.length),¬aO c.N[i].x->of[i]?=some none
 later:∀i (h:i<c.N.length),j<=i->of[i]?=some (if c.N[i].x=6 then some (lV c c.N[i]) else none)
def AW(c):∀(j) (l),j<=c.N.length->T7 c j=.inr l->yJ c l j
 |0,l,_,h=>by
  simp only[T7,Sum.inr.injEq]at h;subst h;have key:∀i (h:i<c.N.length),(iL c)[i]?=some (if c.N[i].x=6 then some (lV c c.N[i]) else none):=λi h=>by
   unfold iL;grind
  refine⟨by simp[iL],λi h a d=>?_,λi t h=>by omega,λi h a=>?_,λi h _=>key i h⟩
  .grind
  .rw[key i h,zY (λd=>a (by rw[d];exact⟨by decide,by decide⟩))]
 |j+1,l,w,h=>by
  rw[T7]at h;cases p:T7 c j with
  |inl e=>grind[oS]
  |inr n=>
   rw[p]at h;have b:=AW c j n (by omega) p;have m:j<c.N.length:=by omega
   simp only[oS]at h;cases f:jB c n j with
   |inl e=>grind
   |inr o=>
    rw[f]at h;unfold jB at f;simp only[B9 m]at f;cases o with
    |none=>
     simp at h;subst h;have s:¬aO c.N[j].x:=by
      intro a;have q:1<=c.N[j].x/\c.N[j].x<=14:=a;rw[wY q]at f;split at f
      .grind
      .grind
     refine⟨b.len,λi h a d=>b.ex i h a ?_,λi t h g=>?_,b.no,λi h r=>b.later i h (by omega)⟩
     .grind
     .by_cases k:i=j
      .subst k;rw[b.no i m s]at g;grind
      .exact b.sm i t (by omega) g
    |some t=>
     simp at h;subst h;have v:aO c.N[j].x/\sz t<=300:=by
      by_cases a:1<=c.N[j].x/\c.N[j].x<=14
      .refine⟨a,?_⟩;grind
      .grind
     have y:j<n.length:=by rw[b.len];exact m
     refine⟨by rw[List.length_set];exact b.len,λi h a d=>?_,λi u h g=>?_,λi h a=>?_,λi h r=>?_⟩
     .by_cases k:i=j
      .grind
      .rw[List.getElem?_set_ne (by omega)];exact b.ex i h a (d.imp (λx=>by omega) id)
     .by_cases k:i=j
      .grind
      .rw[List.getElem?_set_ne (by omega)]at g;exact b.sm i u (by omega) g
     .by_cases k:i=j
      .grind
      .rw[List.getElem?_set_ne (by omega)];exact b.no i h a
     .rw[List.getElem?_set_ne (by omega)];exact b.later i h (by omega)
def kK(n:C):bZ:=
 if n.x=10\/n.x=11\/n.x=26 then n.M
 else if n.x=7 then n.a::n.M
 else if n.x=6 then n.M++[n.a]
 else if n.x=8\/n.x=13\/n.x=14\/n.x=15\/n.x=17\/n.x=18\/n.x=21\/n.x=24\/n.x=25 then [n.a]
 else if n.x=9\/n.x=12\/n.x=19\/n.x=23 then [n.a,n.b]
 else if n.x=20 then [n.a,n.b,n.c]
 else if n.x=22 then if n.c=-1 then [n.a,n.b] else [n.a,n.b,n.c]
 else []
theorem Pe.lt{N}{i}{x}(h:Pe N i x):∃j:Nat,x=j/\j<i:=by obtain⟨j,e,h,_⟩:=h;grind
theorem Pk.lt{N}{i}{k x}(h:Pk N i k x):∃j:Nat,x=j/\j<i:=by obtain⟨j,e,h,_⟩:=h;grind
def Dq{N}{T}{i}{n}(h:nF N T i n):∀x∈kK n,∃j:Nat,x=j/\j<i:=by
 intro x b;unfold kK at b;split at b
 .rename_i a;obtain a|a|a:=a
  .exact((h.l6 a).1 x b).lt
  .exact(h.nt a x b).lt
  .exact h.rm a x b
 split at b
 .rename_i a;obtain rfl|b:=jW.1 b
  .exact(h.k7 a).1.lt
  .exact((h.k7 a).2 x b).lt
 split at b
 .rename_i a;obtain b|b:=qW.1 b
  .exact((h.k6 a).1 x b).lt
  .simp at b;subst b;exact(h.k6 a).2.2.lt
 split at b
 .rename_i a;simp at b;subst b;obtain a|a|a|a|a|a|a|a|a:=a
  .exact(h.k1 (by omega)).lt
  .exact(h.k1 (by omega)).lt
  .exact(h.ld a).1.lt
  .exact(h.k1 (by omega)).lt
  .exact(h.lq a).2.lt
  .exact(h.k1 (by omega)).lt
  .exact(h.k1 (by omega)).lt
  .exact(h.k1 (by omega)).lt
  .exact(h.k1 (by omega)).lt
 split at b
 .rename_i a;simp at b;by_cases d:n.x=23
  .obtain rfl|rfl:=b
   .exact(h.od d).1.lt
   .exact(h.od d).2.lt
  .obtain rfl|rfl:=b
   .exact(h.k2 (by omega)).1.lt
   .exact(h.k2 (by omega)).2.lt
 split at b
 .rename_i a;simp at b;obtain rfl|rfl|rfl:=b
  .exact(h.kl a).1.lt
  .exact(h.kl a).2.1.lt
  .exact(h.kl a).2.2.lt
 split at b
 .rename_i a;have c:=h.oe a;split at b
  .simp at b;obtain rfl|rfl:=b
   .exact c.1.lt
   .exact c.2.1.lt
  .rename_i e;simp at b;obtain rfl|rfl|rfl:=b
   .exact c.1.lt
   .exact c.2.1.lt
   .obtain h|h:=c.2.2
    .omega
    .exact h.lt
 grind
def bE(b:bZ)(v:Int)(l:bZ):bZ:=l.foldl (λa x=>a.set x.toNat v) b
theorem vA(v):∀(l) (a),(bE a v l).length=a.length
 |[],a=>rfl
 |x::l,a=>by rw[bE,List.foldl_cons,<-bE,vA v l];simp
theorem BJ(a)(v)(l)(x):bE a v (l++[x])=(bE a v l).set x.toNat v:=by simp[bE]
def jA(N:List C)(a:bZ)(i:Nat):bZ:=if i+1=N.length then a.set i (-1) else a
def kN(N:List C)(a:bZ)(i:Nat):Int:=if (aC N i).x=6 then i else (jA N a i).getD i 0
def fA(N:List C)(a:bZ)(i:Nat):bZ:=bE (jA N a i) (kN N a i) (kK (aC N i))
def kP(N:List C):Nat->bZ
 |0=>List.replicate N.length 0
 |j+1=>fA N (kP N j) (N.length-1-j)
def kO(N:List C):bZ:=kP N N.length
def lK(n:Nat)(a:bZ):Prop:=a.length=n/\∀v∈a,-1<=v/\v<n
theorem lK.set{n}{b}(h:lK n b)(i){v:Int}(c:-1<=v/\v<n):lK n (b.set i v):=by
 refine⟨by rw[List.length_set];exact h.1,λu a=>?_⟩;obtain a|rfl:=List.mem_or_eq_of_mem_set a
 .exact h.2 u a
 omega
def lK.ou{n:Nat}{v:Int}(b:-1<=v/\v<n):∀{l a},lK n a->lK n (bE a v l)
 |[],_,h=>h
 |x::l,_,h=>lK.ou b (l:=l) (h.set x.toNat b)
theorem lK.getD{n}{a}(h:lK n a)(c:0<n)(i):-1<=a.getD i 0/\a.getD i 0<n:=by
 rw[lQ];by_cases b:i<a.length
 .rw[gQ b];exact h.2 _ (mQ b)
 grind
def ZC{N}{a}(h:lK N.length a)(i):lK N.length (jA N a i):=by
 unfold jA;split
 .exact h.set i (by omega)
 omega
def wv{N}{a}(h:lK N.length a){i}(b:i<N.length):-1<=kN N a i/\kN N a i<N.length:=by
 unfold kN;split
 .omega
 .exact(ZC h i).getD (by omega) i
def ZD(N):∀j,j<=N.length->lK N.length (kP N j)
 |0,_=>⟨by simp[kP],λv c=>by
  grind[kP,List.length_pos_iff]⟩
 |j+1,b=>by
  have a:=ZD N j (by omega);rw[kP,fA];exact(ZC a _).ou (wv a (by omega))
def bM(N:List C)(T:List Ty)(l:List (Nat×Int)):Cx:=⟨N,T,cQ (List.replicate N.length (-1)) l,kO N⟩
def BL{N}{T}{a}(h:bH N T a){e}{l}(j:cX [] 0 (.nd 26 [] 0 a)=.ok e l)(m:∀n∈N,n.text.length<=30):jD (bM N T l):=by
 have d:=ZD N N.length (vQ _);refine⟨h.ep,NU h j,h.fh,h.jr,h.ok,λi b=>?_,d.1,λi b=>?_,m⟩
 .have k:N[i].fl∈gU 0 0 (.nd 26 [] 0 a):=by
   rw[<-h.fe];exact List.mem_map_of_mem (mQ b)
  have c:=IW (.nd 26 [] 0 a) (U7 _ (lT h.wn)) 0 0 _ k;have f:N.length=nN (.nd 26 [] 0 a):=by
   have:=congrArg List.length h.fe;rw[uZ,P8]at this;exact this
  have p:=h.fh;have g:N[i].fl.M=N[i].M:=rfl;rw[g]at c;show N[i].M.length<=1200;omega
 .have q:i<N.length:=b;obtain⟨c,f⟩:=d.getD (by omega) i;show (kP N N.length).getD i 0=-1\/_;by_cases o:(kP N N.length).getD i 0=-1
  .omega
  .exact .inr ⟨((kP N N.length).getD i 0).toNat,by show (kP N N.length).getD i 0=_;omega,by show _<N.length;omega⟩
theorem NY:∀a,(∀n∈a,Q8 n)->jM a<=a.length*28
 |[],_=>by simp[jM]
 |n::r,h=>by
  have b:=NY r λm d=>h m (by grind);have c:=(h n (by simp)).2.1;grind[jM,jQ]
def wC:∀l,(∀x∈l,wg x+44<=60*sz x)->dF l+39*l.length<=60*cG l
 |[],_=>by grind[dF,cG]
 |t::r,h=>by
  have a:=wC r λx b=>h x (by grind);grind[dF,cG,jQ]
def Ya{t}(h:Wf t):wg t+44<=60*sz t:=by
 induction h with
 |plain k b g=>grind[wg,sz,dF,cG,jM]
 |obj m c d nd i j a=>
  have b:=wC c a;grind[NY,wg,sz]
 |arr t _ a=>
  grind[wg,sz,dF,cG,jM]
 |fn t f _ _ l e=>
  have b:=wC f e;grind[wg,sz,dF,cG,jM]
 |uni c d _ a=>
  have b:=wC c a;grind[wg,sz,jM]
abbrev Gm:=Int->Option Int
def TG(g:Gm)(x v:Int):Gm:=λu=>if u=x then some v else g u
def kF(g:Gm)(x:Int)(t:Tr):Gm:=if iB t=127 then g else TG g x (iB t)
def pA(a:Of)(g:Gm)(p:Int×Tr):Gm:=if (aX a p.1).k=5 then kF g p.1 p.2 else g
def mR(c:Cx)(a:Of)(g:Gm)(i:Nat):Gm:=
 if (aC c.N i).x=16 then if (aC c.N i).ty≠-1 then kF g i (tr c.T (aC c.N i).ty.toNat) else g
 else if (aC c.N i).x=7\/(aC c.N i).x=8\/(aC c.N i).x=9 then kF g i (aX a i) else g
def tM(c:Cx)(a:Of)(g:Gm)(i:Nat):Gm:=((aM c a i).getD []).foldl (pA a) (mR c a g i)
def oI(c:Cx)(a:Of):Nat->Gm
 |0=>λ_=>none
 |j+1=>tM c a (oI c a j) j
def Z7(g:Gm):Nat->List (Int×Int)
 |0=>[]
 |j+1=>Z7 g j++(match g j with
  |some v=>[(j,v)]
  |none=>[])
def iJ(c:Cx)(a:Of):List (Int×Int):=Z7 (oI c a c.N.length) c.N.length
structure yI(c:Cx)(of:Of)(i:Nat):Prop where
 asked:∃l,aM c of i=some l
 call:(aC c.N i).x=7->(aX of (aC c.N i).a).k=5\/((aX of (aC c.N i).a).k=9/\(aC c.N i).M.length=(aX of (aC c.N i).a).ks.tail.length)
 ret:(aC c.N i).x=24->c.fn.getD i 0≠-1
def pP(c:Cx)(i:Nat)(a b:Of):Prop:=∀j (h),(j<i\/c.N[j].x=6)->a[j]?=b[j]?
theorem pP.a{c}{i}{a b}(h:pP c i a b){x}(f:Pe c.N i x):aX a x=aX b x:=by
 obtain⟨j,rfl,d,e,_⟩:=f;unfold aX;rw[tQ,lQ,lQ,h j e (.inl d)]
theorem pP.has{c}(m:jD c){i}{f g}(h:pP c i f g){x}(p:Tg c.N i x):V9 c f x=V9 c g x:=by
 obtain⟨j,rfl,d,q,b⟩:=p;unfold V9;rw[B9 d];split
 .rfl
 split
 .rename_i l;have k:=((m.ep j d).lq l).2;obtain b|⟨_,n,e,o,a,h6⟩:=b
  .obtain⟨n,e,o,a,r⟩:=k;rw[e];unfold aX;rw[tQ,lQ,lQ,h n a (.inl (by omega))]
  .rw[e];unfold aX;rw[tQ,lQ,lQ,h n a (.inr h6)]
 .rfl
theorem pP.asks{c}(d:jD c){i}(e:i<c.N.length){f g}(h:pP c i f g):aM c f i=aM c g i:=by
 have b:=d.ep i e;have j:=d.ob.tg i e;unfold aM;simp only[B9 e];split
 .rename_i a;rw[h.a (b.k7 a).1]
 split
 .rfl
 split
 .rfl
 split
 .rename_i a;rw[h.has d (j (.inr a))]
 split
 .rename_i a;unfold J7;rw[h.a (b.k2 (by omega)).1]
 split
 .rename_i a;unfold J2;rw[h.a (b.kl a).1,h.a (b.kl a).2.1]
 .rfl
def Mf{c}{b m}{j}(q:j<c.N.length)(h:T7 c j=.inr b)(d:T7 c (j+1)=.inr m):pP c j b m:=by
 have l:=AW c j b (by omega) h;rw[T7,h]at d;simp only[oS]at d;intro i k g;cases a:jB c b j with
 |inl e=>grind
 |inr o=>
  rw[a]at d;cases o with
  |none=>
   grind
  |some t=>
   simp at d;subst d;by_cases n:i=j
   .subst n;have f:c.N[i].x=6:=by
     obtain g|g:=g
     .omega
     .omega
    unfold jB at a;simp only[B9 k]at a;rw[wY (by omega)]at a;have e:D7 c b i=some (aX b i):=by
     unfold D7;simp only[B9 k,f];rfl
    rw[e]at a;simp only at a;split at a
    .grind
    .simp at a;subst a;rw[List.getElem?_set_self (by rw[l.len];omega)];obtain⟨t,p⟩:=l.ex i k (by rw[f];exact⟨by decide,by decide⟩) (.inr f);rw[p];grind[aX]
   grind
def PP{c}:∀(k j) {b d},j<=k->k<=c.N.length->T7 c j=.inr b->T7 c k=.inr d->pP c j b d
 |0,j,b,d,p,q,h,a=>by
  have:j=0:=by omega
  subst this;rw[h]at a;simp at a;subst a;exact λ_ _ _=>rfl
 |k+1,j,b,d,p,q,h,a=>by
  by_cases o:j=k+1
  .subst o;rw[h]at a;simp at a;subst a;exact λ_ _ _=>rfl
  .cases l:T7 c k with
   |inl e=>grind[xI]
   |inr r=>
    have m:=PP k j (by omega) (by omega) h l;have n:=Mf (by omega) l a;intro i g f;rw[m i g f];exact n i g (f.imp (λx=>by omega) id)
def Ml{c}(e:jD c){f g}{i}(a:i<c.N.length)(d:pP c i f g)(h:yI c f i):yI c g i:=by
 have k:=e.ep i a;refine⟨by rw[<-d.asks e a];exact h.asked,λb=>?_,h.ret⟩;have j:=h.call b;rw[B9 a]at j b⊢;rw[<-d.a (k.k7 b).1];omega
def Mh{c}{b l}{j}(g:j<c.N.length)(h:T7 c j=.inr b)(d:T7 c (j+1)=.inr l):yI c b j:=by
 rw[T7,h]at d;simp only[oS]at d;have key:∃o,jB c b j=.inr o:=by
  cases a:jB c b j with
  |inl e=>grind
  |inr o=>simp
 obtain⟨o,a⟩:=key;unfold jB at a;simp only[B9 g]at a;by_cases f:1<=c.N[j].x/\c.N[j].x<=14
 .rw[wY f]at a;cases n:D7 c b j with
  |none=>grind
  |some t=>
   refine⟨?_,λk=>?_,λi=>by grind[B9]⟩
   .unfold aM;simp only[B9 g];split
    .split<;>exact⟨_,rfl⟩
    split
    .simp
    rw[zY (by omega),zY (by omega),zY (by omega),zY (by omega),zY (by omega)];simp
   grind[D7,kY]
 .rw[zY f]at a;split at a
  .grind
  .rename_i i;split at a
   .rename_i m;refine⟨?_,λk=>by grind[B9],λh=>by grind[B9]⟩;grind[U3]
   grind
structure yA(c:Cx)(of:Of):Prop where
 inv:yJ c of c.N.length
 dn:∀i,i<c.N.length->yI c of i
theorem YY{c}(g:jD c){a}(h:kR c=.inr a):yA c a:=by
 unfold kR at h;refine⟨AW c _ a (vQ _) h,λi d=>?_⟩;cases b:T7 c i with
 |inl e=>grind[xI]
 |inr j=>
  cases f:T7 c (i+1) with
  |inl e=>grind[xI]
  |inr k=>exact Ml g d (PP _ i (by omega) (vQ _) b h) (Mh d b f)
def pE(g:Gm):Prop:=∀x v,g x=some v->1<=v/\v<127
def Vq:∀{l},(∀x∈l,1<=iB x)->l≠[]->1<=Y5 l
 |t::r,h,_=>by
  grind[Y5,iB,Nat.left_le_or]
theorem Jo{t}(h:Wf t):1<=iB t:=by
 induction h with
 |plain k c d=>
  grind[iB,qJ]
 |obj f b=>grind[iB,qJ]
 |arr t=>grind[iB,qJ]
 |fn t g=>grind[iB,qJ]
 |uni b e _ a=>
  rw[iB,wY rfl];exact Vq a (by grind)
theorem pE.put{g}(h:pE g)(x){t}(b:Wf t):pE (kF g x t):=by
 unfold kF;split
 .omega
 .rename_i a;intro y v e;unfold TG at e;split at e
  .grind[zQ,Jo,zT]
  .exact h y v e
def XE{g}(h:pE g):∀n,(∀p∈Z7 g n,(0<=p.1/\p.1<n)/\1<=p.2/\p.2<127)/\(Z7 g n).Pairwise λp q=>p.1<q.1
 |0=>by simp[Z7]
 |n+1=>by
  obtain⟨c,d⟩:=XE h n;rw[Z7];cases b:g n with
  |none=>
   grind
  |some v=>
   simp only;refine⟨λp a=>?_,?_⟩
   .obtain a|a:=qW.1 a
    .grind
    .simp at a;subst a;have:=h _ _ b;omega
   grind
def qN(a:Of):Prop:=∀(i:Nat) (t),a[i]?=some (some t)->Wf t
def D5{c}[Decidable c]{x y}{t:Tr}(h:(if c then x else y)=some t):(c/\x=some t)\/(¬c/\y=some t):=by
 grind
theorem uT:Wf Z5:=.plain 5 (by decide) (by decide)
theorem qN.a{a}(h:qN a)(x):Wf (aX a x):=by
 unfold aX;rw[lQ];cases b:a[x.toNat]? with
 |none=>exact uT
 |some o=>cases o with
  |none=>exact uT
  |some t=>exact h _ t b
def Wf.po{t x}(h:Wf t)(b:x∈t.ks):Wf x:=by
 cases h with
 |plain k=>grind[Tr.ks]
 |obj f c _ _ _ a=>exact a x b
 |arr t a=>grind[Tr.ks]
 |fn t g d e=>
  grind[Tr.ks]
 |uni c _ a=>exact a x b
def Wf.head{t}(h:Wf t):Wf (t.ks.headD Z5):=by
 cases a:t.ks with
 |nil=>exact uT
 |cons x r=>exact h.po (by grind)
section
variable{c:Cx}(b:jD c){d:Of}(a:qN d)
include b
theorem wP{x}(h:Pz c.T x)(e:x≠-1):Wf (tr c.T x.toNat):=by
 obtain h|⟨j,rfl,hj,_⟩:=h
 .omega
 .rw[tQ];exact xE b.ok j hj
def Xs{i}(k:i<c.N.length):Pz c.T c.N[i].ty:=by
 have e:=b.ep i k;by_cases j:c.N[i].x=6
 .exact(e.k6 j).2.1
 by_cases f:c.N[i].x=14
 .exact .inr (e.ld f).2
 by_cases g:c.N[i].x=16
 .exact e.q8 g
 by_cases h:c.N[i].x=17
 .exact(e.lq h).1
 .exact .inl (e.ty j f g h)
theorem nJ(x):Pz c.T (aC c.N x).ty:=by
 by_cases h:x.toNat<c.N.length
 .have:=Xs b h;grind[aC]
 .unfold aC;rw[lQ,List.getElem?_eq_none (by omega)];exact .inl rfl
theorem XB(x):Wf (jJ c.T (aC c.N x)):=by
 grind[jJ,uT,wP,nJ]
include a
theorem JA(x):Wf (V9 c d x):=by
 unfold V9;split
 .grind[wP,nJ]
 split
 .exact a.a _
 grind[uT]
omit b
theorem WZ{n}{t}(h:J7 d n=some t):Wf t:=by
 unfold J7 at h;split at h
 .simp at h;subst h;exact a.a _
 split at h
 .simp at h;subst h;exact .plain 1 (by decide) (by decide)
 .exact(a.a _).po (Y8 h)
theorem XY{n}{t}(h:J2 d n=some t):Wf t:=by
 unfold J2 at h;split at h
 .split at h
  .simp at h;subst h;exact a.a _
  split at h
  .simp only[zQ]at h;subst h;exact(a.a _).head
  grind
 grind
include b
def Kl{i}{l}(h:aM c d i=some l):∀p∈l,Wf p.2:=by
 unfold aM at h;simp only at h;intro p k;split at h
 .split at h
  .grind
  .simp at h;subst h;have:=(List.of_mem_zip k).2;exact(a.a _).po (List.mem_of_mem_tail this)
 split at h
 .simp at h;subst h;simp at k;subst k;have n:=nJ b i;by_cases m:(aC c.N i).ty=-1
  .rename_i o _;exfalso;by_cases f:i<c.N.length
   .rw[B9 f]at m;rename_i g;rw[B9 f]at g;obtain⟨j,e,_⟩:=((b.ep i f).ld g).2;omega
   .rename_i g;grind[aC,iM]
  grind[wP]
 split at h
 .grind[zQ,zW,wP,nJ]
 split at h
 .grind[zQ,zW,JA]
 split at h
 .rw[Option.map_eq_some_iff]at h;grind[WZ]
 split at h
 .rw[Option.map_eq_some_iff]at h;grind[XY]
 grind[zQ,zW,XB]
omit b in
theorem Zy{i:Nat}{t:Tr}(h:kY c d i=some t):Wf t:=by
 unfold kY at h;simp only at h;split at h
 .simp at h;subst h;exact a.a _
 split at h
 .grind
 split at h
 .simp only[zQ]at h;subst h;exact(a.a _).head
 grind
theorem uz{i}(o:i<c.N.length){t}(h:D7 c d i=some t):Wf t:=by
 have z:∀k:Int,1<=k->k<=6->∀{u:Tr},some (dV k)=some u->Wf u:=λk l f u h=>by
  simp at h;subst h;exact .plain k l f
 have m:=b.ep i o;unfold D7 at h;rw[B9 o]at h;obtain⟨_,h⟩|⟨_,h⟩:=D5 h
 .grind
 obtain⟨_,h⟩|⟨_,h⟩:=D5 h
 .grind
 obtain⟨_,h⟩|⟨_,h⟩:=D5 h
 .grind
 obtain⟨_,h⟩|⟨_,h⟩:=D5 h
 .grind[zQ,JA]
 obtain⟨_,h⟩|⟨_,h⟩:=D5 h
 .simp at h;subst h;exact a.a _
 obtain⟨_,h⟩|⟨_,h⟩:=D5 h
 .grind[Zy]
 obtain⟨_,h⟩|⟨_,h⟩:=D5 h
 .grind[WZ]
 obtain⟨_,h⟩|⟨_,h⟩:=D5 h
 .grind[XY]
 obtain⟨p,h⟩|⟨_,h⟩:=D5 h
 .simp at h;subst h;obtain⟨l,f,v⟩:=m.l6 p;refine .obj _ _ (by simp) f (λn w=>?_) (λx g=>?_)
  .grind
  .obtain⟨y,s,rfl⟩:=qZ.1 g;exact a.a _
 obtain⟨_,h⟩|⟨_,h⟩:=D5 h
 .simp at h;subst h;refine .arr _ (Ka _ λx g=>?_);obtain⟨y,s,rfl⟩:=qZ.1 g;exact a.a _
 obtain⟨_,h⟩|⟨_,h⟩:=D5 h
 .unfold qP at h;obtain⟨_,h⟩|⟨_,h⟩:=D5 h
  .grind
  obtain⟨_,h⟩|⟨_,h⟩:=D5 h
  .unfold pD at h;grind[uT]
  grind
 obtain⟨_,h⟩|⟨_,h⟩:=D5 h
 .grind[qL]
 obtain⟨q,h⟩|⟨_,h⟩:=D5 h
 .simp at h;subst h;obtain⟨j,e,r,_⟩:=(m.ld q).2;rw[e,tQ];exact xE b.ok j r
 grind
end
def EA{c}(d:jD c):∀(j) (b),j<=c.N.length->T7 c j=.inr b->qN b
 |0,b,_,h=>by
  simp only[T7,Sum.inr.injEq]at h;subst h;intro i t a;unfold iL at a;rw[List.getElem?_map]at a;cases k:c.N[i]? with
  |none=>grind
  |some n=>
   rw[k]at a;simp only[Option.map_some,zQ]at a;split at a
   .simp only[zQ]at a;subst a;obtain⟨r,rfl⟩:=List.getElem?_eq_some_iff.1 k;have f:=XB d i;rw[B9 r]at f;refine .fn _ _ f λx s=>?_;obtain⟨y,z,rfl⟩:=qZ.1 s;exact JA d (λi t h=>by grind) y
   grind
 |j+1,b,w,h=>by
  rw[T7]at h;cases g:T7 c j with
  |inl e=>grind[oS]
  |inr m=>
   rw[g]at h;have v:=EA d j m (by omega) g;simp only[oS]at h;cases q:jB c m j with
   |inl e=>grind
   |inr o=>
    rw[q]at h;cases o with
    |none=>
     grind
    |some t=>
     simp at h;subst h;intro i u l;by_cases p:j=i
     .grind[List.getElem?_set_self',jB,D7,Sum.inr.injEq,zQ,uz]
     .rw[List.getElem?_set_ne p]at l;exact v i u l
def Dg{c}(b:jD c){a}(e:qN a){g}(h:pE g)(i):pE (tM c a g i):=by
 have k:pE (mR c a g i):=by
  unfold mR;split
  .split
   .rename_i m;exact h.put _ (wP b (nJ b i) m)
   omega
  split
  .exact h.put _ (e.a _)
  .omega
 unfold tM;cases d:aM c a i with
 |none=>grind
 |some l=>
  have f:=Kl b e d;show pE (l.foldl (pA a) _);clear d;generalize mR c a g i=j at*;induction l generalizing j with
  |nil=>grind
  |cons p r n=>
   rw[List.foldl_cons];refine n (λq o=>f q (by grind)) _ ?_;unfold pA;split
   .exact k.put _ (f p (by simp))
   omega
def WQ{c}(a:jD c){d}(b:qN d):∀j,pE (oI c d j)
 |0=>λx v e=>by grind[oI]
 |j+1=>Dg a b (WQ a b j) j
theorem uR:∀l r,cG (l++r)=cG l+cG r
 |[],r=>by simp[cG]
 |t::l,r=>by rw[kZ,cG,cG,uR l r];omega
mutual
theorem Jj:∀t:Tr,cG (flat t)<=sz t
 |.nd k d a=>by
  rw[flat];split
  .have:=GM a;grind[sz]
  grind[cG]
theorem GM:∀l:List Tr,cG (I9 l)<=cG l
 |[]=>by grind[I9,cG]
 |t::r=>by
  have b:=Jj t;have c:=GM r;grind[I9,uR,cG]
end
theorem FH:∀l a,cG (dd a l)<=cG a+cG l
 |[],a=>by grind[dd,cG]
 |t::r,a=>by
  rw[dd,cG];split
  .have:=FH r a;omega
  .have:=FH r (a++[t]);grind[uR,cG]
def Jl(l):sz (Z9 l)<=1+cG l:=by
 grind[Z9,sz,cG,FH,I9,GM]
def vW{m}:∀l,(∀x∈l,sz x<=m)->cG l<=l.length*m
 |[],_=>by simp[cG]
 |t::r,h=>by
  have a:=h t (by simp);have b:=vW r λx c=>h x (by grind);grind[cG,jQ,Nat.add_mul]
section
variable{c:Cx}(a:jD c)
include a
theorem BR{x}(h:Pz c.T x)(e:x≠-1):sz (tr c.T x.toNat)<=300:=by
 obtain h|⟨j,rfl,hj,hs⟩:=h
 .omega
 .have:=a.jr;grind
def Vh(x):sz (jJ c.T (aC c.N x))<=300:=by
 grind[jJ,Z5,sz,cG,BR,nJ]
theorem Cz(x):sz (V9 c [] x)<=300:=by
 grind[V9,BR,nJ,aX,Z5,sz,cG]
theorem wj{i}(e:i<c.N.length):sz (lV c c.N[i])<=400000:=by
 have f:=Vh a i;rw[B9 e]at f;have g:=vW (m:=300) (c.N[i].M.map (V9 c [])) λx j=>by
  grind[Cz]
 have h:=a.ls i e;grind[uZ,lV,sz,cG]
variable{b:Of}{i:Nat}(d:yJ c b i)
include d
omit a in
theorem qH{x:Int}(h:Pe c.N i x):sz (aX b x)<=300:=by
 obtain⟨j,rfl,e,k,g⟩:=h;obtain⟨t,f⟩:=d.ex j k g (.inl e);unfold aX;rw[tQ,lQ,f];exact d.sm j t e f
theorem PJ{j}(f:j<c.N.length)(e:c.N[j].x=6):sz (aX b j)<=400000:=by
 obtain⟨t,g⟩:=d.ex j f (by rw[e];exact⟨by decide,by decide⟩) (.inr e);unfold aX;rw[tQ,lQ,g];by_cases h:j<i
 .have:=d.sm j t h g;grind
 .have:=d.later j f (by omega);grind[wj]
def Qf{x}(h:Tg c.N i x):sz (V9 c b x)<=400000:=by
 obtain⟨j,rfl,k,q,g⟩:=h;have p:=nJ a (j:Int);unfold V9;split
 .grind[BR]
 split
 .rename_i f;rw[B9 k]at f⊢;obtain g|⟨_,n,e,o,l,h6⟩:=g
  .obtain⟨n,e,o,l,m⟩:=((a.ep j k).lq f).2;have:=qH d ⟨n,e,by omega,l,m⟩;omega
  grind[PJ]
 grind[Z5,sz,cG]
omit a in
theorem MS{x:Int}(h:Pe c.N i x){t:Tr}(e:t∈(aX b x).ks):sz t<=300:=by
 have f:=qH d h;have g:=O9 e;omega
omit a in
theorem WG{x:Int}(h:Pe c.N i x):sz ((aX b x).ks.headD Z5)<=300:=by
 cases e:(aX b x).ks<;>grind[aX,Z5,sz,cG,MS]
omit a in
def Pb{n:C}(e:Pe c.N i n.a){t:Tr}(h:J7 b n=some t):sz t<=300:=by
 unfold J7 at h;obtain⟨_,h⟩|⟨_,h⟩:=D5 h
 .grind[zQ,qH]
 obtain⟨_,h⟩|⟨_,h⟩:=D5 h<;>grind[zQ,dV,sz,cG,MS,Y8]
omit a in
def Ui{n:C}(e:Pe c.N i n.a){t:Tr}(h:J2 b n=some t):sz t<=300:=by
 unfold J2 at h;obtain⟨_,h⟩|⟨_,h⟩:=D5 h
 .obtain⟨_,h⟩|⟨_,h⟩:=D5 h
  .grind[zQ,qH]
  grind[WG]
 grind
def uw(g:i<c.N.length){t}(h:D7 c b i=some t):sz t<=1000000:=by
 have F:∀k:Int,∀{u:Tr},some (dV k)=some u->sz u<=1000000:=λk u h=>by
  grind[zQ,dV,sz,cG]
 have f:=a.ep i g;have N:=a.ls i g;unfold D7 at h;rw[B9 g]at h;obtain⟨_,h⟩|⟨_,h⟩:=D5 h
 .grind
 obtain⟨_,h⟩|⟨_,h⟩:=D5 h
 .grind
 obtain⟨_,h⟩|⟨_,h⟩:=D5 h
 .grind
 obtain⟨w,h⟩|⟨_,h⟩:=D5 h
 .simp only[zQ]at h;subst h;have:=Qf a d (a.ob.tg i g (.inl w));omega
 obtain⟨G,h⟩|⟨_,h⟩:=D5 h
 .grind[zQ,PJ]
 obtain⟨p,h⟩|⟨_,h⟩:=D5 h
 .unfold kY at h;rw[B9 g]at h;have l:=qH d (f.k7 p).1;have o:=WG d (f.k7 p).1;grind
 obtain⟨z,h⟩|⟨_,h⟩:=D5 h
 .have:=Pb d (f.k1 (.inl z)) h;omega
 obtain⟨A,h⟩|⟨_,h⟩:=D5 h
 .have:=Ui d (f.k2 (.inl A)).1 h;omega
 obtain⟨r,h⟩|⟨_,h⟩:=D5 h
 .simp at h;subst h;have o:=vW (c.N[i].M.map λx=>aX b (aC c.N x).a) λx m=>by
   obtain⟨y,n,rfl⟩:=qZ.1 m;obtain⟨j,rfl,H,q,M⟩:=(f.l6 r).1 y n;rw[B9 q];obtain⟨D,e,L,B⟩:=(a.ep j q).k1 (by omega);exact qH d ⟨D,e,by omega,B⟩
  grind[uZ,wA,sz]
 obtain⟨s,h⟩|⟨_,h⟩:=D5 h
 .simp at h;subst h;have l:=Jl (c.N[i].M.map (aX b));have o:=vW (c.N[i].M.map (aX b)) λx m=>by
   obtain⟨y,n,rfl⟩:=qZ.1 m;exact qH d (f.nt s y n)
  grind[uZ,yE,sz,cG]
 obtain⟨_,h⟩|⟨_,h⟩:=D5 h
 .unfold qP at h;obtain⟨_,h⟩|⟨_,h⟩:=D5 h
  .grind
  obtain⟨_,h⟩|⟨_,h⟩:=D5 h
  .unfold pD at h;obtain⟨_,h⟩|⟨_,h⟩:=D5 h
   .exact F 5 h
   grind
  grind
 obtain⟨_,h⟩|⟨_,h⟩:=D5 h
 .grind[qL]
 obtain⟨v,h⟩|⟨_,h⟩:=D5 h
 .simp at h;subst h;have l:=(f.ld v).2;have:=BR a (.inr l) (by obtain⟨j,e,_⟩:=l;omega);omega
 grind
def Zj(k:qN b)(f)(h:c.N[i].x=11):dF (c.N[i].M.map (aX b))<=25000000:=by
 have j:=a.ep i f;have n:=a.ls i f;have l:=wC (c.N[i].M.map (aX b)) λx e=>by
  obtain⟨y,g,rfl⟩:=qZ.1 e;exact Ya (k.a y)
 have m:=vW (c.N[i].M.map (aX b)) λx e=>by
  obtain⟨y,g,rfl⟩:=qZ.1 e;exact qH d (j.nt h y g)
 grind
end
def WV{l}{N}{T}{i}{x}(c:(M8 l).2.1=0)(d:∀k,jG 0 ⟨0,[],[]⟩ (fV (M8 l).1 (k+60))=some (.ok ⟨i,N,T⟩ x))(a:N.length<=1200)(b:T.length<=300):dI l (.inr (N,T)):=
 ⟨c,⟨i,N,T⟩,x,⟨60,λf e=>by
  obtain⟨k,rfl⟩:∃k,f=k+60:=⟨f-60,by omega⟩;grind⟩,a,b,rfl,rfl⟩
def MK:List K:=[.nd 21 [] 0 [.nd 12 [43] 0 [.nd 1 [] 1 [],.nd 3 [] 1 []]]]
def DG:∀p∈MK,Wn p/\17<=p.k/\p.k<=25:=by
 intro p a;simp only[MK,jW,yZ,or_false]at a;subst a;exact⟨yW (CP (by decide) (w1 (by omega)) (by grind[aO,K.k]) (w3 (.inr rfl)) (by grind[aO,K.k])) (by grind[aO,K.k]),by simp[K.k]⟩
def fN:Y:=[102]
def On:Q8 fN:=⟨by decide,by decide,by decide,by decide,λc a=>by simp[fN]at a;subst a;decide⟩
def vL:List C:=[⟨16,0,0,0,[],[120],0,0,11⟩,⟨5,0,0,0,[],[120],0,-1,27⟩,⟨21,1,0,0,[],[],0,-1,21⟩,⟨26,0,0,0,[2],[],0,-1,19⟩,⟨6,3,0,0,[0],[],0,-1,8⟩,⟨17,4,0,0,[],[102],0,-1,0⟩,⟨26,0,0,0,[5],[],0,-1,0⟩]
def vF:List Ty:=[⟨1,[],[],0⟩]
def vK:List K:=[.nd 17 fN 0 [.ty none,.nd 6 [] 0 [.nd 16 xN 0 [.ty (some (.nd 1 [] []))],.ty none,.nd 26 [] 0 [.nd 21 [] 0 [.nd 5 xN 0 []]]]]]
def Sj:dI [108,101,116,32,102,32,61,32,102,110,40,120,58,32,110,117,109,41,32,123,32,112,114,105,110,116,32,120,59,32,125,59] (.inr (vL,vF)):=WV (by rfl) (λk=>by rfl) (by decide) (by decide)
def Ci:∀p∈vK,Wn p/\17<=p.k/\p.k<=25:=by
 intro p a;simp only[vK,jW,yZ,or_false]at a;subst a;refine⟨MD On trivial (.inl rfl) (w6 (ps:=[.nd 16 xN 0 [.ty (some (.nd 1 [] []))]]) ?_ (by decide) trivial (.inl rfl) (lT ?_) rfl) (by grind[aO,K.k]),by simp[K.k]⟩
 .intro p a;simp at a;subst a;exact⟨ME RJ (Wf.plain 1 (by decide) (by decide)) (.inr rfl),rfl⟩
 .intro p a;simp at a;grind[yW,w5,RJ,aO,K.k]
def Uh:bH vL vF vK:=⟨Ci,by rfl,by rfl,by decide+kernel,by decide+kernel,by decide,by decide⟩
def Ch:cX [] 0 (.nd 26 [] 0 vK)=.ok [] [(1,0)]:=by rfl
def DH:Of:=[none,some (.nd 1 [] []),none,none,some (.nd 9 [] [.nd 5 [] [],.nd 1 [] []]),none,none]
def zq:kR (bM vL vF [(1,0)])=.inr DH:=by rfl
theorem zu:iJ (bM vL vF [(1,0)]) DH=[(0,1)]:=by rfl
